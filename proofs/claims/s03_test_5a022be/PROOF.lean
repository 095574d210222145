import PyProof.Rows.All
import Wide.All
import OpenK.AllK
import Wide.FinOn
import PyProof.EqAt
import PyProof.EqKinds
import PyProof.TupleCall
import KE.BitLaws
import KE.KEqDict
import KE.KDictLaws
import KE.OsGo
import PyProof.Rows.TupDisplay
import PyProof.ZipIter
import PyProof.ListNew
import KE.KSortTupG
import KE.KLam
import KE.KNestM
import KE.KDictList
import PySem.Challenge.RW_leastone_s03_test
-- CHANGE: your row's module here, as the last of these rows
set_option Elab.async false
set_option linter.all false
set_option maxRecDepth 100000
namespace PySem
open Sem (wp)
abbrev NKey := Int × List Int
def IsNest (prog : Program) (w : World) (h : Heap) (k : NKey) (a : Addr) : Prop :=
  ∃ o n t b, h.get? a = some o ∧ o.cls = .type "tuple" ∧ o.data = .seq #[.int k.1 t, .ref b] n ∧ IsTupleKey (intKind prog w) h k.2 b
def nestHash (prog : Program) (w : World) (k : NKey) : Int := reduceHash (Builtin.Tuple.tupleHashOf [(intKind prog w).hash k.1, tupleKeyHash (intKind prog w) k.2])
section
variable {prog : Program} {w : World} {A : Around} {E : Value → Shared → Prop} {s : Shared}
theorem IsNest.typeIs {k : NKey} {a : Addr} (x : IsNest prog w s.heap k a) : s.TypeIs (.ref a) "tuple" := let ⟨o, _, _, _, ho, hc, _⟩ := x; ⟨o, ho, hc⟩
theorem IsNest.inj {h : Heap} {a : Addr} {x y : NKey} (hx : IsNest prog w h x a) (hy : IsNest prog w h y a) : x = y := by
  obtain ⟨o, n, t, b, ho, _, hd, hi⟩ := hx
  obtain ⟨o', n', t', b', ho', _, hd', hi'⟩ := hy
  obtain rfl : o = o' := Option.some.inj (ho.symm.trans ho')
  rw [hd] at hd'
  injection hd' with h1 _
  have h2 := congrArg Array.toList h1
  simp only [List.cons.injEq, Value.int.injEq, Value.ref.injEq, and_true] at h2
  obtain ⟨⟨e1, _⟩, e2⟩ := h2
  subst e2
  exact Prod.ext e1 (hi.inj hi')
theorem IsNest.keeps {h h' : Heap} {k : NKey} {a d : Addr} {o : Obj} {es ep} (x : IsNest prog w h k a) (ho : h.get? d = some o) (hd : o.data = .dict es ep) (hs : Heap.SameBut d h h') : IsNest prog w h' k a := by
  obtain ⟨o', n, t, b, ho', hc, hd', hi⟩ := x
  have hne : a ≠ d := by
    rintro rfl
    obtain rfl : o' = o := Option.some.inj (ho'.symm.trans ho)
    rw [hd] at hd'; exact nomatch hd'
  exact ⟨o', n, t, b, (hs.2 a hne).trans ho', hc, hd', hi.keeps ho hd hs⟩
theorem nestInt_is (i : Int) (t : Tok) : (intKind prog w).is i (.int i t) = true := by
  show Value.isInt i (.int i t) = true
  simp [Value.isInt]
theorem wpAny_pyHash_nest {k : NKey} {a : Addr} {Q : Int → Shared → Prop} (hu : A.units + 1 < cLine) (hk : IsNest prog w s.heap k a) (h : Q (nestHash prog w k) { s with toks := s.toks + (k.2.length + 3) }) :
    wpAny (model prog w) A (pyHash (.ref a)) Q E s := by
  have hT := hk.typeIs
  obtain ⟨o, n, t, b, ho, _, hd, hi⟩ := hk
  unfold pyHash
  first | unfold pyHashByItsType | skip
  first | refine wpAny_bind (wpAny_cRoomFor_or (.inr (by omega)) ?_) | skip
  refine wpAny_bind (wpAny_specialOf hT F.slot_tuple_hash.lookup ?_)
  show wpAny _ _ (if (some (Value.builtin "tuple.__hash__") == some Value.none) = true then _ else _) Q E s
  rw [if_neg (by rw [beq_builtin_none]; exact Bool.false_ne_true)]
  refine wpAny_bind (wpAny_specialOf hT F.slot_tuple_hash.lookup ?_)
  show wpAny _ _ (callSpecialIfBoundUnlessNone? (.ref a) "__hash__" _ >>= _) Q E s
  refine wpAny_bind (wpAny_callSpecialIfBoundUnlessNone?_slot hT F.slot_tuple_hash (wpAny_call_entry F.slot_tuple_hash hT F.entry_tuple_hash ?_ (F.args_tuple_hash_1 _)))
  show wpAny _ _ (Builtin.Tuple.tupleItemsOf (.ref a) >>= _) _ _ s
  refine wpAny_bind (wpAny_tupleItemsOf ho hd ?_)
  refine wpAny_bind ?_
  rw [← Array.forIn_toList]
  refine wpAny_forIn_list _
    (fun rest (c : Array Int) s' => (rest = [.int k.1 t, .ref b] ∧ c = #[] ∧ s' = s) ∨ (rest = [.ref b] ∧ c = #[(intKind prog w).hash k.1] ∧ s' = { s with toks := s.toks + 1 }) ∨
      (rest = [] ∧ c = #[(intKind prog w).hash k.1, tupleKeyHash (intKind prog w) k.2] ∧ s' = { s with toks := s.toks + 1 + (k.2.length + 1) }))
    _ ?_ ?_ _ _ (.inl ⟨rfl, rfl, rfl⟩)
  · rintro x rest c s' (⟨e, rfl, rfl⟩ | ⟨e, rfl, rfl⟩ | ⟨e, _⟩)
    · cases e
      refine wpAny_bind ((intKind prog w).pyHash (nestInt_is k.1 t) ?_)
      first
        | exact wpAny_pure (.inr (.inl ⟨rfl, rfl, rfl⟩))
        | exact wpAny_bind (wpAny_pure (wpAny_pure (.inr (.inl ⟨rfl, rfl, rfl⟩))))
    · cases e
      refine wpAny_bind (wpAny_pyHash_tuple (knd := intKind prog w) (A := A.in1) hu hi ?_)
      first
        | exact wpAny_pure (.inr (.inr ⟨rfl, rfl, rfl⟩))
        | exact wpAny_bind (wpAny_pure (wpAny_pure (.inr (.inr ⟨rfl, rfl, rfl⟩))))
    · cases e
  · rintro c s' (⟨e, _⟩ | ⟨e, _⟩ | ⟨_, rfl, rfl⟩)
    · cases e
    · cases e
    show wpAny _ _ (retInt (Builtin.Tuple.tupleHashOf [(intKind prog w).hash k.1, tupleKeyHash (intKind prog w) k.2])) _ _ _
    refine wpAny_ret_mkInt ?_
    show wpAny _ _ (if (decide (-(2 : Int) ^ 63 ≤ Builtin.Tuple.tupleHashOf [(intKind prog w).hash k.1, tupleKeyHash (intKind prog w) k.2]) && decide (Builtin.Tuple.tupleHashOf [(intKind prog w).hash k.1, tupleKeyHash (intKind prog w) k.2] < 2 ^ 63)) = true then _ else _) Q E _
    unfold nestHash reduceHash at h
    have et : s.toks + 1 + (k.2.length + 1) + 1 = s.toks + (k.2.length + 3) := by omega
    by_cases hr : (decide (-(2 : Int) ^ 63 ≤ Builtin.Tuple.tupleHashOf [(intKind prog w).hash k.1, tupleKeyHash (intKind prog w) k.2]) && decide (Builtin.Tuple.tupleHashOf [(intKind prog w).hash k.1, tupleKeyHash (intKind prog w) k.2] < 2 ^ 63)) = true
    · rw [if_pos hr]
      rw [if_pos hr, ← et] at h
      exact wpAny_pure h
    · rw [if_neg hr]
      rw [if_neg hr, ← et] at h
      exact wpAny_bind (wpAny_rule (wpAny_pure h))
theorem nest_eq_tree {x y : NKey} {a b : Addr} {P : Fin → Shared → Prop} (hu : A.units < cLine) (hx : IsNest prog w s.heap x a) (hy : IsNest prog w s.heap y b) (h : P (.done (.ret (.bool (decide (x = y))))) s) :
    wpAny (model prog w) A (Builtin.«tuple.__eq__» ⟨[.ref a, .ref b], []⟩) P E s := by
  have hTb := hy.typeIs
  obtain ⟨oa, na, ta, ca, hoa, _, hda, hia⟩ := hx
  obtain ⟨ob, nb, tb, cb, hob, _, hdb, hib⟩ := hy
  show wpAny _ _ (isInstance (.ref b) (.type "tuple") >>= _) _ _ s
  refine wpAny_bind (wpAny_isInstance hTb isSubtype_tuple_tuple ?_)
  simp only [Bool.not_true, Bool.false_eq_true, if_false]
  refine wpAny_bind (wpAny_tupleItemsOf hoa hda ?_)
  refine wpAny_bind (wpAny_tupleItemsOf hob hdb ?_)
  refine wpAny_bind ?_
  refine wpAny_forIn_list _
    (fun rest r s' => r.1 = none ∧ s' = s ∧ (rest = [(.int x.1 ta, .int y.1 tb), (.ref ca, .ref cb)] ∨ (rest = [(.ref ca, .ref cb)] ∧ x.1 = y.1) ∨ (rest = [] ∧ x = y)))
    _ ?_ ?_ _ _ ⟨rfl, rfl, .inl rfl⟩
  · rintro ⟨u, v⟩ rest r s' ⟨hr, rfl, e | ⟨e, e1⟩ | ⟨e, _⟩⟩
    · cases e
      refine wpAny_bind ((intKind prog w).eqBool (a := x.1) (b := y.1) (nestInt_is _ _) (nestInt_is _ _) ?_)
      by_cases hk : x.1 = y.1
      · rw [decide_eq_true hk]
        simp only [Bool.not_true, Bool.false_eq_true, if_false]
        exact wpAny_pure ⟨rfl, rfl, .inr (.inl ⟨by trivial, hk⟩)⟩
      · rw [decide_eq_false hk]
        simp only [Bool.not_false, if_true]
        have hf : decide (x = y) = false := decide_eq_false fun q => hk (by rw [q])
        rw [hf] at h
        exact wpAny_bind (wpAny_pure (wpAny_pure (wpAny_pure h)))
    · cases e
      refine wpAny_bind (wpAny_eqBool_tuple (knd := intKind prog w) hu hia hib ?_)
      by_cases hk : x.2 = y.2
      · rw [decide_eq_true hk]
        simp only [Bool.not_true, Bool.false_eq_true, if_false]
        exact wpAny_pure ⟨rfl, rfl, .inr (.inr ⟨by trivial, Prod.ext e1 hk⟩)⟩
      · rw [decide_eq_false hk]
        simp only [Bool.not_false, if_true]
        have hf : decide (x = y) = false := decide_eq_false fun q => hk (by rw [q])
        rw [hf] at h
        exact wpAny_bind (wpAny_pure (wpAny_pure (wpAny_pure h)))
    · cases e
  · rintro ⟨r1, r2⟩ s' ⟨hr, rfl, e | ⟨e, _⟩ | ⟨_, e⟩⟩
    · cases e
    · cases e
    simp only at hr
    subst hr
    refine wpAny_pure ?_
    show P (.done (.ret (.bool (2 == 2)))) s'
    rw [decide_eq_true e] at h
    exact h
theorem wpAny_eqBool_nest {x y : NKey} {a b : Addr} {Q : Bool → Shared → Prop} (hu : A.units + 1 < cLine) (hx : IsNest prog w s.heap x a) (hy : IsNest prog w s.heap y b) (h : Q (decide (x = y)) s) :
    wpAny (model prog w) A (eqBool (.ref a) (.ref b)) Q E s := by
  unfold eqBool
  try with_reducible refine wpAny_holding ?_
  show wpAny _ _ (if (Value.ref a == Value.ref b) = true then _ else _) Q E s
  by_cases hab : (Value.ref a == Value.ref b) = true
  · rw [if_pos hab]
    have e : a = b := by have := eq_of_beq hab; injection this
    subst e
    obtain rfl := hx.inj hy
    exact wpAny_bind (wpAny_rule (wpAny_pure (by simpa using h)))
  · rw [if_neg hab]
    exact wpAny_bind (wpAny_richCompare_same_room (op := .Eq) hx.typeIs hy.typeIs F.slot_tuple_eq
      (wpAny_call_entry F.slot_tuple_eq hx.typeIs F.entry_tuple_eq (nest_eq_tree (A := A.in1) hu hx hy ⟨_, rfl, (fun e => nomatch e), wpAny_truthy_bool h⟩) (F.args_tuple_eq_2 _ _)) (by omega))
theorem wpAny_eqIsQuiet_tupleN {K : Type} [DecidableEq K] {knd : KeyKind prog w K} (n : Nat) {ks : List K} {a : Addr} {Q : Bool → Shared → Prop} (hk : IsTupleKey knd s.heap ks a) (h : Q true s) : wpAny (model prog w) A (eqIsQuiet (n + 1) (.ref a)) Q E s := by
  have hT := hk.typeIs
  obtain ⟨o, items, n, ho, _, hd, hi⟩ := hk
  unfold eqIsQuiet
  refine wpAny_bind (wpAny_specialOf hT F.slot_tuple_eq.lookup ?_)
  show wpAny _ _ (isInstance (.ref a) (.type "tuple") >>= _) _ _ s
  refine wpAny_bind (wpAny_isInstance hT isSubtype_tuple_tuple ?_)
  simp only [Bool.not_true, Bool.false_eq_true, if_false]
  refine wpAny_bind (wpAny_seqItems ho hd ?_)
  refine wpAny_bind ?_
  show wpAny _ _ (forIn items _ _) _ _ s
  rw [← Array.forIn_toList]
  refine wpAny_forIn_list _ (fun rest r s' => r.1 = none ∧ s' = s ∧ ∀ v ∈ rest, carriedByValue v = true) _ ?_ ?_ _ _ ⟨rfl, rfl, hi.byValue⟩
  · rintro v rest r s' ⟨hr, rfl, hall⟩
    rw [eqIsQuiet_byValue _ (hall v List.mem_cons_self)]
    refine wpAny_bind (wpAny_pure ?_)
    simp only [Bool.not_true, Bool.false_eq_true, if_false]
    exact wpAny_pure ⟨rfl, rfl, fun u hu' => hall u (List.mem_cons_of_mem _ hu')⟩
  · rintro ⟨r1, r2⟩ s' ⟨hr, rfl, _⟩
    simp only at hr
    subst hr
    exact wpAny_pure h
theorem wpAny_eqIsQuiet_nest {k : NKey} {a : Addr} {Q : Bool → Shared → Prop} (hk : IsNest prog w s.heap k a) (h : Q true s) : wpAny (model prog w) A (eqIsQuiet 8 (.ref a)) Q E s := by
  have hT := hk.typeIs
  obtain ⟨o, n, t, b, ho, _, hd, hi⟩ := hk
  unfold eqIsQuiet
  refine wpAny_bind (wpAny_specialOf hT F.slot_tuple_eq.lookup ?_)
  show wpAny _ _ (isInstance (.ref a) (.type "tuple") >>= _) _ _ s
  refine wpAny_bind (wpAny_isInstance hT isSubtype_tuple_tuple ?_)
  simp only [Bool.not_true, Bool.false_eq_true, if_false]
  refine wpAny_bind (wpAny_seqItems ho hd ?_)
  refine wpAny_bind ?_
  show wpAny _ _ (forIn (#[Value.int k.1 t, Value.ref b] : Array Value) _ _) _ _ s
  rw [← Array.forIn_toList]
  refine wpAny_forIn_list _ (fun rest r s' => r.1 = none ∧ s' = s ∧ (rest = [.int k.1 t, .ref b] ∨ rest = [.ref b] ∨ rest = [])) _ ?_ ?_ _ _ ⟨rfl, rfl, .inl rfl⟩
  · rintro v rest r s' ⟨hr, rfl, e | e | e⟩
    · cases e
      rw [eqIsQuiet_byValue _ (show carriedByValue (.int k.1 t) = true from rfl)]
      refine wpAny_bind (wpAny_pure ?_)
      simp only [Bool.not_true, Bool.false_eq_true, if_false]
      exact wpAny_pure ⟨rfl, rfl, .inr (.inl (by trivial))⟩
    · cases e
      refine wpAny_bind (wpAny_eqIsQuiet_tupleN 6 hi ?_)
      simp only [Bool.not_true, Bool.false_eq_true, if_false]
      exact wpAny_pure ⟨rfl, rfl, .inr (.inr (by trivial))⟩
    · cases e
  · rintro ⟨r1, r2⟩ s' ⟨hr, rfl, _⟩
    simp only at hr
    subst hr
    exact wpAny_pure h
end
def nestKind (prog : Program) (w : World) : HeapKind prog w NKey where
  is := IsNest prog w
  hash := nestHash prog w
  draws := fun k => k.2.length + 3
  room := fun A => A.units + 1 < cLine
  inj := fun hx hy => hx.inj hy
  keeps := fun x ho hd hs => x.keeps ho hd hs
  pyHash := fun hu hk h => wpAny_pyHash_nest hu hk h
  eqBool := fun hu hx hy h => wpAny_eqBool_nest hu hx hy h
  quiet := fun hk h => wpAny_eqIsQuiet_nest hk h
section
variable {prog : Program} {w : World} {K : Type} [DecidableEq K] {knd : HeapKind prog w K} {A : Around} {E : Value → Shared → Prop} {s : Shared}
theorem dictSetDefault_heap {d a : Addr} {xs : List (K × Addr × Value)} {k : K} {v : Value} {Q : Value → Shared → Prop} (hu : knd.room A) (hkey : knd.is s.heap k a) (hm : s.heap.DictOfH knd d xs) (hsz : xs.length ≤ sizeLine)
    (h1 : ∀ p, atKey xs k = some p → Q p.2 { s with toks := s.toks + knd.draws k })
    (h2 : atKey xs k = none → ∀ h', h'.DictOfH knd d (storedH xs k a v) → Heap.SameBut d s.heap h' → Q v { s with heap := h', toks := s.toks + knd.draws k }) :
    wpAny (model prog w) A (dictSetDefault d (.ref a) v) Q E s := by
  obtain ⟨o, es, ep, ho, hc, hd, he, his, hn⟩ := hm
  unfold dictSetDefault
  try with_reducible refine wpAny_holding ?_
  refine wpAny_bind (knd.pyHash hu hkey ?_)
  refine wpAny_bind (wpAny_dictFind_heap (s := { s with toks := s.toks + knd.draws k }) hu hkey ho hd he his hn ?_ ?_)
  · intro hno
    have hnot : k ∉ xs.map (·.1) := not_mem_keys_of_get hno
    refine wpAny_bind (wpAny_rule (wpAny_bind (wpAny_updateDictKeys (hz := by have e := size_of_entries he; omega) (s := { s with toks := s.toks + knd.draws k }) ho hd (wpAny_pure (h2 (atKey_none_of_get hno) _ ⟨_, _, ep + 1, Heap.get?_update_self _ ho (Obj.isFreed_of_dict (Obj.data_mapDictKeys hd _)),
      hc.mapDictKeys _, Obj.data_mapDictKeys hd _, ?_, ?_, ?_⟩ (Heap.SameBut.update ..))))))
    · rw [storedH_new (atKey_none_of_get hno)]
      simp [he, entryOfKey]
    · rw [storedH_new (atKey_none_of_get hno)]
      intro x hx
      rcases List.mem_append.mp hx with hx | hx
      · exact knd.keeps (his x hx) ho hd (Heap.SameBut.update ..)
      · simp only [List.mem_singleton] at hx
        subst hx
        exact knd.keeps hkey ho hd (Heap.SameBut.update ..)
    · rw [storedH_new (atKey_none_of_get hno)]
      rw [List.map_append, List.nodup_append]
      refine ⟨hn, by simp, ?_⟩
      intro x hx y hy
      simp only [List.map_cons, List.map_nil, List.mem_singleton] at hy
      subst hy
      exact fun e => hnot (e ▸ hx)
  · intro j p hj
    have q := h1 p (atKey_of_get hn hj)
    refine wpAny_bind (wpAny_dictEntries (s := { s with toks := s.toks + knd.draws k }) ho hd ?_)
    rw [entry_at he j, hj]
    exact wpAny_bind (wpAny_rule (wpAny_pure q))
theorem meetsH_setdefault (knd : HeapKind prog w K) (d a : Addr) (hd : (d == sysModules) = false) (dflt : Value) :
    MeetsIn prog w (Builtin.«dict.setdefault» ⟨[.ref d, .ref a, dflt], []⟩) (fun A R s => knd.room A.in1 ∧ ∃ k xs, knd.is s.heap k a ∧ s.heap.DictOfH knd d xs ∧ xs.length ≤ sizeLine ∧
      (∀ p, atKey xs k = some p → R (.ok (.ret p.2)) { s with toks := s.toks + knd.draws k }) ∧
      (atKey xs k = none → ∀ h', h'.DictOfH knd d (storedH xs k a dflt) → Heap.SameBut d s.heap h' → R (.ok (.ret dflt)) { s with heap := h', toks := s.toks + knd.draws k })) :=
  .of_wp fun A R s ⟨hu, k, xs, hkey, hm, hz, h1, h2⟩ => by
    unfold Builtin.«dict.setdefault»
    refine wpAny_bind ?_
    unfold Builtin.Dict.keyAndDefault
    refine wpAny_bind (wpAny_notOrdered_dict hm.typeIs ?_)
    show wpAny _ _ (pure (d, Value.ref a, some dflt)) _ _ s
    refine wpAny_pure ?_
    show wpAny _ _ (if (d == sysModules) = true then _ else (dictSetDefault d (.ref a) dflt >>= _)) _ _ s
    rw [if_neg (by rw [hd]; exact Bool.false_ne_true)]
    exact wpAny_bind (dictSetDefault_heap hu hkey hm hz (fun p hp => wpAny_pure ⟨p.2, rfl, h1 p hp⟩) fun hn h' hm' hs' => wpAny_pure ⟨dflt, rfl, h2 hn h' hm' hs'⟩)
theorem meetsH_len (knd : HeapKind prog w K) (d : Addr) (hd : (d == sysModules) = false) :
    MeetsIn prog w (Builtin.«dict.__len__» ⟨[.ref d], []⟩) (fun _ R s => ∃ xs, s.heap.DictOfH knd d xs ∧ R (.ok (.ret (.int xs.length s.toks))) { s with toks := s.toks + 1 }) :=
  .of_wp fun A R s ⟨xs, hm, h⟩ => by
    obtain ⟨o, es, ep, ho, hc, hdat, he, his, hn⟩ := hm
    show wpAny _ _ (dictSize d >>= _) _ _ s
    unfold dictSize
    refine wpAny_bind (wpAny_bind (wpAny_dictEntries ho hdat (wpAny_pure ?_)))
    show wpAny _ _ (Builtin.Dict.pendingCount d >>= _) _ _ s
    refine wpAny_bind (wpAny_pendingCount_other hd ?_)
    refine wpAny_ret_mkInt ?_
    rw [Nat.add_zero, size_of_entries he]; exact h
/-- len(d) -/
theorem call_len_heap {d : Addr} {xs : List (K × Addr × Value)} {Q : Value → Shared → Prop} (hd : (d == sysModules) = false) (hm : s.heap.DictOfH knd d xs) (hfit : (xs.length : Int) < 2 ^ 63)
    (h : Q (.int xs.length (s.toks + 1)) { s with toks := s.toks + 1 + 1 }) : wpAny (model prog w) A (call (.builtin "len") [.ref d]) Q E s := by
  refine Calls.call_function_entry kind_len plain_len entry_len (args_len1 _) ?_
  unfold Builtin.«len»
  refine wpAny_bind (m := oneArg "len" _) (wpAny_pure ?_)
  refine wpAny_bind (m := callSpecial? (.ref d) (Str.ofString "__len__")) (wpAny_callSpecial?_slot (name := Str.ofString "__len__") hm.typeIs F.slot_dict_len
    (call_meetsIn F.slot_dict_len hm.typeIs F.entry_dict_len (F.args_dict_len_1 _) (meetsH_len knd d hd) ⟨xs, hm, ?_⟩))
  show wpAny _ _ _ _ _ { s with toks := s.toks + 1 }
  refine wpAny_bind (wpAny_holding (wpAny_pure ?_))
  refine wpAny_bind (wpAny_letGo ?_)
  show wpAny _ _ (if ((xs.length : Nat) : Int) < 0 then _ else _) _ _ _
  rw [if_neg (by omega)]
  show wpAny _ _ (if ((xs.length : Nat) : Int) ≥ 2 ^ 63 then _ else _) _ _ _
  rw [if_neg (by omega)]
  exact wpAny_bind (wpAny_mkInt (wpAny_pure ⟨_, rfl, h⟩))
end
end PySem
namespace L2
open PySem PySem.Spec PyProof.Rows

/-- a key: an int or a str -/
abbrev Key := Sum Int Str
def keyIs : Key → Value → Bool
  | .inl k, v => Value.isInt k v
  | .inr x, v => Value.isStrOf x v
def keyH (w : World) : Key → Int
  | .inl k => hashInt k
  | .inr x => hashStr w x
theorem keyIs_shape : ∀ {k : Key} {v : Value}, keyIs k v = true → (∃ i t, k = Sum.inl i ∧ v = Value.int i t) ∨ (∃ x t, k = Sum.inr x ∧ v = Value.str x t)
  | .inl i, v, h => by
    obtain ⟨t, e⟩ := Value.isInt_shape (k := i) (v := v) h
    exact .inl ⟨i, t, rfl, e⟩
  | .inr x, v, h => by
    obtain ⟨t, e⟩ := Value.isStrOf_shape (x := x) (v := v) h
    exact .inr ⟨x, t, rfl, e⟩
theorem keyIs_int (i : Int) (t : Tok) : keyIs (.inl i) (.int i t) = true := by simp [keyIs, Value.isInt]
theorem keyIs_str (x : Str) (t : Tok) : keyIs (.inr x) (.str x t) = true := by simp [keyIs, Value.isStrOf]
theorem key_ll (a b : Int) : decide ((Sum.inl a : Key) = Sum.inl b) = (a == b) := by
  by_cases e : a = b
  · subst e; simp
  · have h : ¬ (Sum.inl a : Key) = Sum.inl b := fun q => e (Sum.inl.inj q)
    rw [decide_eq_false h]
    exact (beq_eq_false_iff_ne.mpr e).symm
theorem key_rr (a b : Str) : decide ((Sum.inr a : Key) = Sum.inr b) = decide (a = b) := by
  by_cases e : a = b
  · subst e; simp
  · have h : ¬ (Sum.inr a : Key) = Sum.inr b := fun q => e (Sum.inr.inj q)
    rw [decide_eq_false h, decide_eq_false e]
theorem key_lr (a : Int) (b : Str) : decide ((Sum.inl a : Key) = Sum.inr b) = false := decide_eq_false (fun q => nomatch q)
theorem key_rl (a : Str) (b : Int) : decide ((Sum.inr a : Key) = Sum.inl b) = false := decide_eq_false (fun q => nomatch q)

def mixKind (prog : Program) (w : World) : PySem.KeyKind prog w Key where
  is := keyIs
  hash := keyH w
  inj := fun v a b ha hb => by
    rcases keyIs_shape ha with ⟨i, t, rfl, rfl⟩ | ⟨x, t, rfl, rfl⟩
    · rcases keyIs_shape hb with ⟨j, u, rfl, e⟩ | ⟨y, u, rfl, e⟩
      · injection e with e1 _; rw [e1]
      · exact nomatch e
    · rcases keyIs_shape hb with ⟨j, u, rfl, e⟩ | ⟨y, u, rfl, e⟩
      · exact nomatch e
      · injection e with e1 _; rw [e1]
  byValue := fun k v h => by
    rcases keyIs_shape h with ⟨i, t, rfl, rfl⟩ | ⟨x, t, rfl, rfl⟩ <;> rfl
  pyHash := fun hv h => by
    rcases keyIs_shape hv with ⟨i, t, rfl, rfl⟩ | ⟨x, t, rfl, rfl⟩
    · exact wpAny_pyHash_int h
    · exact wpAny_pyHash_str h
  eqBool := fun hu hv h => by
    rcases keyIs_shape hu with ⟨i, t, rfl, rfl⟩ | ⟨x, t, rfl, rfl⟩
    · rcases keyIs_shape hv with ⟨j, u, rfl, rfl⟩ | ⟨y, u, rfl, rfl⟩
      · rw [key_ll] at h; exact wpAny_eqBool_int h
      · rw [key_lr] at h; exact SeqAt.EqAt.int_str i t y u _ _ _ _ h
    · rcases keyIs_shape hv with ⟨j, u, rfl, rfl⟩ | ⟨y, u, rfl, rfl⟩
      · rw [key_rl] at h; exact SeqAt.EqAt.str_int x t j u _ _ _ _ h
      · rw [key_rr] at h; exact wpAny_eqBool_str h
  «strs» := fun k x t v h => by
    rcases keyIs_shape h with ⟨i, u, rfl, e⟩ | ⟨y, u, rfl, e⟩
    · exact nomatch e
    · injection e with e1 _
      subst e1
      cases v <;> rfl

theorem mixKind_int (prog : Program) (w : World) (i : Int) (t : Tok) : (mixKind prog w).is (.inl i) (.int i t) = true := keyIs_int i t
theorem mixKind_str (prog : Program) (w : World) (x : Str) (t : Tok) : (mixKind prog w).is (.inr x) (.str x t) = true := keyIs_str x t
end L2

namespace L2
open PySem PySem.Spec PyProof.Rows

/-- a value, without the heap -/
inductive V where
  | non | bl (b : Bool) | int (i : Int) | str (x : Str) | byt (b : Array UInt8) | flt (b : UInt64) | ref (a : Addr) | ty (n : String)
  deriving DecidableEq

def RelV : V → Value → Prop
  | .non, u => u = Value.none
  | .bl b, u => u = Value.bool b
  | .int i, u => ∃ t, u = Value.int i t
  | .str x, u => ∃ t, u = Value.str x t
  | .byt b, u => ∃ t, u = Value.bytes b t
  | .flt b, u => ∃ t, u = Value.float b t
  | .ref a, u => u = Value.ref a
  | .ty n, u => u = Value.type n

abbrev Vals : List V → List Value → Prop := Paired RelV
theorem Vals.length {xs : List V} {us : List Value} (r : Vals xs us) : xs.length = us.length := Paired.length r
theorem Vals.get : ∀ {xs : List V} {us : List Value} {i : Nat} {x : V}, Vals xs us → xs[i]? = some x → ∃ u, us[i]? = some u ∧ RelV x u
  | _, _, _, _, .nil, e => by simp at e
  | _, _, 0, _, .cons r _, e => by simp at e; subst e; exact ⟨_, rfl, r⟩
  | _, _, i + 1, x, .cons _ t, e => by
    obtain ⟨u, h1, h2⟩ := Vals.get (i := i) (x := x) t (by simpa using e)
    exact ⟨u, by simpa using h1, h2⟩
theorem Vals.set {x : V} {u : Value} (r : RelV x u) : ∀ {xs : List V} {us : List Value} (i : Nat), Vals xs us → Vals (xs.set i x) (us.set i u)
  | _, _, _, .nil => .nil
  | _, _, 0, .cons _ t => .cons r t
  | _, _, i + 1, .cons q t => .cons q (Vals.set r i t)
theorem Vals.append : ∀ {xs ys : List V} {us ws : List Value}, Vals xs us → Vals ys ws → Vals (xs ++ ys) (us ++ ws)
  | _, _, _, _, .nil, s => s
  | _, _, _, _, .cons r t, s => .cons r (Vals.append t s)
theorem Vals.take : ∀ {xs : List V} {us : List Value} (n : Nat), Vals xs us → Vals (xs.take n) (us.take n)
  | _, _, 0, _ => .nil
  | _, _, _ + 1, .nil => .nil
  | _, _, n + 1, .cons r t => .cons r (Vals.take n t)
theorem Vals.drop : ∀ {xs : List V} {us : List Value} (n : Nat), Vals xs us → Vals (xs.drop n) (us.drop n)
  | _, _, 0, r => r
  | _, _, _ + 1, .nil => .nil
  | _, _, n + 1, .cons _ t => Vals.drop n t
theorem Vals.none_of : ∀ {xs : List V} {us : List Value} {i : Nat}, Vals xs us → xs[i]? = none → us[i]? = none := fun {xs us i} r e => by
  have h1 := r.length
  have h2 : xs.length ≤ i := List.getElem?_eq_none_iff.mp e
  exact List.getElem?_eq_none_iff.mpr (by omega)

def RelO : Option V → Option Value → Prop
  | some v, some u => RelV v u
  | none, none => True
  | _, _ => False
def KV {κ : Type} : List (κ × V) → List (κ × Value) → Prop := Paired fun (p : κ × V) (q : κ × Value) => p.1 = q.1 ∧ RelV p.2 q.2

/-- a key of a dict (00_mix): an int or a text -/
def kV : Key → V
  | .inl i => .int i
  | .inr x => .str x

/-- what stands at a tracked address -/
inductive HO where
  /-- a list -/
  | lst (xs : List V)
  /-- a tuple (never changes) -/
  | tup (xs : List V)
  /-- a dict whose keys are ints and texts; one whose keys are tuples of ints and texts (the empty one is both) -/
  | dK (kvs : List (Key × V)) | dT (kvs : List (List Key × V))
  /-- one whose keys are a number and a tuple of numbers -/
  | dN (kvs : List (NKey × V))
  /-- a set of ints: its members, its size -/
  | set (S : Int → Bool) (n : Nat)
  /-- an instance of the class at C, its dict at dx, its attributes -/
  | ins (C dx : Addr) (fs : List (Str × V))
  /-- the dict of the instance at x -/
  | own (x : Addr)
  /-- the dict of an exception -/
  | xd (fs : List (Str × V))
  /-- a bound method, f of x -/
  | met (f x : Addr)
  /-- a range object lo, lo + 1, .. below hi -/
  | rng (lo hi : Int)
  /-- a thing that is known to the object (the script; a dict while a loop walks it): read, never written while it is so -/
  | frz (o : Obj) (u : HO)
  /-- a code object's table -/
  | tbl (ps : Array Value)
  /-- any other thing, by what is true of its one object (a def of one's own: SetO a S n := HO.ext fun h => ..) -/
  | ext (φ : Heap → Prop)

abbrev Hp := Addr → Option HO
def upd (H : Hp) (a : Addr) (o : HO) : Hp := fun b => if b = a then some o else H b
theorem upd_same {H : Hp} {a : Addr} {o : HO} : upd H a o a = some o := by unfold upd; rw [if_pos rfl]
theorem upd_ne {H : Hp} {a b : Addr} {o : HO} (h : b ≠ a) : upd H a o b = H b := by unfold upd; rw [if_neg h]
/-- two objects of different content stand apart -/
theorem ne_of {H : Hp} {a b : Addr} {o u : HO} (h : H a = some o) (h' : H b = some u) (d : o ≠ u) : a ≠ b := by
  intro e; subst e; rw [h] at h'; exact d (Option.some.inj h')
theorem ne_of_none {H : Hp} {a b : Addr} {o : HO} (h : H a = some o) (h' : H b = none) : a ≠ b := by
  intro e; subst e; rw [h] at h'; cases h'

/-- a number and a tuple of numbers, as a tuple -/
def NestAt (H : Hp) (k : NKey) (b : Addr) : Prop := ∃ c, H b = some (.tup [.int k.1, .ref c]) ∧ H c = some (.tup (k.2.map V.int))
theorem NestAt.mono {H H' : Hp} {k : NKey} {b : Addr} (x : NestAt H k b) (ht : ∀ b xs, H b = some (.tup xs) → H' b = some (.tup xs)) : NestAt H' k b := let ⟨c, e1, e2⟩ := x; ⟨c, ht _ _ e1, ht _ _ e2⟩
section
variable (P : Program) (w : World)
def ObjOk (H : Hp) (h : Heap) (a : Addr) : HO → Prop
  | .lst xs => xs.length ≤ sizeLine ∧ ∃ (its : List Value) (n : Nat), Vals xs its ∧ h.get? a = some { cls := .type "list", data := .seq its.toArray n }
  | .tup xs => xs.length ≤ sizeLine ∧ ∃ its : List Value, Vals xs its ∧ IsTup h a its.toArray
  | .dK kvs => kvs.length ≤ sizeLine ∧ (a == sysModules) = false ∧ ∃ vs, KV kvs vs ∧ h.DictOf (mixKind P w) a vs
  | .dT kvs => kvs.length ≤ sizeLine ∧ (a == sysModules) = false ∧ ∃ xs : List (List Key × Addr × Value),
      Paired (fun (p : List Key × V) (q : List Key × Addr × Value) => p.1 = q.1 ∧ H q.2.1 = some (.tup (p.1.map kV)) ∧ RelV p.2 q.2.2) kvs xs ∧
      ∃ o es ep, h.get? a = some o ∧ o.ExactDict ∧ o.data = .dict es ep ∧ es.toList = xs.map (entryOfKey (tupleKind (mixKind P w))) ∧ (xs.map (·.1)).Nodup
  | .dN kvs => kvs.length ≤ sizeLine ∧ (a == sysModules) = false ∧ ∃ xs : List (NKey × Addr × Value),
      Paired (fun (p : NKey × V) (q : NKey × Addr × Value) => p.1 = q.1 ∧ NestAt H p.1 q.2.1 ∧ RelV p.2 q.2.2) kvs xs ∧
      ∃ o es ep, h.get? a = some o ∧ o.ExactDict ∧ o.data = .dict es ep ∧ es.toList = xs.map (entryOfKey (nestKind P w)) ∧ (xs.map (·.1)).Nodup
  | .set S n => h.SetOf (intKind P w) a S n
  | .ins C dx fs => H dx = some (.own a) ∧ fs.length ≤ 1000 ∧ dx ≠ a ∧ h.get? a = some (PySem.W.instObj C dx) ∧
      ∃ mA, h.Ns1 dx mA ∧ (∀ f, RelO (fs.lookup f) (mA f)) ∧ PySem.Within mA (fs.map (·.1))
  | .own _ => ∃ o, h.get? a = some o
  | .xd fs => ∃ mA, h.Ns1 a mA ∧ ∀ f, RelO (fs.lookup f) (mA f)
  | .rng lo hi => ∃ t u v, h.get? a = some { cls := .type "range", data := .fields #[.int lo t, .int hi u, .int 1 v] }
  | .frz o u => h.get? a = some o ∧ ObjOk H h a u
  | .tbl ps => h.get? a = some { cls := .none, data := .fields ps }
  | .met f x => h.get? a = some (PySem.W.methodObj (.ref f) (.ref x))
  | .ext φ => φ h ∧ (∃ o, h.get? a = some o) ∧ ∀ h1 h2 : Heap, φ h1 → (∀ o, h1.get? a = some o → h2.get? a = some o) → φ h2
/-- the abstract heap is held -/
def HOk (H : Hp) (h : Heap) : Prop := ∀ a o, H a = some o → ObjOk P w H h a o
end

section
variable {P : Program} {w : World} {H H' : Hp} {h h' : Heap} {a : Addr} {o : HO}
theorem ObjOk.lt (x : ObjOk P w H h a o) : a < h.objs.size := by
  cases o with
  | lst xs => obtain ⟨_, _, _, _, e⟩ := x; exact Heap.lt_size e
  | tup xs => obtain ⟨_, _, _, p⟩ := x; exact p.lt
  | dK kvs => obtain ⟨_, _, _, _, o, _, _, e, _⟩ := x; exact Heap.lt_size e
  | dT kvs => obtain ⟨_, _, _, _, o, _, _, e, _⟩ := x; exact Heap.lt_size e
  | dN kvs => obtain ⟨_, _, _, _, o, _, _, e, _⟩ := x; exact Heap.lt_size e
  | set S n => obtain ⟨o, _, _, _, e, _⟩ := x; exact Heap.lt_size e
  | ins C dx fs => obtain ⟨_, _, _, e, _⟩ := x; exact Heap.lt_size e
  | own y => obtain ⟨_, e⟩ := x; exact Heap.lt_size e
  | xd fs => obtain ⟨_, ⟨_, _, _, e, _⟩, _⟩ := x; exact Heap.lt_size e
  | rng lo hi => obtain ⟨_, _, _, e⟩ := x; exact Heap.lt_size e
  | frz ob u => obtain ⟨e, _⟩ := x; exact Heap.lt_size e
  | tbl ps => exact Heap.lt_size (show h.get? a = some _ from x)
  | met f y => exact Heap.lt_size (show h.get? a = some _ from x)
  | ext φ => obtain ⟨_, ⟨_, e⟩, _⟩ := x; exact Heap.lt_size e
theorem Paired.mapP {α β : Type} {F G : α → β → Prop} : ∀ {l₁ : List α} {l₂ : List β}, Paired F l₁ l₂ → (∀ a b, F a b → G a b) → Paired G l₁ l₂
  | _, _, .nil, _ => .nil
  | _, _, .cons r t, f => .cons (f _ _ r) (Paired.mapP t f)
/-- what an object's description leans on: its own object, its own dict, the tuples -/
theorem ObjOk.stay (x : ObjOk P w H h a o) (k : ∀ b u, (b = a ∨ H b = some (.own a)) → h.get? b = some u → h'.get? b = some u)
    (ho : ∀ b, H b = some (.own a) → H' b = some (.own a)) (ht : ∀ b xs, H b = some (.tup xs) → H' b = some (.tup xs)) : ObjOk P w H' h' a o := by
  induction o with
  | lst xs => obtain ⟨z, its, n, r, e⟩ := x; exact ⟨z, its, n, r, k _ _ (.inl rfl) e⟩
  | tup xs => obtain ⟨z, its, r, ob, e, c⟩ := x; exact ⟨z, its, r, ob, k _ _ (.inl rfl) e, c⟩
  | dK kvs => obtain ⟨z, y, vs, r, ob, es, ep, e, c⟩ := x; exact ⟨z, y, vs, r, ob, es, ep, k _ _ (.inl rfl) e, c⟩
  | dT kvs =>
    obtain ⟨z, y, xs, r, ob, es, ep, e, c⟩ := x
    exact ⟨z, y, xs, Paired.mapP r fun p q z => ⟨z.1, ht _ _ z.2.1, z.2.2⟩, ob, es, ep, k _ _ (.inl rfl) e, c⟩
  | dN kvs =>
    obtain ⟨z, y, xs, r, ob, es, ep, e, c⟩ := x
    exact ⟨z, y, xs, Paired.mapP r fun p q z => ⟨z.1, z.2.1.mono ht, z.2.2⟩, ob, es, ep, k _ _ (.inl rfl) e, c⟩
  | set S n => obtain ⟨ob, es, ep, t, e, c⟩ := x; exact ⟨ob, es, ep, t, k _ _ (.inl rfl) e, c⟩
  | ins C dx fs =>
    obtain ⟨d, z, ne, e, mA, ⟨od, es, ep, e2, c⟩, r⟩ := x
    exact ⟨ho _ d, z, ne, k _ _ (.inl rfl) e, mA, ⟨od, es, ep, k _ _ (.inr d) e2, c⟩, r⟩
  | own y => obtain ⟨ob, e⟩ := x; exact ⟨ob, k _ _ (.inl rfl) e⟩
  | xd fs => obtain ⟨mA, ⟨od, es, ep, e, c⟩, r⟩ := x; exact ⟨mA, ⟨od, es, ep, k _ _ (.inl rfl) e, c⟩, r⟩
  | rng lo hi => obtain ⟨t, u, v, e⟩ := x; exact ⟨t, u, v, k _ _ (.inl rfl) e⟩
  | frz ob u ih => obtain ⟨e, q⟩ := x; exact ⟨k _ _ (.inl rfl) e, ih q⟩
  | tbl ps =>
    have e : h.get? a = some { cls := .none, data := .fields ps } := x
    show h'.get? a = some { cls := .none, data := .fields ps }
    exact k a _ (.inl rfl) e
  | met f y =>
    have e : h.get? a = some (PySem.W.methodObj (.ref f) (.ref y)) := x
    show h'.get? a = some (PySem.W.methodObj (.ref f) (.ref y))
    exact k a _ (.inl rfl) e
  | ext φ => obtain ⟨p, ⟨o, e⟩, st⟩ := x; exact ⟨st _ _ p fun o q => k _ _ (.inl rfl) q, ⟨o, k _ _ (.inl rfl) e⟩, st⟩
theorem HOk.lt (x : HOk P w H h) (e : H a = some o) : a < h.objs.size := (x a o e).lt
theorem HOk.fresh (x : HOk P w H h) (e : h.objs.size ≤ a) : H a = none := by
  cases q : H a with
  | none => rfl
  | some u => exact absurd (Nat.lt_of_lt_of_le (x.lt q) e) (Nat.lt_irrefl _)
/-- every object of the heap is kept -/
theorem HOk.kept (x : HOk P w H h) (k : ∀ b u, h.get? b = some u → h'.get? b = some u) : HOk P w H h' := fun a o e =>
  (x a o e).stay (fun b u _ q => k b u q) (fun _ q => q) fun _ _ q => q
/-- a new object is laid and tracked -/
theorem HOk.laid (x : HOk P w H h) (k : ∀ b u, h.get? b = some u → h'.get? b = some u) (hp : h.objs.size ≤ a) (new : ObjOk P w (upd H a o) h' a o) : HOk P w (upd H a o) h' := fun b u e => by
  have hn := x.fresh hp
  by_cases hb : b = a
  · subst hb; rw [upd_same] at e; cases e; exact new
  · rw [upd_ne hb] at e
    exact (x b u e).stay (fun c v _ q => k c v q) (fun c q => by rw [upd_ne (ne_of_none q hn)]; exact q) fun c xs q => by rw [upd_ne (ne_of_none q hn)]; exact q
end

/-- what may be read as u: it is u, or a known u -/
def Rd (H : Hp) (a : Addr) (u : HO) : Prop := H a = some u ∨ ∃ o, H a = some (.frz o u)
theorem Rd.of {H : Hp} {a : Addr} {u : HO} (h : H a = some u) : Rd H a u := .inl h
theorem Rd.ok {P : Program} {w : World} {H : Hp} {h : Heap} {a : Addr} {u : HO} (r : Rd H a u) (x : HOk P w H h) : ObjOk P w H h a u := by
  rcases r with r | ⟨o, r⟩
  · exact x a u r
  · obtain ⟨_, q⟩ := x a _ r
    exact q
/-- what may be written -/
def Mut : Option HO → Prop
  | some (.lst _) => True
  | some (.dK _) => True
  | some (.dT _) => True
  | some (.dN _) => True
  | some (.set _ _) => True
  | some (.ins _ _ _) => True
  | some (.ext _) => True
  | _ => False
section
variable {P : Program} {w : World} {H : Hp} {h h' : Heap} {x e : Addr} {o' : HO}
/-- the object at e is changed: x itself, or the dict of the instance x -/
theorem HOk.write (ok : HOk P w H h) (mu : Mut (H x)) (he : e = x ∨ H e = some (.own x)) (k : ∀ b u, b ≠ e → h.get? b = some u → h'.get? b = some u) (heo : ∃ u, h'.get? e = some u)
    (new : ObjOk P w (upd H x o') h' x o') : HOk P w (upd H x o') h' := fun b u q => by
  have nown : ∀ c y, H c = some (.own y) → c ≠ x := fun c y r z => by subst z; rw [r] at mu; exact mu
  have ntup : ∀ c xs, H c = some (.tup xs) → c ≠ x := fun c xs r z => by subst z; rw [r] at mu; exact mu
  by_cases hb : b = x
  · subst hb; rw [upd_same] at q; cases q; exact new
  · rw [upd_ne hb] at q
    by_cases hbe : b = e
    · have q' : H b = some (.own x) := by
        rcases he with z | z
        · exact absurd (hbe.trans z) hb
        · rw [hbe]; exact z
      rw [q] at q'; cases q'
      obtain ⟨v, hv⟩ := heo
      exact ⟨v, by rw [hbe]; exact hv⟩
    · refine (ok b u q).stay (fun c v hc r => k c v ?_ r) (fun c r => by rw [upd_ne (nown c b r)]; exact r) fun c xs r => by rw [upd_ne (ntup c xs r)]; exact r
      rcases hc with rfl | hc
      · exact hbe
      · rintro rfl
        rcases he with z | z
        · exact nown c b hc z
        · rw [hc] at z; cases z; exact hb rfl
end

structure Un (fs ex : List Addr) (H H' : Hp) (h h' : Heap) : Prop where
  keep : ∀ b o, h.get? b = some o → H b = none → b ∉ fs → b ∉ ex → h'.get? b = some o
  slot : ∀ b o, h.get? b = some o → H b = none → b ∈ fs → b ∉ ex → ∃ sl, h'.get? b = some { o with slots := sl }
  free : ∀ b o, h.get? b = some o → H b = none → b ∉ ex → H' b = none
  there : ∀ b o, h.get? b = some o → b ∉ ex → ∃ o', h'.get? b = some o'
  tups : ∀ b xs, H b = some (.tup xs) → H' b = some (.tup xs)
  frzs : ∀ b o u, H b = some (.frz o u) → H' b = some (.frz o u)
  tbls : ∀ b ps, H b = some (.tbl ps) → ∃ more, H' b = some (.tbl (ps ++ more))
section
variable {fs fs' ex ex' : List Addr} {H H1 H2 : Hp} {h h1 h2 h' : Heap} {a x e : Addr} {o : HO}
theorem Un.any (u : Un fs ex H H1 h h1) {b : Addr} {ob : Obj} (q : h.get? b = some ob) (n : H b = none) (hx : b ∉ ex) : ∃ sl, h1.get? b = some { ob with slots := sl } := by
  by_cases hb : b ∈ fs
  · exact u.slot b ob q n hb hx
  · exact ⟨ob.slots, u.keep b ob q n hb hx⟩
theorem Un.trans (a : Un fs ex H H1 h h1) (b : Un fs ex H1 H2 h1 h2) : Un fs ex H H2 h h2 where
  keep := fun c ob q n hc hx => b.keep c ob (a.keep c ob q n hc hx) (a.free c ob q n hx) hc hx
  slot := fun c ob q n hc hx => by
    obtain ⟨sl, e1⟩ := a.slot c ob q n hc hx
    obtain ⟨sl', e2⟩ := b.slot c _ e1 (a.free c ob q n hx) hc hx
    exact ⟨sl', e2⟩
  free := fun c ob q n hx => by
    obtain ⟨o', e1⟩ := a.there c ob q hx
    exact b.free c o' e1 (a.free c ob q n hx) hx
  there := fun c ob q hx => by
    obtain ⟨o', e1⟩ := a.there c ob q hx
    exact b.there c o' e1 hx
  tups := fun c xs q => b.tups c xs (a.tups c xs q)
  frzs := fun c ob xs q => b.frzs c ob xs (a.frzs c ob xs q)
  tbls := fun c ps q => by
    obtain ⟨m1, e1⟩ := a.tbls c ps q
    obtain ⟨m2, e2⟩ := b.tbls c _ e1
    exact ⟨m1 ++ m2, by rw [e2, Array.append_assoc]⟩
theorem Un.kept (k : ∀ b u, h.get? b = some u → h'.get? b = some u) : Un fs ex H H h h' :=
  ⟨fun b ob q _ _ _ => k b ob q, fun b ob q _ _ _ => ⟨ob.slots, k b ob q⟩, fun _ _ _ n _ => n, fun b ob q _ => ⟨ob, k b ob q⟩, fun _ _ q => q, fun _ _ _ q => q, fun _ ps q => ⟨#[], by rw [q]; simp⟩⟩
theorem Un.refl : Un fs ex H H h h := Un.kept fun _ _ q => q
theorem Un.laid (k : ∀ b u, h.get? b = some u → h'.get? b = some u) (hp : h.objs.size ≤ a) (hn : H a = none) : Un fs ex H (upd H a o) h h' where
  keep := fun b u q _ _ _ => k b u q
  slot := fun b u q _ _ _ => ⟨u.slots, k b u q⟩
  free := fun b u q n _ => by rw [upd_ne (Nat.ne_of_lt (Nat.lt_of_lt_of_le (Heap.lt_size q) hp))]; exact n
  there := fun b u q _ => ⟨u, k b u q⟩
  tups := fun b xs q => by rw [upd_ne (ne_of_none q hn)]; exact q
  frzs := fun b u xs q => by rw [upd_ne (ne_of_none q hn)]; exact q
  tbls := fun b ps q => ⟨#[], by rw [upd_ne (ne_of_none q hn), q]; simp⟩
theorem Un.write (mu : Mut (H x)) (he : e = x ∨ H e = some (.own x)) (k : ∀ b u, b ≠ e → h.get? b = some u → h'.get? b = some u) (heo : ∃ u, h'.get? e = some u) : Un fs ex H (upd H x o) h h' := by
  have hx : ∀ b, H b = none → b ≠ x := fun b n z => by subst z; rw [n] at mu; exact mu
  have hb : ∀ b, H b = none → b ≠ e := fun b n z => by
    subst z
    rcases he with r | r
    · exact hx b n r
    · rw [n] at r; cases r
  have hm : ∀ b u, H b = some u → ¬ Mut (some u) → b ≠ x := fun b u q nm z => by subst z; rw [q] at mu; exact nm mu
  refine ⟨fun b u q n _ _ => k b u (hb b n) q, fun b u q n _ _ => ⟨u.slots, k b u (hb b n) q⟩, fun b u q n _ => by rw [upd_ne (hx b n)]; exact n, fun b u q _ => ?_,
    fun b xs q => by rw [upd_ne (hm b _ q fun z => z)]; exact q, fun b u xs q => by rw [upd_ne (hm b _ q fun z => z)]; exact q, fun b ps q => ⟨#[], by rw [upd_ne (hm b _ q fun z => z), q]; simp⟩⟩
  by_cases hbe : b = e
  · subst hbe; exact heo
  · exact ⟨u, k b u hbe q⟩
theorem Un.mono (u : Un fs ex H H1 h h1) (hs : ∀ b ∈ fs, b ∈ fs') (hx : ∀ b ∈ ex, b ∈ ex') : Un fs' ex' H H1 h h1 :=
  ⟨fun b ob q n hb he => u.keep b ob q n (fun z => hb (hs b z)) fun z => he (hx b z), fun _ _ q n _ he => u.any q n fun z => he (hx _ z), fun b ob q n he => u.free b ob q n fun z => he (hx b z), fun b ob q he => u.there b ob q fun z => he (hx b z), u.tups, u.frzs, u.tbls⟩
end

def trk (h : Heap) (H : Hp) : List Addr := (List.range h.objs.size).filter fun a => (H a).isSome
def hidT (h : Heap) (H : Hp) : Heap := PySem.W.hideAll h (trk h H)
theorem hidT_size (h : Heap) (H : Hp) : (hidT h H).objs.size = h.objs.size := PySem.W.hideAll_size _ _
theorem hidT_get {h : Heap} {H : Hp} {b : Addr} {o : Obj} (e : h.get? b = some o) (n : H b = none) : (hidT h H).get? b = some o :=
  PySem.W.hideAll_get _ e fun hm => by
    have q : (H b).isSome = true := (List.mem_filter.mp hm).2
    rw [n] at q; simp at q
theorem of_hidT {h : Heap} {H : Hp} {b : Addr} {o : Obj} (e : (hidT h H).get? b = some o) : h.get? b = some o ∧ H b = none := by
  have e' : h.get? b = some o := PySem.W.of_hideAll (trk h H) e
  refine ⟨e', ?_⟩
  cases q : H b with
  | none => rfl
  | some x =>
    have hm : b ∈ trk h H := List.mem_filter.mpr ⟨List.mem_range.mpr (Heap.lt_size e'), by simp [q]⟩
    have z : (hidT h H).get? b = none := PySem.W.hideAll_none (trk h H) hm
    rw [z] at e; cases e

def allNews (g h : Heap) (L : Addr) : List (Addr × Obj) := (List.range h.objs.size).filterMap fun a => if a = L ∨ (g.get? a).isSome = true then none else (h.get? a).map fun o => (a, o)
def rest (g h : Heap) (L d : Addr) : List (Addr × Obj) := (allNews g h L).filter fun p => decide (p.1 ≠ d)
end L2

namespace L2
open PySem PySem.Spec PyProof.Rows

/-- the module's facts, over the base: the heap at the law's entry without what is tracked there -/
structure Mod (K : PySem.W.Frag) (mg : Str → Option Value) (base : Heap) : Prop where
  kin : K.In base
  glob : base.Ns mainGlobals mg
  blt : ∃ mb, base.Ns builtinsNs mb ∧ ∀ x : Str, x ≠ "__name__" → mb x = bootBuiltins x
  nolimit : base.NoLimit

/-- the context: a def's body (or a comprehension's block) running. base: fixed through the whole law; s₀, H₀: the entry; outer: the frames whose slots others may change (a def's callers); stack: all frames that run;
   ex: iterators that were made ahead of the entry and are walked here (a comprehension's); fn: the names whose cells were made at the entry (a def: all; a comprehension's block: its own); calm: not within an except suite; pn: pins that every state bears; xe: what is wanted of an exception that leaves the code -/
structure Cx where
  prog : Program
  w : World
  K : PySem.W.Frag
  mg : Str → Option Value
  base : Heap
  A : Around
  N : List Str
  s₀ : Shared
  H₀ : Hp
  env : Env
  outer : List Env
  stack : List Env
  ex : List Addr
  fn : Str → Bool
  calm : Bool
  pn : List (Addr × Obj)
  xe : Value → Shared → Prop
/-- the callers' frames -/
def frs (l : List Env) : List Addr := l.filterMap (·.frame)
abbrev Cx.fs (X : Cx) : List Addr := frs X.outer

def Vis (sc : Scope) (x : Str) : Prop := sc.names.lookup x = some .local ∨ sc.names.lookup x = some .cell ∨ sc.names.lookup x = some .free
def Loc (sc : Scope) (x : Str) : Prop := sc.names.lookup x = some .local ∨ sc.names.lookup x = some .cell
def Look (env : Env) (h : Heap) (m : Str → Option Value) (x : Str) (u : Value) : Prop :=
  (env.kindOf x = some .local ∧ m x = some u) ∨ ((env.kindOf x = some .cell ∨ env.kindOf x = some .free) ∧ ∃ c, env.cells.lookup x = some c ∧ h.IsCell c (some u))

structure Cx.Ok (X : Cx) : Prop where
  mod : Mod X.K X.mg X.base
  kind : X.env.scope.kind = .function
  glob : X.env.globals = mainGlobals
  blt : X.env.builtins = builtinsNs
  above : X.s₀.heap.objs.size ≤ X.env.locals
  inj : ∀ x y c, X.env.cells.lookup x = some c → X.env.cells.lookup y = some c → x = y
  has : ∀ x, (X.env.kindOf x = some .cell ∨ X.env.kindOf x = some .free) → ∃ c, X.env.cells.lookup x = some c
  cab : ∀ x c, X.fn x = true → X.env.cells.lookup x = some c → X.s₀.heap.objs.size ≤ c
  hd : X.calm = true → X.A.handled = none
  frames : X.A.frames = some X.stack
  stk : X.stack = X.outer ∨ (X.stack = X.env :: X.outer ∧ X.env.frame = some X.env.locals)
  exf : ∀ b ∈ X.ex, b ≠ X.env.locals ∧ ∀ x c, X.env.cells.lookup x = some c → c ≠ b
  bs : ∀ b o, X.base.get? b = some o → X.s₀.heap.get? b = some o ∧ X.H₀ b = none
  bsz : X.base.objs.size ≤ X.s₀.heap.objs.size
  noex : ∀ b o, X.base.get? b = some o → b ∉ X.ex
  exfs : ∀ b ∈ X.ex, b ∉ X.fs
  funs : X.s₀.heap.FunFrames X.base X.outer
  frf : ∀ b ∈ X.fs, X.H₀ b = none

structure Inv (X : Cx) (pins : List (Addr × Obj)) (σ : List (Option V)) (H : Hp) (s : Shared) : Prop where
  ok : X.Ok
  os : s.os = X.s₀.os
  bare : AllBare s.gens
  base : Un X.fs X.ex X.H₀ H X.s₀.heap s.heap
  loc : ∃ m, s.heap.Ns X.env.locals m ∧ ∀ (i : Nat) (x : Str) (v : V), X.N[i]? = some x → σ[i]? = some (some v) → Vis X.env.scope x → ∃ u, RelV v u ∧ Look X.env s.heap m x u
  cell : ∀ x c, X.env.cells.lookup x = some c → ∃ v, s.heap.IsCell c v
  free : H X.env.locals = none
  freeC : ∀ x c, X.env.cells.lookup x = some c → H c = none
  pin : ∀ p ∈ X.pn ++ pins, s.heap.get? p.1 = some p.2 ∧ H p.1 = none ∧ p.1 ≠ X.env.locals ∧ p.1 ∉ X.fs ∧ ∀ v, p.2.data ≠ .cell v
  hok : HOk X.prog X.w H s.heap
  len : σ.length = X.N.length

section
variable {X : Cx} {pins : List (Addr × Obj)} {σ : List (Option V)} {H H' : Hp} {s : Shared} {h' : Heap}

theorem Cx.Ok.nofr (ok : X.Ok) {b : Addr} {o : Obj} (e : X.base.get? b = some o) : b ∉ X.fs := fun hb => by
  have := (ok.funs.mem hb).1
  rw [e] at this; cases this
theorem Inv.bs (I : Inv X pins σ H s) : ∀ b o, X.base.get? b = some o → s.heap.get? b = some o ∧ H b = none := fun b o e =>
  ⟨I.base.keep b o (I.ok.bs b o e).1 (I.ok.bs b o e).2 (I.ok.nofr e) (I.ok.noex b o e), I.base.free b o (I.ok.bs b o e).1 (I.ok.bs b o e).2 (I.ok.noex b o e)⟩
theorem Inv.bk (I : Inv X pins σ H s) : ∀ b o, X.base.get? b = some o → s.heap.get? b = some o := fun b o e => (I.bs b o e).1
theorem Inv.mod (I : Inv X pins σ H s) : Mod X.K X.mg X.base := I.ok.mod
theorem Inv.kIn (I : Inv X pins σ H s) : X.K.In s.heap := I.ok.mod.kin.keeps I.bk
theorem Inv.nolimit (I : Inv X pins σ H s) : s.heap.NoLimit := I.ok.mod.nolimit.keeps I.bk
/-- the frame over the base: for OpenK's rules (K.In X.base is I.mod.kin) -/
theorem Inv.fr (I : Inv X pins σ H s) : ∃ m, Fr X.base X.env.locals s.heap m :=
  let ⟨m, hn, _⟩ := I.loc
  ⟨m, hn, I.bk, Nat.le_trans I.ok.bsz I.ok.above⟩
theorem Inv.lt (I : Inv X pins σ H s) : X.env.locals < s.heap.objs.size := let ⟨_, hn, _⟩ := I.loc; hn.lt
theorem Inv.sz (I : Inv X pins σ H s) : X.s₀.heap.objs.size ≤ s.heap.objs.size := Nat.le_trans I.ok.above (Nat.le_of_lt I.lt)
theorem Inv.nofs (I : Inv X pins σ H s) {a : Addr} (h : s.heap.objs.size ≤ a) : a ∉ X.fs := fun hb => by
  obtain ⟨_, o, ho, _⟩ := I.ok.funs.mem hb
  exact absurd (Nat.lt_of_lt_of_le (Heap.lt_size ho) (Nat.le_trans I.sz h)) (Nat.lt_irrefl _)
theorem Inv.cne (I : Inv X pins σ H s) : ∀ x c, X.env.cells.lookup x = some c → c ≠ X.env.locals := fun x c e z => by
  obtain ⟨v, o, ho, hd⟩ := I.cell x c e
  obtain ⟨m, ⟨o', es, ep, ho', hd', _⟩, _⟩ := I.loc
  rw [z, ho'] at ho; cases ho; rw [hd'] at hd; cases hd
theorem Inv.funs (I : Inv X pins σ H s) : s.heap.FunFrames X.base X.outer := by
  have all : ∀ (l : List Env), (∀ b ∈ frs l, b ∈ X.fs) → X.s₀.heap.FunFrames X.base l → s.heap.FunFrames X.base l := by
    intro l
    induction l with
    | nil => intro _ _; trivial
    | cons env r ih =>
      intro hs hl
      obtain ⟨hk, ⟨L, o, hf, hn, ho, hd⟩, hr⟩ := hl
      have hL : L ∈ X.fs := hs L (by unfold frs; rw [List.filterMap_cons, hf]; exact List.mem_cons_self)
      obtain ⟨sl, e⟩ := I.base.slot L o ho (I.ok.frf L hL) hL fun z => I.ok.exfs L z hL
      exact ⟨hk, ⟨L, _, hf, hn, e, hd⟩, ih (fun b hb => hs b (by unfold frs; rw [List.filterMap_cons, hf]; exact List.mem_cons_of_mem _ hb)) hr⟩
  exact all X.outer (fun _ hb => hb) I.ok.funs

/-- the frames that run, for a call -/
theorem Inv.stack (I : Inv X pins σ H s) : s.heap.FunFrames X.base X.stack := by
  rcases I.ok.stk with e | ⟨e, hf⟩
  · rw [e]; exact I.funs
  · rw [e]
    obtain ⟨m, hn, _⟩ := I.loc
    refine .cons (by rw [I.ok.kind]; decide) hf hn ?_ I.funs
    exact Heap.get?_none_of_le (Nat.le_trans I.ok.bsz I.ok.above)
theorem Inv.stkSub (I : Inv X pins σ H s) : ∀ b ∈ frs X.stack, b ∈ X.env.locals :: X.fs := fun b hb => by
  rcases I.ok.stk with e | ⟨e, hf⟩
  · rw [e] at hb; exact List.mem_cons_of_mem _ hb
  · rw [e] at hb
    unfold frs at hb
    rw [List.filterMap_cons, hf] at hb
    exact hb
theorem Inv.stkFree (I : Inv X pins σ H s) : ∀ b ∈ frs X.stack, H b = none := fun b hb => by
  rcases List.mem_cons.mp (I.stkSub b hb) with e | hb
  · rw [e]; exact I.free
  · obtain ⟨_, o, ho, _⟩ := I.ok.funs.mem hb
    exact I.base.free b o ho (I.ok.frf b hb) fun z => I.ok.exfs b z hb

/-- THE STEP: the untracked objects but the frame and the records at ch are kept (the callers' frames up to slots), the frame's map is kept, the new abstract heap is held -/
theorem Inv.step {g' : Array GenState} {t' : Nat} {d' : Drawn} {ch : List Addr} (I : Inv X pins σ H s)
    (hch : ∀ b ∈ ch, (b ∈ X.ex ∨ X.s₀.heap.objs.size ≤ b) ∧ b ≠ X.env.locals ∧ (∀ x c, X.env.cells.lookup x = some c → c ≠ b) ∧ ∀ p ∈ X.pn ++ pins, p.1 ≠ b)
    (keep : ∀ b o, b ≠ X.env.locals → b ∉ X.fs → b ∉ ch → s.heap.get? b = some o → H b = none → h'.get? b = some o)
    (slot : ∀ b o, b ≠ X.env.locals → b ∈ X.fs → b ∉ ch → s.heap.get? b = some o → H b = none → ∃ sl, h'.get? b = some { o with slots := sl }) (free : ∀ b o, b ∉ ch → s.heap.get? b = some o → H b = none → H' b = none)
    (there : ∀ b o, b ∉ ch → s.heap.get? b = some o → ∃ o', h'.get? b = some o')
    (tups : ∀ b xs, H b = some (.tup xs) → H' b = some (.tup xs)) (frzs : ∀ b o u, H b = some (.frz o u) → H' b = some (.frz o u)) (tbls : ∀ b ps, H b = some (.tbl ps) → ∃ more, H' b = some (.tbl (ps ++ more)))
    (ns : ∀ m, s.heap.Ns X.env.locals m → h'.Ns X.env.locals m) (hok : HOk X.prog X.w H' h') (hg : AllBare g') :
    Inv X pins σ H' { s with heap := h', gens := g', drawn := d', toks := t' } := by
  have neL : ∀ b o, X.s₀.heap.get? b = some o → b ≠ X.env.locals := fun b o e => Nat.ne_of_lt (Nat.lt_of_lt_of_le (Heap.lt_size e) I.ok.above)
  have neC : ∀ b o, X.s₀.heap.get? b = some o → b ∉ X.ex → b ∉ ch := fun b o e hx hb => by
    rcases (hch b hb).1 with z | z
    · exact hx z
    · exact absurd (Nat.lt_of_lt_of_le (Heap.lt_size e) z) (Nat.lt_irrefl _)
  have cellK : ∀ x c, X.env.cells.lookup x = some c → ∀ v, s.heap.IsCell c v → h'.IsCell c v := fun x c e v ⟨o, ho, hd⟩ => by
    have nch : c ∉ ch := fun z => (hch c z).2.2.1 x c e rfl
    by_cases hc : c ∈ X.fs
    · obtain ⟨sl, q⟩ := slot c o (I.cne x c e) hc nch ho (I.freeC x c e)
      exact ⟨_, q, hd⟩
    · exact ⟨o, keep c o (I.cne x c e) hc nch ho (I.freeC x c e), hd⟩
  refine ⟨I.ok, I.os, hg, ⟨fun b o e n hb hx => ?_, fun b o e n hb hx => ?_, fun b o e n hx => ?_, fun b o e hx => ?_, fun b xs e => tups b xs (I.base.tups b xs e), fun b o xs e => frzs b o xs (I.base.frzs b o xs e), fun b ps e => ?_⟩, ?_, fun x c e => ?_, ?_, fun x c e => ?_, fun p hp => ?_, hok, I.len⟩
  · exact keep b o (neL b o e) hb (neC b o e hx) (I.base.keep b o e n hb hx) (I.base.free b o e n hx)
  · obtain ⟨sl, e1⟩ := I.base.slot b o e n hb hx
    obtain ⟨sl', e2⟩ := slot b _ (neL b o e) hb (neC b o e hx) e1 (I.base.free b o e n hx)
    exact ⟨sl', e2⟩
  · obtain ⟨o', e1⟩ := I.base.there b o e hx
    exact free b o' (neC b o e hx) e1 (I.base.free b o e n hx)
  · obtain ⟨o', e1⟩ := I.base.there b o e hx
    exact there b o' (neC b o e hx) e1
  · obtain ⟨m1, e1⟩ := I.base.tbls b ps e
    obtain ⟨m2, e2⟩ := tbls b _ e1
    exact ⟨m1 ++ m2, by rw [e2, Array.append_assoc]⟩
  · obtain ⟨m, hn, hl⟩ := I.loc
    refine ⟨m, ns m hn, fun i x v e1 e2 e3 => ?_⟩
    obtain ⟨u, r, l⟩ := hl i x v e1 e2 e3
    refine ⟨u, r, ?_⟩
    rcases l with l | ⟨k, c, e, z⟩
    · exact .inl l
    · exact .inr ⟨k, c, e, cellK x c e _ z⟩
  · obtain ⟨v, z⟩ := I.cell x c e
    exact ⟨v, cellK x c e v z⟩
  · obtain ⟨m, ⟨o, _, _, ho, _⟩, _⟩ := I.loc
    exact free _ o (fun z => (hch _ z).2.1 rfl) ho I.free
  · obtain ⟨v, o, ho, hd⟩ := I.cell x c e
    exact free c o (fun z => (hch c z).2.2.1 x c e rfl) ho (I.freeC x c e)
  · obtain ⟨e, n, ne, nf, d⟩ := I.pin p hp
    have nch : p.1 ∉ ch := fun z => (hch p.1 z).2.2.2 p hp rfl
    exact ⟨keep p.1 p.2 ne nf nch e n, free p.1 p.2 nch e n, ne, nf, d⟩
/-- .. where the frame's own object is kept too -/
theorem Inv.un {t' : Nat} (I : Inv X pins σ H s) (u : Un X.fs [] H H' s.heap h') (hok : HOk X.prog X.w H' h') : Inv X pins σ H' { s with heap := h', toks := t' } := by
  obtain ⟨m, ⟨o, es, ep, ho, r⟩, _⟩ := id I.loc
  obtain ⟨sl, hL⟩ := u.any ho I.free (by simp)
  exact I.step (g' := s.gens) (d' := s.drawn) (ch := []) (fun _ z => nomatch z) (fun b o _ hb _ e n => u.keep b o e n hb (by simp)) (fun b o _ hb _ e n => u.slot b o e n hb (by simp)) (fun b o _ e n => u.free b o e n (by simp)) (fun b o _ e => u.there b o e (by simp)) u.tups u.frzs u.tbls (fun m' hm => by
    obtain ⟨o', es', ep', ho', r'⟩ := hm
    rw [ho] at ho'; cases ho'
    exact ⟨_, es', ep', hL, r'⟩) hok I.bare
/-- behind a call (or a comprehension's block): the slots of this frame may have changed too, the records at ch may have turned -/
theorem Inv.call {g' : Array GenState} {t' : Nat} {d' : Drawn} {ch : List Addr} (I : Inv X pins σ H s) (u : Un (frs X.stack) ch H H' s.heap h') (hok : HOk X.prog X.w H' h') (hg : AllBare g')
    (hch : ∀ b ∈ ch, (b ∈ X.ex ∨ X.s₀.heap.objs.size ≤ b) ∧ b ≠ X.env.locals ∧ (∀ x c, X.env.cells.lookup x = some c → c ≠ b) ∧ ∀ p ∈ X.pn ++ pins, p.1 ≠ b) :
    Inv X pins σ H' { s with heap := h', gens := g', drawn := d', toks := t' } := by
  obtain ⟨m, ⟨o, es, ep, ho, r⟩, _⟩ := id I.loc
  obtain ⟨sl, hL⟩ := u.any ho I.free fun z => (hch _ z).2.1 rfl
  exact I.step (ch := ch) hch (fun b o hL hb hc e n => u.keep b o e n (fun z => (List.mem_cons.mp (I.stkSub b z)).elim hL hb) hc) (fun b o _ _ hc e n => u.any e n hc) (fun b o hc e n => u.free b o e n hc) (fun b o hc e => u.there b o e hc) u.tups u.frzs u.tbls (fun m' hm => by
    obtain ⟨o', es', ep', ho', r'⟩ := hm
    rw [ho] at ho'; cases ho'
    exact ⟨_, es', ep', hL, r'⟩) hok hg
/-- an untracked record of ours (an iterator) has turned -/
theorem Inv.turned {t' : Nat} {it : Addr} (I : Inv X pins σ H s) (k : ∀ b o, b ≠ it → s.heap.get? b = some o → h'.get? b = some o) (hn : H it = none) (hL : it ≠ X.env.locals)
    (h1 : it ∈ X.ex ∨ X.s₀.heap.objs.size ≤ it) (h2 : ∀ x c, X.env.cells.lookup x = some c → c ≠ it) (h3 : ∀ p ∈ X.pn ++ pins, p.1 ≠ it) : Inv X pins σ H { s with heap := h', toks := t' } := by
  have nit : ∀ b u, H b = some u → b ≠ it := fun b u e z => by rw [z, hn] at e; cases e
  refine I.step (g' := s.gens) (d' := s.drawn) (ch := [it]) (fun b hb => ?_) (fun b o _ _ hc e _ => k b o (fun z => hc (by simp [z])) e) (fun b o _ _ hc e _ => ⟨o.slots, k b o (fun z => hc (by simp [z])) e⟩) (fun _ _ _ _ n => n)
    (fun b o hc e => ⟨o, k b o (fun z => hc (by simp [z])) e⟩) (fun _ _ e => e) (fun _ _ _ e => e) (fun b ps e => ⟨#[], by rw [e]; simp⟩) (fun m hm => ?_) (fun b u e => ?_) I.bare
  · have e : b = it := by simpa using hb
    subst e
    exact ⟨h1, hL, h2, h3⟩
  · obtain ⟨o, es, ep, ho, r⟩ := hm
    exact ⟨o, es, ep, k _ o (Ne.symm hL) ho, r⟩
  · refine (I.hok b u e).stay (fun c v hc q => k c v ?_ q) (fun _ q => q) fun _ _ q => q
    rcases hc with z | z
    · rw [z]; exact nit b u e
    · exact nit c _ z
theorem Inv.tok (I : Inv X pins σ H s) (t : Nat) : Inv X pins σ H { s with toks := t } := I.un (h' := s.heap) (t' := t) Un.refl I.hok
/-- all objects kept -/
theorem Inv.kept {t' : Nat} (I : Inv X pins σ H s) (k : ∀ b u, s.heap.get? b = some u → h'.get? b = some u) : Inv X pins σ H { s with heap := h', toks := t' } := I.un (Un.kept k) (I.hok.kept k)
/-- a new object laid and tracked -/
theorem Inv.laid {a : Addr} {o : HO} {t' : Nat} (I : Inv X pins σ H s) (k : ∀ b u, s.heap.get? b = some u → h'.get? b = some u) (hp : s.heap.objs.size ≤ a) (new : ObjOk X.prog X.w (upd H a o) h' a o) :
    Inv X pins σ (upd H a o) { s with heap := h', toks := t' } := I.un (Un.laid k hp (I.hok.fresh hp)) (I.hok.laid k hp new)
/-- an object written -/
theorem Inv.write {x e : Addr} {o : HO} {t' : Nat} (I : Inv X pins σ H s) (mu : Mut (H x)) (he : e = x ∨ H e = some (.own x)) (k : ∀ b u, b ≠ e → s.heap.get? b = some u → h'.get? b = some u) (heo : ∃ u, h'.get? e = some u)
    (new : ObjOk X.prog X.w (upd H x o) h' x o) : Inv X pins σ (upd H x o) { s with heap := h', toks := t' } := I.un (Un.write mu he k heo) (I.hok.write mu he k heo new)
/-- forgetting slots, pins -/
theorem Inv.weak {σ' : List (Option V)} (I : Inv X pins σ H s) (hl : σ'.length = σ.length) (w : ∀ (i : Nat) v, σ'[i]? = some (some v) → σ[i]? = some (some v)) : Inv X pins σ' H s :=
  ⟨I.ok, I.os, I.bare, I.base, let ⟨m, hn, hl'⟩ := I.loc; ⟨m, hn, fun i x v e1 e2 e3 => hl' i x v e1 (w i v e2) e3⟩, I.cell, I.free, I.freeC, I.pin, I.hok, hl.trans I.len⟩
theorem Inv.pins_of {pins' : List (Addr × Obj)} (I : Inv X pins σ H s) (h : ∀ p ∈ pins', s.heap.get? p.1 = some p.2 ∧ H p.1 = none ∧ p.1 ≠ X.env.locals ∧ p.1 ∉ X.fs ∧ ∀ v, p.2.data ≠ .cell v) : Inv X pins' σ H s :=
  ⟨I.ok, I.os, I.bare, I.base, I.loc, I.cell, I.free, I.freeC, fun p hp => (List.mem_append.mp hp).elim (fun z => I.pin p (List.mem_append_left _ z)) (h p), I.hok, I.len⟩

theorem nodup_ix {N : List Str} (hN : N.Nodup) {i j : Nat} {x : Str} (a : N[i]? = some x) (b : N[j]? = some x) : i = j := by
  obtain ⟨h1, e1⟩ := List.getElem?_eq_some_iff.mp a
  obtain ⟨h2, e2⟩ := List.getElem?_eq_some_iff.mp b
  exact (List.getElem_inj hN).mp (e1.trans e2.symm)

/-- a name is stored; what changed -/
theorem store_ok2 {M : Model} {A : Around} {E : Value → Shared → Prop} {i : Nat} {x : Str} {v : V} {u : Value} {Q : Unit → Shared → Prop} (I : Inv X pins σ H s) (hN : X.N.Nodup) (hi : X.N[i]? = some x) (hx : Loc X.env.scope x) (r : RelV v u)
    (h : ∀ s', Inv X pins (σ.set i (some v)) H s' → (∃ a, Heap.SameBut a s.heap s'.heap ∧ (a = X.env.locals ∨ X.env.cells.lookup x = some a)) → Q () s') (hf : X.fn x = true ∨ X.env.scope.names.lookup x = some .local := by first | exact .inl rfl | exact .inr rfl | assumption) : wpAny M A (storeName X.env x u) Q E s := by
  obtain ⟨m, hn, hl⟩ := id I.loc
  have hcls : (X.env.scope.kind == .class || (X.env.scope.kind == .module && X.env.locals != X.env.globals)) = false := by rw [I.ok.kind]; rfl
  have hiσ : i < σ.length := by rw [I.len]; exact (List.getElem?_eq_some_iff.mp hi).1
  have cne := I.cne
  have tracked : ∀ {a : Addr} {h' : Heap}, (∃ o, s.heap.get? a = some o ∧ H a = none) → Heap.SameBut a s.heap h' → HOk X.prog X.w H h' := fun {a h'} ha hs b ob e => by
    obtain ⟨_, _, hfree⟩ := ha
    refine (I.hok b ob e).stay (fun c w' hc q => (hs.2 c ?_).trans q) (fun _ q => q) fun _ _ q => q
    rintro rfl
    rcases hc with rfl | hc
    · rw [hfree] at e; cases e
    · rw [hfree] at hc; cases hc
  rcases hx with hk | hk
  · refine wpAny_storeName_local hk hn (fun h' hn' hs => ?_) hcls
    obtain ⟨oL, _, _, hoL, _⟩ := id hn
    refine h _ ⟨I.ok, I.os, I.bare, ⟨fun b o e n hb hx => ?_, fun b o e n hb hx => ?_, I.base.free, fun b o e hx => ?_, I.base.tups, I.base.frzs, I.base.tbls⟩, ⟨_, hn', fun j y v' e1 e2 e3 => ?_⟩, fun y c e => ?_, I.free, I.freeC, fun p hp => ?_, tracked ⟨oL, hoL, I.free⟩ hs, by simpa using I.len⟩ ⟨_, hs, .inl rfl⟩
    · exact (hs.2 b (Nat.ne_of_lt (Nat.lt_of_lt_of_le (Heap.lt_size e) I.ok.above))).trans (I.base.keep b o e n hb hx)
    · obtain ⟨sl, e1⟩ := I.base.slot b o e n hb hx
      exact ⟨sl, (hs.2 b (Nat.ne_of_lt (Nat.lt_of_lt_of_le (Heap.lt_size e) I.ok.above))).trans e1⟩
    · obtain ⟨o', e1⟩ := I.base.there b o e hx
      exact ⟨o', (hs.2 b (Nat.ne_of_lt (Nat.lt_of_lt_of_le (Heap.lt_size e) I.ok.above))).trans e1⟩
    · by_cases hj : j = i
      · subst hj
        rw [hi] at e1; cases e1
        rw [List.getElem?_set_self hiσ] at e2
        cases e2
        exact ⟨u, r, .inl ⟨hk, by simp⟩⟩
      · rw [List.getElem?_set_ne (Ne.symm hj)] at e2
        obtain ⟨u', r', q⟩ := hl j y v' e1 e2 e3
        refine ⟨u', r', ?_⟩
        rcases q with ⟨k, e⟩ | ⟨k, c, e, z⟩
        · refine .inl ⟨k, ?_⟩
          have : y ≠ x := fun e => hj (nodup_ix hN e1 (e ▸ hi))
          simp [this, e]
        · exact .inr ⟨k, c, e, z.sameBut hs (cne y c e)⟩
    · obtain ⟨w', z⟩ := I.cell y c e
      exact ⟨w', z.sameBut hs (cne y c e)⟩
    · obtain ⟨e, n, ne, nf, d⟩ := I.pin p hp
      exact ⟨(hs.2 p.1 ne).trans e, n, ne, nf, d⟩
  · have hfn : X.fn x = true := by
      rcases hf with z | z
      · exact z
      · rw [z] at hk; cases hk
    obtain ⟨c, hc⟩ := I.ok.has x (.inl hk)
    obtain ⟨w', z⟩ := I.cell x c hc
    refine wpAny_storeName_cell I.ok.kind hk hc z (fun h' hc' hs => ?_)
    obtain ⟨oc, hoc, hocd⟩ := id z
    refine h { s with heap := h' } ⟨I.ok, I.os, I.bare, ⟨fun b o e n hb hx => ?_, fun b o e n hb hx => ?_, I.base.free, fun b o e hx => ?_, I.base.tups, I.base.frzs, I.base.tbls⟩, ⟨m, hn.sameBut hs (Ne.symm (cne x c hc)), fun j y v' e1 e2 e3 => ?_⟩, fun y c' e => ?_, I.free, I.freeC, fun p hp => ?_, tracked ⟨oc, hoc, I.freeC x c hc⟩ hs, by simpa using I.len⟩ ⟨c, hs, .inr hc⟩
    · exact (hs.2 b (Nat.ne_of_lt (Nat.lt_of_lt_of_le (Heap.lt_size e) (I.ok.cab x c hfn hc)))).trans (I.base.keep b o e n hb hx)
    · obtain ⟨sl, e1⟩ := I.base.slot b o e n hb hx
      exact ⟨sl, (hs.2 b (Nat.ne_of_lt (Nat.lt_of_lt_of_le (Heap.lt_size e) (I.ok.cab x c hfn hc)))).trans e1⟩
    · obtain ⟨o', e1⟩ := I.base.there b o e hx
      exact ⟨o', (hs.2 b (Nat.ne_of_lt (Nat.lt_of_lt_of_le (Heap.lt_size e) (I.ok.cab x c hfn hc)))).trans e1⟩
    · by_cases hj : j = i
      · subst hj
        rw [hi] at e1; cases e1
        rw [List.getElem?_set_self hiσ] at e2
        cases e2
        exact ⟨u, r, .inr ⟨.inl hk, c, hc, hc'⟩⟩
      · rw [List.getElem?_set_ne (Ne.symm hj)] at e2
        obtain ⟨u', r', q⟩ := hl j y v' e1 e2 e3
        refine ⟨u', r', ?_⟩
        rcases q with q | ⟨k, c', e, z'⟩
        · exact .inl q
        · refine .inr ⟨k, c', e, z'.sameBut hs ?_⟩
          rintro rfl
          exact hj (nodup_ix hN e1 (I.ok.inj _ _ _ e hc ▸ hi))
    · by_cases hcc : c' = c
      · subst hcc; exact ⟨_, hc'⟩
      · obtain ⟨w2, z2⟩ := I.cell y c' e
        exact ⟨w2, z2.sameBut hs hcc⟩
    · obtain ⟨e, n, ne, nf, d⟩ := I.pin p hp
      refine ⟨(hs.2 p.1 ?_).trans e, n, ne, nf, d⟩
      intro q
      rw [q, hoc] at e
      have q' : oc = p.2 := Option.some.inj e
      exact d w' (by rw [← q']; exact hocd)
theorem store_ok {M : Model} {A : Around} {E : Value → Shared → Prop} {i : Nat} {x : Str} {v : V} {u : Value} {Q : Unit → Shared → Prop} (I : Inv X pins σ H s) (hN : X.N.Nodup) (hi : X.N[i]? = some x) (hx : Loc X.env.scope x) (r : RelV v u)
    (h : ∀ s', Inv X pins (σ.set i (some v)) H s' → Q () s') (hf : X.fn x = true ∨ X.env.scope.names.lookup x = some .local := by first | exact .inl rfl | exact .inr rfl | assumption) : wpAny M A (storeName X.env x u) Q E s :=
  store_ok2 I hN hi hx r (fun s' I' _ => h s' I') hf
/-- behind a call or a block, the state as it is -/
theorem Inv.call' {s' : Shared} {ch : List Addr} (I : Inv X pins σ H s) (ho : s'.os = s.os) (u : Un (frs X.stack) ch H H' s.heap s'.heap) (hok : HOk X.prog X.w H' s'.heap) (hg : AllBare s'.gens)
    (hch : ∀ b ∈ ch, (b ∈ X.ex ∨ X.s₀.heap.objs.size ≤ b) ∧ b ≠ X.env.locals ∧ (∀ x c, X.env.cells.lookup x = some c → c ≠ b) ∧ ∀ p ∈ X.pn ++ pins, p.1 ≠ b) : Inv X pins σ H' s' := by
  obtain ⟨h', g', d', t', o'⟩ := s'
  have e : o' = s.os := ho
  subst e
  exact I.call (g' := g') (t' := t') (d' := d') u hok hg hch
end

/-- an exception: its class, its own dict's address (where it has one), the abstract heap behind it -/
abbrev XK := Value → Option Addr → Hp → Prop
abbrev St := List (Option V)
abbrev VK := V → Hp → Prop
/-- an expression's reading; a test's; an argument list's -/
abbrev TE := St → Hp → VK → Prop
abbrev TT := St → Hp → (Bool → Hp → Prop) → Prop
abbrev TA := St → Hp → (List V → Hp → Prop) → Prop
/-- what is wanted behind a statement -/
structure Ends where
  nx : St → Hp → Prop
  rt : VK
  bk : St → Hp → Prop := fun _ _ => False
  ct : St → Hp → Prop := fun _ _ => False
abbrev TS := Ends → St → Hp → Prop

def EP (X : Cx) (pins : List (Addr × Obj)) (σ : St) (Q : VK) (u : Value) (s' : Shared) : Prop := ∃ v H', Inv X pins σ H' s' ∧ RelV v u ∧ Q v H'
def TP (X : Cx) (pins : List (Addr × Obj)) (σ : St) (Q : Bool → Hp → Prop) (b : Bool) (s' : Shared) : Prop := ∃ H', Inv X pins σ H' s' ∧ Q b H'
def AP (X : Cx) (pins : List (Addr × Obj)) (σ : St) (Q : List V → Hp → Prop) (us : List Value) (s' : Shared) : Prop := ∃ vs H', Inv X pins σ H' s' ∧ Vals vs us ∧ Q vs H'
def SP (X : Cx) (pins : List (Addr × Obj)) (D : Ends) (f : Flow) (s' : Shared) : Prop :=
  match f with
  | .next => ∃ σ' H', Inv X pins σ' H' s' ∧ D.nx σ' H'
  | .brk => ∃ σ' H', Inv X pins σ' H' s' ∧ D.bk σ' H'
  | .cont => ∃ σ' H', Inv X pins σ' H' s' ∧ D.ct σ' H'
  | .ret u => ∃ v σ' H', Inv X pins σ' H' s' ∧ RelV v u ∧ D.rt v H'

def PE (X : Cx) (e : Expr) (t : TE) : Prop :=
  ∀ (pins : List (Addr × Obj)) (s : Shared) (σ : St) (H : Hp) (Q : VK), Inv X pins σ H s → t σ H Q → wpAny (model X.prog X.w) X.A (eval e X.env) (EP X pins σ Q) X.xe s
def PT (X : Cx) (e : Expr) (t : TT) : Prop :=
  ∀ (pins : List (Addr × Obj)) (s : Shared) (σ : St) (H : Hp) (Q : Bool → Hp → Prop), Inv X pins σ H s → t σ H Q → wpAny (model X.prog X.w) X.A (isTrue e X.env (eval e X.env)) (TP X pins σ Q) X.xe s
/-- a test whatever its 'whole' is (and, or) -/
def PW (X : Cx) (e : Expr) (t : TT) : Prop :=
  ∀ (whole : Sem Value) (pins : List (Addr × Obj)) (s : Shared) (σ : St) (H : Hp) (Q : Bool → Hp → Prop), Inv X pins σ H s → t σ H Q → wpAny (model X.prog X.w) X.A (isTrue e X.env whole) (TP X pins σ Q) X.xe s
theorem PW.pt {X : Cx} {e : Expr} {t : TT} (h : PW X e t) : PT X e t := h _
/-- an argument list (no star), from the left -/
def PA (X : Cx) (es : List Expr) (t : TA) : Prop :=
  ∀ (pos : Pos) (pins : List (Addr × Obj)) (s : Shared) (σ : St) (H : Hp) (Q : List V → Hp → Prop), Inv X pins σ H s → t σ H Q → wpAny (model X.prog X.w) X.A (spliced (backTo pos (starEach es X.env))) (AP X pins σ Q) X.xe s
def PS (X : Cx) (st : Stmt) (t : TS) : Prop :=
  ∀ (pins : List (Addr × Obj)) (s : Shared) (σ : St) (H : Hp) (D : Ends), Inv X pins σ H s → t D σ H → wpAny (model X.prog X.w) X.A (exec st X.env) (SP X pins D) X.xe s
def PSs (X : Cx) (st : List Stmt) (t : TS) : Prop :=
  ∀ (pins : List (Addr × Obj)) (s : Shared) (σ : St) (H : Hp) (D : Ends), Inv X pins σ H s → t D σ H → wpAny (model X.prog X.w) X.A (execs st X.env) (SP X pins D) X.xe s
/-- weaken the end -/
theorem thn {α : Type} {t : Sem α} {Q Q' : α → Shared → Prop} {M : Model} {A : Around} {E : Value → Shared → Prop} {s : Shared} (h : wpAny M A t Q E s) (hQ : ∀ a s, Q a s → Q' a s) : wpAny M A t Q' E s := wpAny_mono h hQ fun _ _ x => x
end L2

namespace L2
open PySem PySem.Spec PyProof.Rows
section
variable {X : Cx}

def tVar (i : Nat) : TE := fun σ H Q => ∃ v, σ[i]? = some (some v) ∧ Q v H
def tC (v : V) : TE := fun _ H Q => Q v H
theorem pe_var {i : Nat} {x : Str} {pos : Pos} (hN : X.N[i]? = some x) (hv : Vis X.env.scope x) (hd : (x == ("__debug__" : Str)) = false := by decide) (hcd : (x == ("__classdict__" : Str)) = false := by decide) : PE X (.Name x pos) (tVar i) := by
  intro pins s σ H Q I h
  obtain ⟨v, e, h⟩ := h
  obtain ⟨m, hn, hl⟩ := I.loc
  obtain ⟨u, r, l⟩ := hl i x v hN e hv
  have fin : EP X pins σ Q u s := ⟨v, H, I, r, h⟩
  rcases l with ⟨hk, hm⟩ | ⟨hk, c, hc, hcell⟩
  · exact wpAny_Name (wpAny_loadName_local I.ok.kind hk hn hm fin) hd
  · rcases hk with hk | hk
    · exact wpAny_Name (wpAny_loadName_cell I.ok.kind hk hc hcell fin) hd
    · exact wpAny_Name (wpAny_loadName_free I.ok.kind hk hc hcell fin hcd) hd
theorem pe_int {i j pos} : PE X (.Constant (.int i) j pos) (tC (.int i)) := fun _ _ _ H _ I h => wpAny_Constant_int ⟨.int i, H, I.tok _, ⟨_, rfl⟩, h⟩
theorem pe_bl {b j pos} : PE X (.Constant (.bool b) j pos) (tC (.bl b)) := fun _ _ _ H _ I h => Constant_bool ⟨.bl b, H, I, rfl, h⟩
theorem pe_non {j pos} : PE X (.Constant .none j pos) (tC .non) := fun _ _ _ H _ I h => Constant_none ⟨.non, H, I, rfl, h⟩
/-- a global name of the def -/
def Gl (X : Cx) (x : Str) : Prop := X.env.kindOf x = some .globalImplicit
theorem ld_glob {E : Value → Shared → Prop} {pins : List (Addr × Obj)} {s : Shared} {σ : St} {H : Hp} {x : Str} {u : Value} {pos : Pos} {Q : Value → Shared → Prop} (I : Inv X pins σ H s) (hg : Gl X x) (hm : X.mg x = some u) (h : Q u s)
    (hd : (x == ("__debug__" : Str)) = false := by decide) : wpAny (model X.prog X.w) X.A (eval (.Name x pos) X.env) Q E s :=
  Calls.Name_function_global I.ok.kind hg (Calls.loadGlobal_global (by rw [I.ok.glob]; exact I.mod.glob.keeps I.bk) hm h) hd
theorem ld_blt {E : Value → Shared → Prop} {pins : List (Addr × Obj)} {s : Shared} {σ : St} {H : Hp} {x : Str} {u : Value} {pos : Pos} {Q : Value → Shared → Prop} (I : Inv X pins σ H s) (hg : Gl X x) (hm : X.mg x = none) (hv : bootBuiltins x = some u) (h : Q u s)
    (hn : x ≠ "__name__" := by decide) (hd : (x == ("__debug__" : Str)) = false := by decide) : wpAny (model X.prog X.w) X.A (eval (.Name x pos) X.env) Q E s := by
  obtain ⟨mb, h1, h2⟩ := I.mod.blt
  exact Calls.Name_function_global I.ok.kind hg (Calls.loadGlobal_builtin (by rw [I.ok.glob]; exact I.mod.glob.keeps I.bk) hm (by rw [I.ok.blt]; exact h1.keeps I.bk) ((h2 x hn).trans hv) h) hd
/-- a module's constant, a class, a function, as a value -/
theorem pe_glob {x : Str} {v : V} {u : Value} {pos : Pos} (hg : Gl X x) (hm : X.mg x = some u) (r : RelV v u) (hd : (x == ("__debug__" : Str)) = false := by decide) : PE X (.Name x pos) (tC v) :=
  fun _ _ _ H _ I h => ld_glob I hg hm ⟨v, H, I, r, h⟩ hd
variable {a b : Expr} {ta tb : TE} {pos : Pos}
def PC (X : Cx) (op : CmpOp) (a b : Expr) (t : TE) : Prop :=
  ∀ (pins : List (Addr × Obj)) (s : Shared) (σ : St) (H : Hp) (Q : VK), Inv X pins σ H s → t σ H Q →
    wpAny (model X.prog X.w) X.A (eval a X.env) (fun v s₁ => wpAny (model X.prog X.w) X.A (eval b X.env) (fun u s₂ => wpAny (model X.prog X.w) X.A (compareOp op v u) (EP X pins σ Q) X.xe s₂) X.xe s₁) X.xe s
theorem nobehind (b : Expr) {op : CmpOp} (h : op ≠ .In) (h2 : op ≠ .NotIn) : behindInMarks op b = false := by
  have e1 : (op == CmpOp.In) = false := by cases op <;> first | rfl | exact absurd rfl h
  have e2 : (op == CmpOp.NotIn) = false := by cases op <;> first | rfl | exact absurd rfl h2
  cases b <;> simp [behindInMarks, e1, e2]
/-- a comparison as a value, as a test -/
def tB (t : TE) : TT := fun σ H Q => t σ H fun x H1 => ∃ c, x = .bl c ∧ Q c H1
theorem pt_cmp {op : CmpOp} {t : TE} (h : PC X op a b t) (h1 : behindInMarks op b = false := by first | exact nobehind _ (by decide) (by decide) | rfl) : PT X (.Compare a [op] [b] pos) (tB t) := by
  intro pins s σ H Q I hw
  refine wpAny_isTrue_Compare1 (thn (h pins s σ H _ I hw) fun v s1 h1 => thn h1 fun u s2 h2 => thn h2 fun c s3 ⟨x, H1, I1, r1, q1⟩ => ?_) h1
  obtain ⟨d, rfl, q⟩ := q1
  cases r1
  exact wpAny_truthy_bool ⟨H1, I1, q⟩
/-- an expression whose value is a bool, as a test -/
theorem pt_val {e : Expr} {t : TE} (h : PE X e t) (he : ∀ whole, isTrue e X.env whole = (do let v ← whole; standAt e.pos; holding [v] (truthy v)) := by intro _; rfl) : PT X e (tB t) := by
  intro pins s σ H Q I hw
  refine isTrue_plain (thn (h pins s σ H _ I hw) fun v s1 ⟨x, H1, I1, r1, q1⟩ => ?_) (he _)
  obtain ⟨d, rfl, q⟩ := q1
  cases r1
  exact wpAny_truthy_bool ⟨H1, I1, q⟩

variable {tA tB' : TT} {rest : List Expr}
def tAnd (t u : TT) : TT := fun σ H Q => t σ H fun c H1 => if c = true then u σ H1 Q else Q false H1
def tNot (t : TT) : TT := fun σ H Q => t σ H fun c H1 => Q (!c) H1
theorem pw_and1 (ha : PT X a tA) : PW X (.BoolOp .And [a] pos) tA := by
  intro wh pins s σ H Q I h
  refine isTrue_and (thn (ha pins s σ H Q I h) fun c s1 e => ?_)
  cases c with
  | true => exact isTrue_and_nil e
  | false => exact e
theorem pw_and (ha : PT X a tA) (hb : PW X (.BoolOp .And (b :: rest) pos) tB') : PW X (.BoolOp .And (a :: b :: rest) pos) (tAnd tA tB') := by
  intro wh pins s σ H Q I h
  refine isTrue_and (thn (ha pins s σ H _ I h) fun c s1 ⟨H1, I1, q1⟩ => ?_)
  cases c with
  | true => exact hb wh pins s1 σ H1 Q I1 q1
  | false => exact ⟨H1, I1, q1⟩
theorem pt_not (ha : PT X a tA) : PT X (.UnaryOp .Not a pos) (tNot tA) := by
  intro pins s σ H Q I h
  exact isTrue_not (ha pins s σ H (fun c H1 => Q (!c) H1) I h)
end
end L2

namespace L2
open PySem PySem.Spec PyProof.Rows

def SqL (K : PySem.W.Frag) (H : Hp) (a : Addr) (xs : List V) : Prop :=
  Rd H a (.lst xs) ∨
    ∃ (o : Obj) (its : Array Value) (n : Nat), K.lookup a = some o ∧ o.cls = .type "list" ∧ o.dict = none ∧ o.data = .seq its n ∧ its.size ≤ sizeLine ∧ Vals xs its.toList
def SqT (K : PySem.W.Frag) (H : Hp) (a : Addr) (xs : List V) : Prop :=
  Rd H a (.tup xs) ∨
    ∃ (o : Obj) (its : Array Value) (n : Nat), K.lookup a = some o ∧ o.cls = .type "tuple" ∧ o.data = .seq its n ∧ its.size ≤ sizeLine ∧ Vals xs its.toList
def absV : Value → Option V
  | .none => some .non
  | .bool b => some (.bl b)
  | .int i _ => some (.int i)
  | .str x _ => some (.str x)
  | .bytes b _ => some (.byt b)
  | .float b _ => some (.flt b)
  | .ref a => some (.ref a)
  | .type n => some (.ty n)
  | _ => none
theorem RelV.abs {x : V} {u : Value} (r : RelV x u) : absV u = some x := by
  cases x with
  | non => cases r; rfl
  | bl _ => cases r; rfl
  | int _ => obtain ⟨t, rfl⟩ := r; rfl
  | str _ => obtain ⟨t, rfl⟩ := r; rfl
  | byt _ => obtain ⟨t, rfl⟩ := r; rfl
  | flt _ => obtain ⟨t, rfl⟩ := r; rfl
  | ref _ => cases r; rfl
  | ty _ => cases r; rfl
theorem RelV.inj {x y : V} {u : Value} (r : RelV x u) (q : RelV y u) : x = y := Option.some.inj (r.abs.symm.trans q.abs)
theorem Vals.inj : ∀ {xs ys : List V} {us : List Value}, Vals xs us → Vals ys us → xs = ys
  | _, _, _, .nil, .nil => rfl
  | _, _, _, .cons r t, .cons r' t' => by rw [r.inj r', Vals.inj t t']
section
variable {X : Cx} {pins : List (Addr × Obj)} {σ : St} {H : Hp} {s : Shared} {a : Addr} {xs ys : List V}
theorem SqL.of {K : PySem.W.Frag} (h : H a = some (.lst xs)) : SqL K H a xs := .inl (.inl h)
theorem SqT.of {K : PySem.W.Frag} (h : H a = some (.tup xs)) : SqT K H a xs := .inl (.inl h)
theorem Inv.list (I : Inv X pins σ H s) (h : SqL X.K H a xs) : ∃ its : List Value, Vals xs its ∧ PlainL s.heap a its.toArray ∧ xs.length ≤ sizeLine := by
  rcases h with h | ⟨o, its, n, hk, hc, hd, hs, hz, r⟩
  · obtain ⟨z, its, n, r, e⟩ := h.ok I.hok
    exact ⟨its, r, ⟨_, n, e, rfl, rfl, rfl⟩, z⟩
  · refine ⟨its.toList, r, ⟨o, n, I.kIn a o hk, hc, hd, by simpa using hs⟩, ?_⟩
    have e := r.length
    simp only [Array.length_toList] at e
    omega
theorem Inv.tuple (I : Inv X pins σ H s) (h : SqT X.K H a xs) : ∃ its : List Value, Vals xs its ∧ IsTup s.heap a its.toArray ∧ xs.length ≤ sizeLine := by
  rcases h with h | ⟨o, its, n, hk, hc, hs, hz, r⟩
  · obtain ⟨z, its, r, p⟩ := h.ok I.hok
    exact ⟨its, r, p, z⟩
  · refine ⟨its.toList, r, ⟨o, I.kIn a o hk, hc, n, by simpa using hs⟩, ?_⟩
    have e := r.length
    simp only [Array.length_toList] at e
    omega
theorem Inv.list_inj (I : Inv X pins σ H s) (h : SqL X.K H a xs) (h' : SqL X.K H a ys) : xs = ys := by
  obtain ⟨its, r, ⟨o, n, e, _, _, d⟩, _⟩ := I.list h
  obtain ⟨its', r', ⟨o', n', e', _, _, d'⟩, _⟩ := I.list h'
  rw [e] at e'; cases e'
  rw [d] at d'
  injection d' with d1 _
  have : its = its' := by simpa using congrArg Array.toList d1
  subst this
  exact r.inj r'
end

abbrev Cx.wish (X : Cx) (E : Value → Shared → Prop) : Cx := { X with xe := E }
/-- no exception leaves -/
abbrev Cx.nox (X : Cx) : Cx := X.wish fun _ _ => False
theorem Cx.Ok.wish {X : Cx} (ok : X.Ok) (E : Value → Shared → Prop) : (X.wish E).Ok :=
  ⟨ok.mod, ok.kind, ok.glob, ok.blt, ok.above, ok.inj, ok.has, ok.cab, ok.hd, ok.frames, ok.stk, ok.exf, ok.bs, ok.bsz, ok.noex, ok.exfs, ok.funs, ok.frf⟩
theorem Cx.Ok.unwish {X : Cx} {E : Value → Shared → Prop} (ok : (X.wish E).Ok) : X.Ok :=
  ⟨ok.mod, ok.kind, ok.glob, ok.blt, ok.above, ok.inj, ok.has, ok.cab, ok.hd, ok.frames, ok.stk, ok.exf, ok.bs, ok.bsz, ok.noex, ok.exfs, ok.funs, ok.frf⟩
section
variable {X : Cx} {pins : List (Addr × Obj)} {σ : St} {H : Hp} {s : Shared} {E : Value → Shared → Prop}
theorem Inv.wish (I : Inv X pins σ H s) (E : Value → Shared → Prop) : Inv (X.wish E) pins σ H s := ⟨I.ok.wish E, I.os, I.bare, I.base, I.loc, I.cell, I.free, I.freeC, I.pin, I.hok, I.len⟩
theorem Inv.unwish (I : Inv (X.wish E) pins σ H s) : Inv X pins σ H s := ⟨I.ok.unwish, I.os, I.bare, I.base, I.loc, I.cell, I.free, I.freeC, I.pin, I.hok, I.len⟩
theorem SP.unwish {D : Ends} {f : Flow} {s' : Shared} (h : SP (X.wish E) pins D f s') : SP X pins D f s' := by
  cases f with
  | next => obtain ⟨σ', H', I, q⟩ := h; exact ⟨σ', H', I.unwish, q⟩
  | brk => obtain ⟨σ', H', I, q⟩ := h; exact ⟨σ', H', I.unwish, q⟩
  | cont => obtain ⟨σ', H', I, q⟩ := h; exact ⟨σ', H', I.unwish, q⟩
  | ret u => obtain ⟨v, σ', H', I, r, q⟩ := h; exact ⟨v, σ', H', I.unwish, r, q⟩
theorem PE.nox {e : Expr} {t : TE} (h : PE X.nox e t) : PE X e t := fun pins s σ H Q I hw =>
  wpAny_mono (h pins s σ H Q (I.wish _) hw) (fun _ _ ⟨v, H', I', r, q⟩ => ⟨v, H', I'.unwish, r, q⟩) fun _ _ z => False.elim z
theorem PT.nox {e : Expr} {t : TT} (h : PT X.nox e t) : PT X e t := fun pins s σ H Q I hw =>
  wpAny_mono (h pins s σ H Q (I.wish _) hw) (fun _ _ ⟨H', I', q⟩ => ⟨H', I'.unwish, q⟩) fun _ _ z => False.elim z
theorem PSs.nox {st : List Stmt} {t : TS} (h : PSs X.nox st t) : PSs X st t := fun pins s σ H D I hw =>
  wpAny_mono (h pins s σ H D (I.wish _) hw) (fun _ _ q => q.unwish) fun _ _ z => False.elim z
end

section
variable {X : Cx} {st : Stmt} {rest : List Stmt} {t u : TS} {e : Expr} {te : TE} {pos : Pos}
def tNext : TS := fun D σ H => D.nx σ H
def tSeq (t u : TS) : TS := fun D σ H => t { D with nx := u D } σ H
theorem pss_nil : PSs X [] tNext := fun _ _ σ H _ I h => wpAny_execs_nil ⟨σ, H, I, h⟩
theorem pss_cons (h1 : PS X st t) (h2 : PSs X rest u) : PSs X (st :: rest) (tSeq t u) := by
  intro pins s σ H D I h
  refine wpAny_execs_cons (thn (h1 pins s σ H { D with nx := u D } I h) fun f s1 q => ?_)
  cases f with
  | next =>
    obtain ⟨σ', H', I', q⟩ := q
    exact h2 pins s1 σ' H' D I' q
  | ret v => exact q
  | brk => exact q
  | cont => exact q
theorem pss_one (h1 : PS X st t) : PSs X [st] t := by
  intro pins s σ H D I h
  refine wpAny_execs_cons (thn (h1 pins s σ H D I h) fun f s1 q => ?_)
  cases f with
  | next => exact wpAny_execs_nil q
  | ret v => exact q
  | brk => exact q
  | cont => exact q
/-- in a def's body nothing is shown -/
theorem Inv.quiet {pins : List (Addr × Obj)} {σ : St} {H : Hp} {s : Shared} (I : Inv X pins σ H s) : interactive X.env = false := by simp [interactive, I.ok.kind]
/-- an expression whose value is dropped -/
def tDrop (te : TE) : TS := fun D σ H => te σ H fun _ H1 => D.nx σ H1
theorem ps_expr (he : PE X e te) (hs : swapsWith e none pos.line X.env = pure false := by rfl) : PS X (.Expr e pos) (tDrop te) := by
  intro pins s σ H D I h
  exact wpAny_Expr_any (thn (he pins s σ H _ I h) fun v s1 ⟨x, H1, I1, r1, q1⟩ => ⟨σ, H1, I1, q1⟩) I.quiet hs
def tRet (te : TE) : TS := fun D σ H => te σ H D.rt
theorem ps_ret (he : PE X e te) : PS X (.Return (some e) pos) (tRet te) := by
  intro pins s σ H D I h
  exact wpAny_Return_some (thn (he pins s σ H _ I h) fun v s1 ⟨x, H1, I1, r1, q1⟩ => ⟨x, σ, H1, I1, r1, q1⟩)
def tIfS (c : TT) (t u : TS) : TS := fun D σ H => c σ H fun b H1 => if b = true then t D σ H1 else u D σ H1
theorem ps_if {c : Expr} {a b : List Stmt} {tc : TT} (hc : PT X c tc) (ha : PSs X a t) (hb : PSs X b u) : PS X (.If c a b pos) (tIfS tc t u) := by
  intro pins s σ H D I h
  refine wpAny_If (thn (hc pins s σ H _ I h) fun d s1 ⟨H1, I1, q1⟩ => ?_)
  cases d with
  | true => exact ha pins s1 σ H1 D I1 q1
  | false => exact hb pins s1 σ H1 D I1 q1
end

abbrev TG := V → St → Hp → (St → Hp → Prop) → Prop
abbrev TGs := List V → St → Hp → (St → Hp → Prop) → Prop
def PG (X : Cx) (target : Expr) (t : TG) : Prop :=
  ∀ (pins : List (Addr × Obj)) (s : Shared) (σ : St) (H : Hp) (v : V) (u : Value) (Q : St → Hp → Prop), Inv X pins σ H s → RelV v u → t v σ H Q →
    wpAny (model X.prog X.w) X.A (assign target X.env u) (fun _ s' => ∃ σ' H', Inv X pins σ' H' s' ∧ Q σ' H') X.xe s
/-- several targets, one after another -/
def PGs (X : Cx) (ts : List Expr) (t : TGs) : Prop :=
  ∀ (pins : List (Addr × Obj)) (s : Shared) (σ : St) (H : Hp) (vs : List V) (us : List Value) (Q : St → Hp → Prop), Inv X pins σ H s → Vals vs us → t vs σ H Q →
    wpAny (model X.prog X.w) X.A (assignInOrder ((assignEach ts X.env).map (·.2)) us) (fun _ s' => ∃ σ' H', Inv X pins σ' H' s' ∧ Q σ' H') X.xe s
section
variable {X : Cx} {pos : Pos}
def gName (i : Nat) : TG := fun v σ H Q => Q (σ.set i (some v)) H
theorem pg_name {i : Nat} {x : Str} (hN : X.N.Nodup) (hi : X.N[i]? = some x) (hx : Loc X.env.scope x) (hf : X.fn x = true ∨ X.env.scope.names.lookup x = some .local := by first | exact .inl rfl | exact .inr rfl | assumption) : PG X (.Name x pos) (gName i) := by
  intro pins s σ H v u Q I r h
  exact wpAny_assign_Name (store_ok I hN hi hx r (fun s' I' => ⟨_, H, I', h⟩) hf)
def gNil : TGs := fun vs σ H Q => vs = [] ∧ Q σ H
def gCons (t : TG) (u : TGs) : TGs := fun vs σ H Q => ∃ v r, vs = v :: r ∧ t v σ H fun σ' H' => u r σ' H' Q
theorem pgs_nil : PGs X [] gNil := by
  intro pins s σ H vs us Q I r h
  obtain ⟨e, h⟩ := h
  subst e
  cases r
  exact assignInOrder_nil ⟨σ, H, I, h⟩
theorem pgs_cons {e : Expr} {es : List Expr} {t : TG} {u : TGs} (h1 : PG X e t) (h2 : PGs X es u)
    (hs : (assignEach (e :: es) X.env).map (·.2) = assign e X.env :: (assignEach es X.env).map (·.2) := by rfl) : PGs X (e :: es) (gCons t u) := by
  intro pins s σ H vs us Q I r h
  obtain ⟨v, vr, e1, h⟩ := h
  subst e1
  cases r with
  | cons r rr =>
    rw [hs]
    refine assignInOrder_cons (thn (h1 pins s σ H _ _ _ I r h) fun _ s1 ⟨σ1, H1, I1, q1⟩ => ?_)
    exact h2 pins s1 σ1 H1 _ _ Q I1 rr q1
/-- (a, b, ..) = a tuple of that length -/
def gTup (K : PySem.W.Frag) (n : Nat) (t : TGs) : TG := fun v σ H Q => ∃ a xs, v = .ref a ∧ SqT K H a xs ∧ xs.length = n ∧ t xs σ H Q
theorem pg_tup {es : List Expr} {k : Nat} {t : TGs} {n : Nat} (hc : X.calm = true) (h : PGs X es t)
    (hn : (assignEach es X.env).length = n := by rfl) (hst : (assignEach es X.env).findIdx? (·.1) = none := by rfl) : PG X (.Tuple es k pos) (gTup X.K n t) := by
  intro pins s σ H v u Q I r hw
  obtain ⟨a, xs, e1, hq, hl, hw⟩ := hw
  subst e1
  cases r
  obtain ⟨its, rv, ht, hz⟩ := I.tuple hq
  refine assign_Tuple_tuple (I.ok.hd hc) ht (by simp [hn, ← hl, rv.length]) hst fun h' hx => ?_
  have I1 : Inv X pins σ H { s with heap := h' } := I.kept (t' := s.toks) fun b o e => hx b o (Nat.ne_of_lt (Heap.lt_size e)) e
  exact h pins _ σ H xs _ Q I1 (by simpa using rv) hw
/-- target = value -/
def tAsg (te : TE) (g : TG) : TS := fun D σ H => te σ H fun x H1 => g x σ H1 D.nx
/-- name = value -/
theorem ps_set {i : Nat} {x : Str} {e : Expr} {te : TE} {pos' : Pos} (hN : X.N.Nodup) (hi : X.N[i]? = some x) (hx : Loc X.env.scope x) (he : PE X e te) (hs : swapsWith e (some (.Name x pos')) pos.line X.env = pure false := by rfl) (hf : X.fn x = true ∨ X.env.scope.names.lookup x = some .local := by first | exact .inl rfl | exact .inr rfl | assumption) :
    PS X (.Assign [.Name x pos'] e pos) (tAsg te (gName i)) := by
  intro pins s σ H D I h
  refine wpAny_Assign_Name (thn (he pins s σ H _ I h) fun v s1 ⟨y, H1, I1, r1, q1⟩ => ?_) hs
  exact store_ok I1 hN hi hx r1 (fun s2 I2 => ⟨_, H1, I2, q1⟩) hf
end

section
variable {X : Cx} {pos : Pos}
/-- the invariant W with its measure -/
def tWhile (c : TT) (tb : TS) : TS := fun D σ H => ∃ W : Nat → St → Hp → Prop, (∃ m, W m σ H) ∧ ∀ m σ H, W m σ H →
  c σ H fun b H1 => if b = true then ∃ N : St → Hp → Prop, (∀ σ' H', N σ' H' → ∃ m', m' < m ∧ W m' σ' H') ∧ tb { D with nx := N, ct := N, bk := D.nx } σ H1 else D.nx σ H1
theorem ps_while {c : Expr} {body : List Stmt} {tc : TT} {tb : TS} (hp : PassesOwn (model X.prog X.w) X.A X.env X.xe) (hc : PT X c tc) (hb : PSs X body tb) : PS X (.While c body [] pos) (tWhile tc tb) := by
  intro pins s σ H D I h
  obtain ⟨W, ⟨m0, w0⟩, turn⟩ := h
  refine wpAny_While (codeAny_whileLoop (fun n s' => ∃ σ' H', Inv X pins σ' H' s' ∧ W n σ' H') ?_ m0 ⟨σ, H, I, w0⟩)
  rintro n s1 ⟨σ1, H1, I1, w1⟩
  refine wpAny_passesOwn hp (thn (hc pins s1 σ1 H1 _ I1 (turn n σ1 H1 w1)) fun b s2 ⟨H2, I2, q2⟩ => ?_)
  cases b with
  | true =>
    obtain ⟨N, hN, q2⟩ := q2
    rw [if_pos rfl]
    refine wpAny_passesOwn hp (thn (hb pins s2 σ1 H2 _ I2 q2) fun f s3 q3 => ?_)
    cases f with
    | next =>
      obtain ⟨σ3, H3, I3, n3⟩ := q3
      obtain ⟨m', hm, w3⟩ := hN σ3 H3 n3
      exact ⟨m', hm, σ3, H3, I3, w3⟩
    | cont =>
      obtain ⟨σ3, H3, I3, n3⟩ := q3
      obtain ⟨m', hm, w3⟩ := hN σ3 H3 n3
      exact ⟨m', hm, σ3, H3, I3, w3⟩
    | brk => exact q3
    | ret v => exact q3
  | false =>
    rw [if_neg Bool.false_ne_true]
    exact wpAny_execs_nil ⟨σ1, H2, I2, q2⟩
end

/-- at turn i: it yields x (the heap may grow), or it stops -/
structure It where
  go : Nat → Hp → Prop
  yld : Nat → Hp → V → Hp → Prop
  stop : Nat → Hp → Prop
/-- the iterator's own objects may turn: they are not the frame's, not pinned, younger than the entry (or a comprehension's own) -/
def FpOk (X : Cx) (pins : List (Addr × Obj)) (H : Hp) (b : Addr) : Prop :=
  H b = none ∧ b ≠ X.env.locals ∧ b ∉ X.fs ∧ (b ∈ X.ex ∨ X.s₀.heap.objs.size ≤ b) ∧ (∀ x c, X.env.cells.lookup x = some c → c ≠ b) ∧ ∀ p ∈ X.pn ++ pins, p.1 ≠ b
theorem Inv.fpOk {X : Cx} {pins : List (Addr × Obj)} {σ : St} {H H' : Hp} {s : Shared} {b : Addr} (I : Inv X pins σ H s) (hb : s.heap.objs.size ≤ b) (hn : H' b = none) : FpOk X pins H' b := by
  refine ⟨hn, Nat.ne_of_gt (Nat.lt_of_lt_of_le I.lt hb), I.nofs hb, .inr (Nat.le_trans I.sz hb), fun x c e z => ?_, fun p hp z => ?_⟩
  · obtain ⟨v, q⟩ := I.cell x c e
    exact absurd (Nat.lt_of_lt_of_le q.lt (by rw [z]; exact hb)) (Nat.lt_irrefl _)
  · exact absurd (Nat.lt_of_lt_of_le (Heap.lt_size (I.pin p hp).1) (by rw [z]; exact hb)) (Nat.lt_irrefl _)
structure Turn (P : Program) (w : World) (K : PySem.W.Frag) (tg : Expr) (J : It) (fp : List Addr) (it : Addr) (tn : Nat → Heap → Prop) : Prop where
  mem : it ∈ fp
  obj : ∀ i h, tn i h → ∀ b ∈ fp, ∃ o, h.get? b = some o ∧ ∀ v, o.data ≠ .cell v
  keep : ∀ i h h', tn i h → (∀ b ∈ fp, ∀ o, h.get? b = some o → h'.get? b = some o) → tn i h'
  item : ∀ (X : Cx), X.prog = P → X.w = w → X.K = K → X.calm = true → ∀ (i : Nat) (pins : List (Addr × Obj)) (s : Shared) (σ : St) (H : Hp) (E : Value → Shared → Prop), Inv X pins σ H s → (∀ b ∈ fp, FpOk X pins H b) → tn i s.heap → J.go i H →
    wpAny (model P w) X.A (pyNext (.ref it)) (fun r s1 => ∃ u, r = some u ∧
      wpAny (model P w) X.A (letOwnedTupleGo tg (.ref it) u) (fun _ s2 => ∃ x H', Inv X pins σ H' s2 ∧ RelV x u ∧ J.yld i H x H' ∧ tn (i + 1) s2.heap ∧ ∀ b ∈ fp, H' b = none) E s1) E s
  done : ∀ (X : Cx), X.prog = P → X.w = w → X.K = K → X.calm = true → ∀ (i : Nat) (pins : List (Addr × Obj)) (s : Shared) (σ : St) (H : Hp) (E : Value → Shared → Prop), Inv X pins σ H s → (∀ b ∈ fp, FpOk X pins H b) → tn i s.heap → J.stop i H →
    wpAny (model P w) X.A (pyNext (.ref it)) (fun r s1 => r = none ∧ Inv X pins σ H s1) E s
  self : ∀ (A : Around) (i : Nat) (s : Shared) (Q : Value → Shared → Prop) (E : Value → Shared → Prop), tn i s.heap → Q (.ref it) s → wpAny (model P w) A (pyIter (.ref it)) Q E s
abbrev TI := St → Hp → (It → Hp → Prop) → Prop
/-- an iterator has come -/
def PIE (X : Cx) (pins : List (Addr × Obj)) (σ : St) (tg : Expr) (R : It → Hp → Prop) (itv : Value) (s2 : Shared) : Prop :=
  ∃ (it : Addr) (fp : List Addr) (tn : Nat → Heap → Prop) (J : It) (H' : Hp), itv = .ref it ∧ Inv X pins σ H' s2 ∧ Turn X.prog X.w X.K tg J fp it tn ∧ tn 0 s2.heap ∧ (∀ b ∈ fp, FpOk X pins H' b) ∧ R J H'
def PI (X : Cx) (tg iter : Expr) (wi : TI) : Prop :=
  ∀ (pins : List (Addr × Obj)) (s : Shared) (σ : St) (H : Hp) (R : It → Hp → Prop), Inv X pins σ H s → wi σ H R →
    wpAny (model X.prog X.w) X.A (eval iter X.env) (fun v s1 => wpAny (model X.prog X.w) X.A (pyIter v) (PIE X pins σ tg R) X.xe s1) X.xe s

/-- the step ahead of the store is nothing for an iterator that keeps no tuple -/
theorem go_of {M : Model} {A : Around} {E : Value → Shared → Prop} {s : Shared} {tg : Expr} {it : Addr} {u : Value} {o : Obj} {n : String} {vs : Array Value} {Q : Unit → Shared → Prop} (ho : s.heap.get? it = some o) (hc : o.cls = .type n) (hd : o.data = .fields vs)
    (hn : ["enumerate", "zip", "dict_itemiterator", "dict_reverseitemiterator", "odict_iterator", "itertools.zip_longest", "itertools.pairwise"].contains n = false) (hQ : Q () s) : wpAny M A (letOwnedTupleGo tg (.ref it) u) Q E s := by
  unfold letOwnedTupleGo
  cases tg <;> first
    | exact wpAny_pure hQ
    | (cases u <;> first
        | exact wpAny_pure hQ
        | (refine wpAny_bind (wpAny_load ho ?_)
           rw [hc, hd]
           show wpAny M A (if (["enumerate", "zip", "dict_itemiterator", "dict_reverseitemiterator", "odict_iterator", "itertools.zip_longest", "itertools.pairwise"].contains n && vs[0]? == some (rawInt _)) = true then _ else _) Q E s
           rw [if_neg (by intro h; rw [hn, Bool.false_and] at h; cases h)]
           exact wpAny_pure hQ))

/-- the list at a, as it stands at each turn (a loop may append to it) -/
def Itl (K : PySem.W.Frag) (a : Addr) : It :=
  ⟨fun i H => ∃ xs x, SqL K H a xs ∧ xs[i]? = some x, fun i H x H' => H' = H ∧ ∀ xs, SqL K H a xs → xs[i]? = some x, fun i H => ∃ xs, SqL K H a xs ∧ xs.length ≤ i⟩
/-- lo, lo + 1, .. (n of them) -/
def Itr (lo : Int) (n : Nat) : It := ⟨fun i _ => i < n, fun i H x H' => H' = H ∧ x = .int (lo + i), fun i _ => n ≤ i⟩
theorem turn_list {P : Program} {w : World} {K : PySem.W.Frag} {tg : Expr} (a it : Addr) : Turn P w K tg (Itl K a) [it] it (fun i h => h.IsListIter it a i) where
  mem := by simp
  obj := fun i h st b hb => by
    have e : b = it := by simpa using hb
    subst e
    obtain ⟨o, e, c, d⟩ := st
    exact ⟨o, e, fun v z => by rw [d] at z; cases z⟩
  keep := fun i h h' st k => st.at fun o e => k it (by simp) o e
  item := by
    intro X hP hw hK hc i pins s σ H E I hf st hg
    subst hP hw hK
    obtain ⟨xs, x, hq, hx⟩ := hg
    obtain ⟨its, rv, p, hz⟩ := I.list hq
    obtain ⟨u, hu, ru⟩ := rv.get hx
    obtain ⟨f0, f1, f2, f3, f4, f5⟩ := hf it (by simp)
    refine wpAny_pyNext_list_item st p.isList (x := u) (by simpa using hu) fun h' st' sb => ?_
    have I1 : Inv X pins σ H { s with heap := h' } := I.turned (t' := s.toks) (fun b o hb e => (sb.2 b hb).trans e) f0 f1 f3 f4 f5
    obtain ⟨o, e, c, d⟩ := id st'
    exact ⟨u, rfl, go_of (s := { s with heap := h' }) e c d (by decide) ⟨x, H, I1, ru, ⟨rfl, fun ys hy => by rw [I.list_inj hy hq]; exact hx⟩, st', fun b hb => (hf b hb).1⟩⟩
  done := by
    intro X hP hw hK hc i pins s σ H E I hf st hg
    subst hP hw hK
    obtain ⟨xs, hq, hx⟩ := hg
    obtain ⟨its, rv, p, hz⟩ := I.list hq
    obtain ⟨f0, f1, f2, f3, f4, f5⟩ := hf it (by simp)
    have hl := rv.length
    exact wpAny_pyNext_list_end (I.ok.hd hc) st p.isList (by simp; omega) fun h' eb => ⟨rfl, I.turned (t' := s.toks) (fun b o hb e => eb b o hb e) f0 f1 f3 f4 f5⟩
  self := fun _ _ _ _ _ st h => wpAny_pyIter_listiter st h
theorem turn_range {P : Program} {w : World} {K : PySem.W.Frag} {tg : Expr} (it : Addr) (lo : Int) (n : Nat) : Turn P w K tg (Itr lo n) [it] it (fun i h => IsRangeIter h it (lo + (i : Nat) * 1) ((n : Int) - (i : Nat)) 1) where
  mem := by simp
  obj := fun i h st b hb => by
    have e : b = it := by simpa using hb
    subst e
    exact ⟨_, st, fun v z => by
      have z' : Data.fields _ = Data.cell v := z
      cases z'⟩
  keep := fun i h h' st k => k it (by simp) _ st
  item := by
    intro X hP hw hK hc i pins s σ H E I hf st hg
    subst hP hw hK
    obtain ⟨f0, f1, f2, f3, f4, f5⟩ := hf it (by simp)
    have W := Walks.range (prog := X.prog) (w := X.w) (I.ok.hd hc) it lo 1 n
    refine W.item i s _ _ hg st fun v h' tk hv st' kk => ?_
    obtain ⟨t, rfl⟩ := hv
    have I1 : Inv X pins σ H { s with heap := h', toks := tk } := I.turned (fun b o hb e => kk b o (by simpa using hb) e) f0 f1 f3 f4 f5
    refine ⟨_, rfl, go_of (s := { s with heap := h', toks := tk }) (n := "range_iterator") st' rfl rfl (by decide) ⟨.int (lo + i), H, I1, ⟨t, ?_⟩, ⟨rfl, rfl⟩, st', fun b hb => (hf b hb).1⟩⟩
    rw [Int.mul_one]
  done := by
    intro X hP hw hK hc i pins s σ H E I hf st hg
    subst hP hw hK
    obtain ⟨f0, f1, f2, f3, f4, f5⟩ := hf it (by simp)
    exact wpAny_pyNext_range_end (I.ok.hd hc) st (by have : n ≤ i := hg; omega) fun h' eb => ⟨rfl, I.turned (t' := s.toks) (fun b o hb e => eb b o hb e) f0 f1 f3 f4 f5⟩
  self := fun _ _ _ _ _ st h => wpAny_pyIter_rangeiter st h
end L2

namespace L2
open PySem PySem.Spec PyProof.Rows
section
variable {X : Cx} {tg : Expr}
def iList (K : PySem.W.Frag) (tl : TE) : TI := fun σ H R => tl σ H fun x H1 => ∃ a, x = .ref a ∧ (∃ xs, SqL K H1 a xs) ∧ R (Itl K a) H1
theorem pi_list {l : Expr} {tl : TE} (hl : PE X l tl) : PI X tg l (iList X.K tl) := by
  intro pins s σ H R I h
  refine thn (hl pins s σ H _ I h) fun v s1 ⟨x, H1, I1, r1, q1⟩ => ?_
  obtain ⟨a, e, ⟨xs, hq⟩, q⟩ := q1
  subst e
  cases r1
  obtain ⟨its, rv, p, hz⟩ := I1.list hq
  refine wpAny_pyIter_list p.isList ?_
  refine ⟨s1.heap.objs.size, [s1.heap.objs.size], _, _, H1, rfl, I1.kept (t' := s1.toks) fun b o e => Heap.get?_push_of_some _ e, turn_list a _, ⟨_, Heap.get?_push_size _ rfl, rfl, rfl⟩, fun b hb => ?_, q⟩
  have e : b = s1.heap.objs.size := by simpa using hb
  subst e
  exact I1.fpOk (Nat.le_refl _) (I1.hok.fresh (Nat.le_refl _))
/-- a range object just made, walked -/
theorem range_it {pins : List (Addr × Obj)} {σ : St} {H : Hp} {s : Shared} {R : It → Hp → Prop} {E : Value → Shared → Prop} {lo hi : Int} {t u v : Tok} {tk : Nat} (I : Inv X pins σ H s) (h1 : -(2 ^ 62) ≤ lo) (h2 : lo < 2 ^ 62) (h3 : -(2 ^ 62) ≤ hi) (h4 : hi < 2 ^ 62)
    (q : R (Itr lo (hi - lo).toNat) H) : wpAny (model X.prog X.w) X.A (pyIter (.ref s.heap.objs.size)) (PIE X pins σ tg R) E { s with heap := s.heap.push { cls := .type "range", data := .fields #[.int lo t, .int hi u, .int 1 v] }, toks := tk } := by
  refine wpAny_pyIter_range (IsRange.new ..) (small_one h1 h2 h3 h4) ?_
  have I1 : Inv X pins σ H { s with heap := s.heap.push { cls := .type "range", data := .fields #[.int lo t, .int hi u, .int 1 v] }, toks := tk } := I.kept fun b o e => Heap.get?_push_of_some _ e
  refine ⟨(s.heap.push { cls := .type "range", data := .fields #[.int lo t, .int hi u, .int 1 v] }).objs.size, [(s.heap.push { cls := .type "range", data := .fields #[.int lo t, .int hi u, .int 1 v] }).objs.size], _, _, H, rfl,
    I1.kept (t' := tk) fun b o e => Heap.get?_push_of_some _ e, turn_range _ lo (hi - lo).toNat, ?_, fun b hb => ?_, q⟩
  · have e1 : lo + ((0 : Nat) : Int) * 1 = lo := by simp
    have e2 : (((hi - lo).toNat : Nat) : Int) - ((0 : Nat) : Int) = Builtin.Range.rangeSize lo hi 1 := by rw [rangeSize_one]; split <;> omega
    show IsRangeIter _ _ (lo + ((0 : Nat) : Int) * 1) ((((hi - lo).toNat : Nat) : Int) - ((0 : Nat) : Int)) 1
    rw [e1, e2]
    exact Heap.get?_push_size _ rfl
  · have e : b = (s.heap.push { cls := .type "range", data := .fields #[.int lo t, .int hi u, .int 1 v] }).objs.size := by simpa using hb
    subst e
    exact I1.fpOk (Nat.le_refl _) (I1.hok.fresh (Nat.le_refl _))
def iRng1 (ta : TA) : TI := fun σ H R => ta σ H fun vs H1 => ∃ j : Int, vs = [.int j] ∧ -(2 ^ 62) ≤ j ∧ j < 2 ^ 62 ∧ R (Itr 0 j.toNat) H1
theorem pi_range1 {a : Expr} {ta : TA} {p pos : Pos} (hg : Gl X "range") (hm : X.mg "range" = none) (ha : PA X [a] ta) (hs : starEach [a] X.env = [(false, eval a X.env)] := by rfl) : PI X tg (.Call (.Name "range" p) [a] [] pos) (iRng1 ta) := by
  intro pins s σ H R I h
  refine Call_ (ld_blt I hg hm boot_range (PyProof.Rows.callWith_type1 (thn (ha pos pins s σ H _ I h) fun us s1 ⟨vs, H1, I1, r1, q1⟩ => ?_) hs rfl))
  obtain ⟨j, e, q1, q2, q⟩ := q1
  subst e
  cases r1 with
  | cons r rr =>
    cases rr
    obtain ⟨t, rfl⟩ := r
    exact call_range_1 (range_it I1 (by omega) (by omega) q1 q2 (by simpa using q))
/-- W: the invariant by the turn and a measure; N: what the body is to reach -/
def tFor (wi : TI) (g : TG) (tb : TS) : TS := fun D σ H => wi σ H fun J H1 => ∃ W : Nat → Nat → St → Hp → Prop, (∃ m, W 0 m σ H1) ∧ ∀ i m σ H, W i m σ H →
  (J.stop i H ∧ D.nx σ H) ∨ (J.go i H ∧ ∃ N : St → Hp → Prop, (∀ σ' H', N σ' H' → ∃ m', m' < m ∧ W (i + 1) m' σ' H') ∧ ∀ x H', J.yld i H x H' → g x σ H' fun σ2 H2 => tb { D with nx := N, ct := N, bk := D.nx } σ2 H2)
/-- the records at fp as they stand -/
def pinsAt (fp : List Addr) (h : Heap) : List (Addr × Obj) := fp.filterMap fun b => (h.get? b).map fun o => (b, o)
theorem mem_pinsAt {fp : List Addr} {h : Heap} {b : Addr} {o : Obj} (hb : b ∈ fp) (e : h.get? b = some o) : (b, o) ∈ pinsAt fp h := List.mem_filterMap.mpr ⟨b, hb, by rw [e]; rfl⟩
theorem of_pinsAt {fp : List Addr} {h : Heap} {p : Addr × Obj} (hp : p ∈ pinsAt fp h) : p.1 ∈ fp ∧ h.get? p.1 = some p.2 := by
  obtain ⟨b, hb, e⟩ := List.mem_filterMap.mp hp
  cases q : h.get? b with
  | none => rw [q] at e; cases e
  | some o =>
    rw [q] at e
    have e' : (b, o) = p := Option.some.inj e
    subst e'
    exact ⟨hb, q⟩
theorem Inv.pinned {pins : List (Addr × Obj)} {σ : St} {H : Hp} {s : Shared} {fp : List Addr} (I : Inv X pins σ H s) (hf : ∀ b ∈ fp, FpOk X pins H b) (ho : ∀ b ∈ fp, ∃ o, s.heap.get? b = some o ∧ ∀ v, o.data ≠ .cell v) : Inv X (pins ++ pinsAt fp s.heap) σ H s :=
  I.pins_of fun p hp => (List.mem_append.mp hp).elim (fun z => I.pin p (List.mem_append_right _ z)) fun z => by
    obtain ⟨hb, e⟩ := of_pinsAt z
    obtain ⟨f0, f1, f2, _⟩ := hf p.1 hb
    obtain ⟨o, e', d⟩ := ho p.1 hb
    rw [e] at e'; cases e'
    exact ⟨e, f0, f1, f2, d⟩
theorem Inv.unpinned {pins pl : List (Addr × Obj)} {σ : St} {H : Hp} {s : Shared} (I : Inv X (pins ++ pl) σ H s) : Inv X pins σ H s := I.pins_of fun p hp => I.pin p (List.mem_append_right _ (List.mem_append_left _ hp))
theorem ps_for {iter : Expr} {body : List Stmt} {wi : TI} {g : TG} {tb : TS} {pos : Pos} (hp : PassesOwn (model X.prog X.w) X.A X.env X.xe) (hc : X.calm = true) (hi : PI X tg iter wi) (hg : PG X tg g) (hb : PSs X body tb)
    (hs : ∀ x, foldedSetIterable iter X.env x = pure x := by intro _; rfl) : PS X (.For tg iter body [] pos) (tFor wi g tb) := by
  intro pins s σ H D I h
  refine wpAny_For (thn (hi pins s σ H _ I h) fun v s1 h1 => thn h1 fun itv s2 h2 => ?_) hs
  obtain ⟨it, fp, tn, J, H2, e, I2, T, st2, f2, W, ⟨m0, w0⟩, turn⟩ := h2
  subst e
  -- what stays true of the iterator's objects through the loop
  have stat : ∀ {H' : Hp}, (∀ b ∈ fp, H' b = none) → ∀ b ∈ fp, FpOk X pins H' b := fun hn b hb => ⟨hn b hb, (f2 b hb).2⟩
  refine codeAny_forLoop_any (fun n s' => ∃ i σ' H', Inv X pins σ' H' s' ∧ tn i s'.heap ∧ (∀ b ∈ fp, H' b = none) ∧ W i n σ' H') ?_ m0 ⟨0, σ, H2, I2, st2, fun b hb => (f2 b hb).1, w0⟩
  rintro n s3 ⟨i, σ3, H3, I3, st3, fr3, w3⟩
  rcases turn i n σ3 H3 w3 with ⟨stop, qn⟩ | ⟨go, N, hN, step⟩
  · refine wpAny_passesOwn hp (thn (T.done X rfl rfl rfl hc i pins s3 σ3 H3 X.xe I3 (stat fr3) st3 stop) fun r s4 ⟨hr, I4⟩ => ?_)
    subst hr
    exact wpAny_execs_nil ⟨σ3, H3, I4, qn⟩
  · refine wpAny_passesOwn hp (thn (T.item X rfl rfl rfl hc i pins s3 σ3 H3 X.xe I3 (stat fr3) st3 go) fun r s4 ⟨u, hr, h4⟩ => ?_)
    subst hr
    refine wpAny_passesOwn hp (thn h4 fun _ s5 ⟨x, H5, I5, r5, y5, st5, fr5⟩ => ?_)
    have I5' := I5.pinned (stat fr5) (T.obj _ _ st5)
    refine wpAny_passesOwn hp (thn (hg _ s5 σ3 H5 x u _ I5' r5 (step x H5 y5)) fun _ s6 ⟨σ6, H6, I6, q6⟩ => ?_)
    refine wpAny_passesOwn hp (thn (hb _ s6 σ6 H6 _ I6 q6) fun f s7 q7 => ?_)
    have again : ∀ {σ7 : St} {H7 : Hp}, Inv X (pins ++ pinsAt fp s5.heap) σ7 H7 s7 → N σ7 H7 → ∃ m, m < n ∧ ∃ i σ' H', Inv X pins σ' H' s7 ∧ tn i s7.heap ∧ (∀ b ∈ fp, H' b = none) ∧ W i m σ' H' := fun {σ7 H7} I7 n7 => by
      obtain ⟨m', hm, w7⟩ := hN σ7 H7 n7
      refine ⟨m', hm, i + 1, σ7, H7, I7.unpinned, T.keep _ _ _ st5 fun b hb o e => (I7.pin (b, o) (List.mem_append_right _ (List.mem_append_right _ (mem_pinsAt hb e)))).1, fun b hb => ?_, w7⟩
      obtain ⟨o, e, d⟩ := T.obj _ _ st5 b hb
      exact (I7.pin (b, o) (List.mem_append_right _ (List.mem_append_right _ (mem_pinsAt hb e)))).2.1
    cases f with
    | next => obtain ⟨σ7, H7, I7, n7⟩ := q7; exact again I7 n7
    | cont => obtain ⟨σ7, H7, I7, n7⟩ := q7; exact again I7 n7
    | brk => obtain ⟨σ7, H7, I7, q7⟩ := q7; exact ⟨σ7, H7, I7.unpinned, q7⟩
    | ret v => obtain ⟨x7, σ7, H7, I7, r7, q7⟩ := q7; exact ⟨x7, σ7, H7, I7.unpinned, r7, q7⟩
end

/-- over a list that the body leaves as it is -/
theorem for_list {K : PySem.W.Frag} {a : Addr} {xs : List V} {g : TG} {tb : TS} {D : Ends} {σ : St} {H : Hp} (Pv : Nat → St → Hp → Prop) (h0 : Pv 0 σ H) (hl : ∀ i σ H, i ≤ xs.length → Pv i σ H → SqL K H a xs)
    (hs : ∀ i x σ H, xs[i]? = some x → Pv i σ H → g x σ H fun σ2 H2 => tb { D with nx := Pv (i + 1), ct := Pv (i + 1), bk := D.nx } σ2 H2) (hd : ∀ σ H, Pv xs.length σ H → D.nx σ H) :
    ∃ W : Nat → Nat → St → Hp → Prop, (∃ m, W 0 m σ H) ∧ ∀ i m σ H, W i m σ H →
      ((Itl K a).stop i H ∧ D.nx σ H) ∨ ((Itl K a).go i H ∧ ∃ N : St → Hp → Prop, (∀ σ' H', N σ' H' → ∃ m', m' < m ∧ W (i + 1) m' σ' H') ∧ ∀ x H', (Itl K a).yld i H x H' → g x σ H' fun σ2 H2 => tb { D with nx := N, ct := N, bk := D.nx } σ2 H2) := by
  refine ⟨fun i m σ H => m = xs.length - i ∧ i ≤ xs.length ∧ Pv i σ H, ⟨xs.length, by simp, Nat.zero_le _, h0⟩, ?_⟩
  rintro i m σ H ⟨rfl, hi, p⟩
  have q := hl i σ H hi p
  by_cases hlt : i < xs.length
  · refine .inr ⟨⟨xs, xs[i], q, by simp [hlt]⟩, Pv (i + 1), fun σ' H' p' => ⟨xs.length - (i + 1), by omega, rfl, hlt, p'⟩, fun x H' y => ?_⟩
    obtain ⟨e, y⟩ := y
    subst e
    exact hs i x σ _ (y xs q) p
  · have e : i = xs.length := by omega
    subst e
    exact .inl ⟨⟨xs, q, Nat.le_refl _⟩, hd σ H p⟩
theorem for_range {lo : Int} {n : Nat} {g : TG} {tb : TS} {D : Ends} {σ : St} {H : Hp} (Pv : Nat → St → Hp → Prop) (h0 : Pv 0 σ H)
    (hs : ∀ i σ H, i < n → Pv i σ H → g (.int (lo + i)) σ H fun σ2 H2 => tb { D with nx := Pv (i + 1), ct := Pv (i + 1), bk := D.nx } σ2 H2) (hd : ∀ σ H, Pv n σ H → D.nx σ H) :
    ∃ W : Nat → Nat → St → Hp → Prop, (∃ m, W 0 m σ H) ∧ ∀ i m σ H, W i m σ H →
      ((Itr lo n).stop i H ∧ D.nx σ H) ∨ ((Itr lo n).go i H ∧ ∃ N : St → Hp → Prop, (∀ σ' H', N σ' H' → ∃ m', m' < m ∧ W (i + 1) m' σ' H') ∧ ∀ x H', (Itr lo n).yld i H x H' → g x σ H' fun σ2 H2 => tb { D with nx := N, ct := N, bk := D.nx } σ2 H2) := by
  refine ⟨fun i m σ H => m = n - i ∧ i ≤ n ∧ Pv i σ H, ⟨n, by simp, Nat.zero_le _, h0⟩, ?_⟩
  rintro i m σ H ⟨rfl, hi, p⟩
  by_cases hlt : i < n
  · refine .inr ⟨hlt, Pv (i + 1), fun σ' H' p' => ⟨n - (i + 1), by omega, rfl, hlt, p'⟩, fun x H' y => ?_⟩
    obtain ⟨e, y⟩ := y
    subst e y
    exact hs i σ _ hlt p
  · have e : i = n := by omega
    subst e
    exact .inl ⟨Nat.le_refl _, hd σ H p⟩
end L2

namespace L2
open PySem PySem.Spec PyProof.Rows

abbrev R2 := V → V → Hp → VK → Prop
/-- a two-place operation on values: f is binaryOp op, inplaceOp op or compareOp op -/
def OpR (X : Cx) (f : Value → Value → Sem Value) (r : R2) : Prop :=
  ∀ (pins : List (Addr × Obj)) (s : Shared) (σ : St) (H : Hp) (x y : V) (v u : Value) (Q : VK), Inv X pins σ H s → RelV x v → RelV y u → r x y H Q →
    wpAny (model X.prog X.w) X.A (f v u) (EP X pins σ Q) X.xe s
/-- a call of a value that is known (a builtin, a type) with values -/
def CallR (X : Cx) (f : Value) (r : List V → Hp → VK → Prop) : Prop :=
  ∀ (pins : List (Addr × Obj)) (s : Shared) (σ : St) (H : Hp) (xs : List V) (us : List Value) (Q : VK), Inv X pins σ H s → Vals xs us → r xs H Q →
    wpAny (model X.prog X.w) X.A (call f us) (EP X pins σ Q) X.xe s
def tOp (r : R2) (ta tb : TE) : TE := fun σ H Q => ta σ H fun x H1 => tb σ H1 fun y H2 => r x y H2 Q
/-- ints in, under C, and a value out -/
def rI (C : Int → Int → Prop) (g : Int → Int → V) : R2 := fun x y H Q => ∃ i j, x = .int i ∧ y = .int j ∧ C i j ∧ Q (g i j) H
def rI0 (g : Int → Int → V) : R2 := fun x y H Q => ∃ i j, x = .int i ∧ y = .int j ∧ Q (g i j) H
section
variable {X : Cx} {a b c : Expr} {ta tb tc : TE} {pos : Pos}

theorem binT (ha : PE X a ta) (hb : PE X b tb) {pins : List (Addr × Obj)} {s : Shared} {σ : St} {H : Hp} {R : V → V → Hp → Prop} (I : Inv X pins σ H s)
    (h : ta σ H fun x H1 => tb σ H1 fun y H2 => R x y H2) {Q : Value → Shared → Prop} {f : Value → Value → Sem Value}
    (hf : ∀ v u s2 x y H2, Inv X pins σ H2 s2 → RelV x v → RelV y u → R x y H2 → wpAny (model X.prog X.w) X.A (f v u) Q X.xe s2) :
    wpAny (model X.prog X.w) X.A (eval a X.env) (fun v s₁ => wpAny (model X.prog X.w) X.A (eval b X.env) (fun u s₂ => wpAny (model X.prog X.w) X.A (f v u) Q X.xe s₂) X.xe s₁) X.xe s := by
  refine thn (ha pins s σ H _ I h) fun v s1 ⟨x, H1, I1, r1, q1⟩ => ?_
  refine thn (hb pins s1 σ H1 _ I1 q1) fun u s2 ⟨y, H2, I2, r2, q2⟩ => ?_
  exact hf v u s2 x y H2 I2 r1 r2 q2

theorem pe_op {op : Operator} {r : R2} (ho : OpR X (binaryOp op) r) (ha : PE X a ta) (hb : PE X b tb) : PE X (.BinOp a op b pos) (tOp r ta tb) := by
  intro pins s σ H Q I h
  exact wpAny_BinOp (binT ha hb I h fun v u s2 x y H2 I2 rx ry q => ho pins s2 σ H2 x y v u Q I2 rx ry q)
theorem opI {f : Value → Value → Sem Value} {C : Int → Int → Prop} {g : Int → Int → Int}
    (rule : ∀ (i j : Int) (t u : Tok) (s : Shared) (Q : Value → Shared → Prop) (E : Value → Shared → Prop), C i j → Q (.int (g i j) s.toks) { s with toks := s.toks + 1 } → wpAny (model X.prog X.w) X.A (f (.int i t) (.int j u)) Q E s) :
    OpR X f (rI C fun i j => .int (g i j)) := by
  intro pins s σ H x y v u Q I rx ry h
  obtain ⟨i, j, rfl, rfl, hc, q⟩ := h
  obtain ⟨t, rfl⟩ := rx
  obtain ⟨t', rfl⟩ := ry
  exact rule i j t t' s _ _ hc ⟨.int (g i j), H, I.tok _, ⟨_, rfl⟩, q⟩
theorem opI0 {f : Value → Value → Sem Value} {g : Int → Int → Int}
    (rule : ∀ (i j : Int) (t u : Tok) (s : Shared) (Q : Value → Shared → Prop) (E : Value → Shared → Prop), Q (.int (g i j) s.toks) { s with toks := s.toks + 1 } → wpAny (model X.prog X.w) X.A (f (.int i t) (.int j u)) Q E s) :
    OpR X f (rI0 fun i j => .int (g i j)) := by
  intro pins s σ H x y v u Q I rx ry h
  obtain ⟨i, j, rfl, rfl, q⟩ := h
  obtain ⟨t, rfl⟩ := rx
  obtain ⟨t', rfl⟩ := ry
  exact rule i j t t' s _ _ ⟨.int (g i j), H, I.tok _, ⟨_, rfl⟩, q⟩
theorem opB0 {f : Value → Value → Sem Value} {g : Int → Int → Bool}
    (rule : ∀ (i j : Int) (t u : Tok) (s : Shared) (Q : Value → Shared → Prop) (E : Value → Shared → Prop), Q (.bool (g i j)) s → wpAny (model X.prog X.w) X.A (f (.int i t) (.int j u)) Q E s) :
    OpR X f (rI0 fun i j => .bl (g i j)) := by
  intro pins s σ H x y v u Q I rx ry h
  obtain ⟨i, j, rfl, rfl, q⟩ := h
  obtain ⟨t, rfl⟩ := rx
  obtain ⟨t', rfl⟩ := ry
  exact rule i j t t' s _ _ ⟨.bl (g i j), H, I, rfl, q⟩

def CMul (i j : Int) : Prop := (-(2 ^ 64) < i ∧ i < 2 ^ 64) ∨ (-(2 ^ 64) < j ∧ j < 2 ^ 64)
theorem CMul.ok {i j : Int} (h : CMul i j) : IntMulOk i j := by
  rcases h with ⟨h1, h2⟩ | ⟨h1, h2⟩
  · exact .of_left (intBits_le_64 h1 h2)
  · exact .of_right (intBits_le_64 h1 h2)
theorem op_add : OpR X (binaryOp .Add) (rI0 fun i j => .int (i + j)) := opI0 fun _ _ _ _ _ _ _ q => add_int q
theorem op_mul : OpR X (binaryOp .Mult) (rI CMul fun i j => .int (i * j)) := opI fun _ _ _ _ _ _ _ hc q => mul_int q hc.ok
end

/-- the scalars that == tells apart as data does -/
def scal : V → V → Bool
  | .non, .non => true | .non, .int _ => true | .int _, .non => true | .non, .bl _ => true | .bl _, .non => true | .non, .str _ => true | .str _, .non => true
  | .int _, .int _ => true | .bl _, .bl _ => true | .str _, .str _ => true | .byt _, .byt _ => true
  | .int _, .str _ => true | .str _, .int _ => true | .bl _, .str _ => true | .str _, .bl _ => true
  | _, _ => false
def rEq : R2 := fun x y H Q => scal x y = true ∧ Q (.bl (decide (x = y))) H
def rNe : R2 := fun x y H Q => scal x y = true ∧ Q (.bl (!decide (x = y))) H

theorem dec_int {i j : Int} : decide (V.int i = V.int j) = (i == j) := by
  rw [Bool.eq_iff_iff]
  simp
theorem dec_bl {i j : Bool} : decide (V.bl i = V.bl j) = (i == j) := by
  rw [Bool.eq_iff_iff]
  simp
theorem dec_str {i j : Str} : decide (V.str i = V.str j) = (i == j) := by
  rw [Bool.eq_iff_iff]
  simp
theorem dec_byt {i j : Array UInt8} : decide (V.byt i = V.byt j) = (i.toList == j.toList) := by
  rw [Bool.eq_iff_iff]
  cases i
  cases j
  simp

section
variable {X : Cx} {a b c : Expr} {ta tb tc : TE} {pos : Pos}
theorem fin_bl {pins : List (Addr × Obj)} {σ : St} {H : Hp} {s : Shared} {Q : VK} {k k' : Bool} (I : Inv X pins σ H s) (q : Q (.bl k) H) (e : k = k') : EP X pins σ Q (.bool k') s := by
  subst e
  exact ⟨.bl k, H, I, rfl, q⟩
theorem op_eq : OpR X (compareOp .Eq) rEq := by
  intro pins s σ H x y v u Q I rx ry h
  obtain ⟨hs, q⟩ := h
  cases x with
  | non =>
    cases rx
    cases y with
    | non => cases ry; exact PySem.EqNone.eq_none_none (fin_bl I q (by simp))
    | bl j => cases ry; exact PySem.EqNone.eq_none_bool (fin_bl I q (by simp))
    | int j => obtain ⟨t', rfl⟩ := ry; exact PySem.EqNone.eq_none_int (fin_bl I q (by simp))
    | str j => obtain ⟨t', rfl⟩ := ry; exact PySem.EqNone.eq_none_str (fin_bl I q (by simp))
    | _ => exact absurd (show false = true from hs) Bool.false_ne_true
  | bl i =>
    cases rx
    cases y with
    | non => cases ry; exact PySem.EqNone.eq_bool_none (fin_bl I q (by simp))
    | bl j => cases ry; exact eq_bool (fin_bl I q dec_bl)
    | str j => obtain ⟨t', rfl⟩ := ry; exact PySem.EqMixed.eq_bool_str (fin_bl I q (by simp))
    | _ => exact absurd (show false = true from hs) Bool.false_ne_true
  | int i =>
    obtain ⟨t, rfl⟩ := rx
    cases y with
    | non => cases ry; exact PySem.EqNone.eq_int_none (fin_bl I q (by simp))
    | int j => obtain ⟨t', rfl⟩ := ry; exact eq_int (fin_bl I q dec_int)
    | str j => obtain ⟨t', rfl⟩ := ry; exact PySem.EqMixed.eq_int_str (fin_bl I q (by simp))
    | _ => exact absurd (show false = true from hs) Bool.false_ne_true
  | str i =>
    obtain ⟨t, rfl⟩ := rx
    cases y with
    | non => cases ry; exact PySem.EqNone.eq_str_none (fin_bl I q (by simp))
    | bl j => cases ry; exact PySem.EqMixed.eq_str_bool (fin_bl I q (by simp))
    | int j => obtain ⟨t', rfl⟩ := ry; exact PySem.EqMixed.eq_str_int (fin_bl I q (by simp))
    | str j => obtain ⟨t', rfl⟩ := ry; exact eq_str (fin_bl I q dec_str)
    | _ => exact absurd (show false = true from hs) Bool.false_ne_true
  | byt i =>
    obtain ⟨t, rfl⟩ := rx
    cases y with
    | byt j => obtain ⟨t', rfl⟩ := ry; exact PySem.W.eq_bytes (fin_bl I q dec_byt)
    | _ => exact absurd (show false = true from hs) Bool.false_ne_true
  | _ => cases y <;> exact absurd (show false = true from hs) Bool.false_ne_true
theorem op_ne : OpR X (compareOp .NotEq) rNe := by
  intro pins s σ H x y v u Q I rx ry h
  obtain ⟨hs, q⟩ := h
  cases x with
  | non =>
    cases rx
    cases y with
    | non => cases ry; exact PySem.EqNone.ne_none_none (fin_bl I q (by simp))
    | bl j => cases ry; exact PySem.EqNone.ne_none_bool (fin_bl I q (by simp))
    | int j => obtain ⟨t', rfl⟩ := ry; exact PySem.EqNone.ne_none_int (fin_bl I q (by simp))
    | str j => obtain ⟨t', rfl⟩ := ry; exact PySem.EqNone.ne_none_str (fin_bl I q (by simp))
    | _ => exact absurd (show false = true from hs) Bool.false_ne_true
  | bl i =>
    cases rx
    cases y with
    | non => cases ry; exact PySem.EqNone.ne_bool_none (fin_bl I q (by simp))
    | bl j => cases ry; exact ne_bool (fin_bl I q (congrArg not dec_bl))
    | str j => obtain ⟨t', rfl⟩ := ry; exact PySem.EqMixed.ne_bool_str (fin_bl I q (by simp))
    | _ => exact absurd (show false = true from hs) Bool.false_ne_true
  | int i =>
    obtain ⟨t, rfl⟩ := rx
    cases y with
    | non => cases ry; exact PySem.EqNone.ne_int_none (fin_bl I q (by simp))
    | int j => obtain ⟨t', rfl⟩ := ry; exact ne_int (fin_bl I q (congrArg not dec_int))
    | str j => obtain ⟨t', rfl⟩ := ry; exact PySem.EqMixed.ne_int_str (fin_bl I q (by simp))
    | _ => exact absurd (show false = true from hs) Bool.false_ne_true
  | str i =>
    obtain ⟨t, rfl⟩ := rx
    cases y with
    | non => cases ry; exact PySem.EqNone.ne_str_none (fin_bl I q (by simp))
    | bl j => cases ry; exact PySem.EqMixed.ne_str_bool (fin_bl I q (by simp))
    | int j => obtain ⟨t', rfl⟩ := ry; exact PySem.EqMixed.ne_str_int (fin_bl I q (by simp))
    | str j => obtain ⟨t', rfl⟩ := ry; exact ne_str (fin_bl I q (congrArg not dec_str))
    | _ => exact absurd (show false = true from hs) Bool.false_ne_true
  | byt i =>
    obtain ⟨t, rfl⟩ := rx
    cases y with
    | byt j => obtain ⟨t', rfl⟩ := ry; exact PySem.W.ne_bytes (fin_bl I q (congrArg not dec_byt))
    | _ => exact absurd (show false = true from hs) Bool.false_ne_true
  | _ => cases y <;> exact absurd (show false = true from hs) Bool.false_ne_true

theorem op_lt : OpR X (compareOp .Lt) (rI0 fun i j => .bl (decide (i < j))) := opB0 fun _ _ _ _ _ _ _ q => lt_int q
theorem op_le : OpR X (compareOp .LtE) (rI0 fun i j => .bl (decide (i ≤ j))) := opB0 fun _ _ _ _ _ _ _ q => le_int q
theorem op_gt : OpR X (compareOp .Gt) (rI0 fun i j => .bl (decide (j < i))) := opB0 fun _ _ _ _ _ _ _ q => gt_int q
/-- two rules for one operation: by cases -/
theorem OpR.or {f : Value → Value → Sem Value} {r r' : R2} (h : OpR X f r) (h' : OpR X f r') : OpR X f (fun x y H Q => r x y H Q ∨ r' x y H Q) := by
  intro pins s σ H x y v u Q I rx ry q
  rcases q with q | q
  · exact h pins s σ H x y v u Q I rx ry q
  · exact h' pins s σ H x y v u Q I rx ry q

theorem nomark (b : Expr) {op : CmpOp} (h : op ≠ .In := by decide) (h2 : op ≠ .NotIn := by decide) : behindInMarks op b = false := by
  have e1 : (op == CmpOp.In) = false := by cases op <;> first | rfl | exact absurd rfl h
  have e2 : (op == CmpOp.NotIn) = false := by cases op <;> first | rfl | exact absurd rfl h2
  cases b <;> simp [behindInMarks, e1, e2]
/-- a comparison as a value; hm: nomark b, or (for in, not in) by with_unfolding_all rfl -/
theorem pe_cmpR {op : CmpOp} {r : R2} (ho : OpR X (compareOp op) r) (ha : PE X a ta) (hb : PE X b tb) (hm : behindInMarks op b = false) : PE X (.Compare a [op] [b] pos) (tOp r ta tb) := by
  intro pins s σ H Q I h
  exact wpAny_Compare1 (binT ha hb I h fun v u s2 x y H2 I2 rx ry q => ho pins s2 σ H2 x y v u Q I2 rx ry q) hm
/-- a reading of a value as a test -/
def tTest (t : TE) : TT := fun σ H Q => t σ H fun x H' => ∃ k, x = .bl k ∧ Q k H'
theorem pt_cmpR {op : CmpOp} {r : R2} (ho : OpR X (compareOp op) r) (ha : PE X a ta) (hb : PE X b tb) (hm : behindInMarks op b = false) : PT X (.Compare a [op] [b] pos) (tTest (tOp r ta tb)) := by
  intro pins s σ H Q I h
  refine wpAny_isTrue_Compare1 (thn (ha pins s σ H _ I h) fun v s1 ⟨x, H1, I1, r1, q1⟩ => thn (hb pins s1 σ H1 _ I1 q1) fun u s2 ⟨y, H2, I2, r2, q2⟩ =>
    thn (ho pins s2 σ H2 x y v u _ I2 r1 r2 q2) fun c s3 ⟨z, H3, I3, r3, k, e, q3⟩ => ?_) hm
  subst e
  cases r3
  exact wpAny_truthy_bool ⟨H3, I3, q3⟩
/-- a op1 b op2 c -/
def tChain (r r' : R2) (ta tb tc : TE) : TE := fun σ H Q => ta σ H fun x H1 => tb σ H1 fun y H2 => r x y H2 fun z H3 => ∃ k, z = .bl k ∧
  (if k = true then tc σ H3 fun w' H4 => r' y w' H4 Q else Q (.bl false) H3)
theorem pt_chain {op op' : CmpOp} {r r' : R2} (ho : OpR X (compareOp op) r) (ho' : OpR X (compareOp op') r') (ha : PE X a ta) (hb : PE X b tb) (hc : PE X c tc)
    (hm : lastMarks [op, op'] [b, c] = false := by with_unfolding_all rfl) : PT X (.Compare a [op, op'] [b, c] pos) (tTest (tChain r r' ta tb tc)) := by
  intro pins s σ H Q I h
  refine isTrue_chain (thn (ha pins s σ H _ I h) fun v s1 ⟨x, H1, I1, r1, q1⟩ => test_link (thn (hb pins s1 σ H1 _ I1 q1) fun u s2 ⟨y, H2, I2, r2, q2⟩ =>
    thn (ho pins s2 σ H2 x y v u _ I2 r1 r2 q2) fun d s3 ⟨z, H3, I3, r3, k, e, q3⟩ => ?_)) hm
  subst e
  cases r3
  refine wpAny_truthy_bool ?_
  cases k with
  | false =>
    obtain ⟨k', e', q'⟩ := q3
    cases e'
    exact ite_ff ⟨H3, I3, q'⟩
  | true =>
    refine ite_tt (test_last (thn (hc pins s3 σ H3 _ I3 q3) fun w' s4 ⟨z', H4, I4, r4, q4⟩ => thn (ho' pins s4 σ H4 y z' u w' _ I4 r2 r4 q4) fun d' s5 ⟨z2, H5, I5, r5, k2, e2, q5⟩ => ?_))
    subst e2
    cases r5
    exact wpAny_truthy_bool ⟨H5, I5, q5⟩

theorem line63 : (sizeLine : Nat) < 2 ^ 63 := by rw [sizeLine_eq]; decide
theorem vals1 {x : V} {us : List Value} (r : Vals [x] us) : ∃ u, us = [u] ∧ RelV x u := by
  cases r with
  | cons r1 r2 => cases r2; exact ⟨_, rfl, r1⟩
end
end L2

namespace L2
open PySem PySem.Spec PyProof.Rows

structure ObjM (h : Heap) (x dx C : Addr) (mA : Str → Option Value) : Prop where
  obj : h.get? x = some (PySem.W.instObj C dx)
  ns : h.Ns1 dx mA
  ne : dx ≠ x

theorem lookIn_ns {h : Heap} {dx : Addr} {mA : Str → Option Value} (n : h.Ns1 dx mA) : ∃ od, h.get? dx = some od ∧ ∀ name, PySem.W.lookIn name od = some (mA name) := by
  obtain ⟨o, es, ep, ho, hd, hk, _, hm⟩ := n
  refine ⟨o, ho, fun name => ?_⟩
  have e := hm name
  unfold nsFind findBy at e
  rw [← Array.find?_toList] at e
  unfold PySem.W.lookIn
  rw [hd]
  dsimp only
  split
  · rename_i y q
    rw [q] at e
    exact congrArg some e
  · rename_i q
    rw [q] at e
    have a : es.toList.any (·.refKey) = false := by
      rw [List.any_eq_false]
      intro y hy
      obtain ⟨z, t, hkey⟩ := hk y (Array.mem_toList_iff.mp hy)
      simp [DictEntry.refKey, hkey]
    have a' : ¬ es.toList.any (·.refKey) = true := by rw [a]; exact Bool.false_ne_true
    rw [if_neg a']
    exact congrArg some e

theorem ObjM.look {h : Heap} {x dx C : Addr} {mA : Str → Option Value} (I : ObjM h x dx C mA) : ∃ od, PySem.W.InstAt h x (PySem.W.instObj C dx) C (some od) ∧ ∀ name, PySem.W.lookIn name od = some (mA name) :=
  let ⟨od, ho, hl⟩ := lookIn_ns I.ns
  ⟨od, ⟨I.obj, rfl, rfl, ho⟩, hl⟩

section
variable {prog : Program} {w : World} {A : Around} {E : Value → Shared → Prop} {s : Shared} {K : PySem.W.Frag} {x dx C f : Addr} {mA : Str → Option Value} {name : Str} {v : Value}

end

theorem RelO.some_of {v : V} {o : Option Value} (r : RelO (some v) o) : ∃ u, o = some u ∧ RelV v u := by
  cases o with
  | none => exact (show False from r).elim
  | some u => exact ⟨u, rfl, r⟩
theorem RelO.none_of {o : Option Value} (r : RelO none o) : o = none := by
  cases o with
  | none => rfl
  | some u => exact (show False from r).elim
section
variable {P : Program} {w : World} {H H' : Hp} {h h' : Heap} {a C dx : Addr} {fs fs' : List (Str × V)}
end

structure Cls (K : PySem.W.Frag) (C : Addr) : Prop where
  pg : PySem.W.plainGet K C Str.empty = true
  hd : PySem.W.hasDictIn K C = true
  po : PySem.W.plainOver K C = true
  sa : PySem.W.findIn K (.ref C) "__setattr__" = some (some (.builtin "object.__setattr__"))
theorem Cls.get {K : PySem.W.Frag} {C : Addr} (c : Cls K C) (f : Str) : PySem.W.plainGet K C f = true := c.pg
/-- a constant of the class -/
structure Con (K : PySem.W.Frag) (C : Addr) (f : Str) (v : V) (u : Value) : Prop where
  at_ : PySem.W.findIn K (.ref C) f = some (some u)
  rel : RelV v u
  get : PySem.W.specialIn K u "__get__" = some none
  cp : PySem.W.copiedNames.contains f = false
/-- a method: a plain def of the class or of one above it -/
structure Meth (K : PySem.W.Frag) (C : Addr) (m : Str) (f : Addr) : Prop where
  at_ : PySem.W.findIn K (.ref C) m = some (some (.ref f))
  fn : PySem.W.isFn K (.ref f) = true
  kp : PySem.W.keepIn K (.ref f) = true

section
variable {X : Cx} {pins : List (Addr × Obj)} {σ : St} {H : Hp} {s : Shared} {a C dx : Addr} {fs : List (Str × V)} {f : Str} {v : V} {A : Around} {E : Value → Shared → Prop}

/-- a new instance, tracked, without attributes -/
theorem Inv.made (I : Inv X pins σ H s) : Inv X pins σ (upd (upd H s.heap.objs.size (.own (s.heap.objs.size + 1))) (s.heap.objs.size + 1) (.ins C s.heap.objs.size []))
    { s with heap := (s.heap.push PySem.W.emptyDict).push (PySem.W.instObj C s.heap.objs.size) } := by
  have e1 : (s.heap.push PySem.W.emptyDict).get? s.heap.objs.size = some PySem.W.emptyDict := Heap.get?_push_size s.heap rfl
  have e2 : ((s.heap.push PySem.W.emptyDict).push (PySem.W.instObj C s.heap.objs.size)).get? (s.heap.objs.size + 1) = some (PySem.W.instObj C s.heap.objs.size) := by
    have := Heap.get?_push_size (s.heap.push PySem.W.emptyDict) (o := PySem.W.instObj C s.heap.objs.size) rfl
    rwa [Heap.size_push] at this
  have e3 : (s.heap.push PySem.W.emptyDict).Ns s.heap.objs.size (fun _ => none) := ⟨PySem.W.emptyDict, #[], _, e1, rfl, (fun e he => absurd he (by simp)), fun _ => rfl⟩
  have I1 := I.laid (a := s.heap.objs.size) (o := .own (s.heap.objs.size + 1)) (h' := s.heap.push PySem.W.emptyDict) (t' := s.toks) (fun b u q => Heap.get?_push_of_some _ q) (Nat.le_refl _) ⟨_, e1⟩
  refine I1.laid (a := s.heap.objs.size + 1) (o := .ins C s.heap.objs.size []) (t' := s.toks) (fun b u q => Heap.get?_push_of_some _ q) (Nat.le_of_eq (Heap.size_push _ _)) ?_
  have ne : s.heap.objs.size ≠ s.heap.objs.size + 1 := Nat.ne_of_lt (Nat.lt_succ_self _)
  refine ⟨by rw [upd_ne ne, upd_same], Nat.zero_le _, ne, e2, fun _ => none, (Heap.Ns1.of_empty e3).at fun o q => Heap.get?_push_of_some _ q, fun _ => True.intro, fun y hy => absurd rfl hy⟩

end

section
variable {X : Cx} {o e value : Expr} {f : Str} {pos pos' tpos : Pos} {ta tv : TE}
end

section
variable {X : Cx} {pins : List (Addr × Obj)} {σ : St} {H : Hp} {s : Shared} {A : Around} {E : Value → Shared → Prop} {Q : Value → Shared → Prop} {c : Value} {b : Bool}
/-- the type of a value, as the fragment's deciders take it; for an instance its class -/
inductive TyOf (K : PySem.W.Frag) (H : Hp) : V → Value → Prop where
  | non : TyOf K H .non (.type "NoneType")
  | bl (x : Bool) : TyOf K H (.bl x) (.type "bool")
  | int (i : Int) : TyOf K H (.int i) (.type "int")
  | str (x : Str) : TyOf K H (.str x) (.type "str")
  | flt (x : UInt64) : TyOf K H (.flt x) (.type "float")
  | lst {a : Addr} {xs : List V} (e : H a = some (.lst xs)) : TyOf K H (.ref a) (.type "list")
  | frz {a : Addr} {o : Obj} {xs : List V} (e : H a = some (.frz o (.lst xs))) : TyOf K H (.ref a) (.type "list")
  | tup {a : Addr} {xs : List V} (e : H a = some (.tup xs)) : TyOf K H (.ref a) (.type "tuple")
  | dK {a : Addr} {kvs : List (Key × V)} (e : H a = some (.dK kvs)) : TyOf K H (.ref a) (.type "dict")
  | dT {a : Addr} {kvs : List (List Key × V)} (e : H a = some (.dT kvs)) : TyOf K H (.ref a) (.type "dict")
  | ins {a C dx : Addr} {fs : List (Str × V)} (e : H a = some (.ins C dx fs)) (cl : Cls K C) (ha : PySem.W.findIn K (.ref C) "__class__" = some (some (.builtin "object.__class__")))
      (hn : PySem.W.specialIn K (.builtin "object.__class__") "__get__" = some (some (.builtin "getset_descriptor.__get__"))) (htk : PySem.W.takesIn K (.builtin "object.__class__") = some true)
      (hm : PySem.W.mroIn K C (.type "object") = some true) : TyOf K H (.ref a) (.ref C)
end
end L2

namespace L2
open PySem PySem.Spec PyProof.Rows

structure Room (k : Nat) (A : Around) : Prop where
  hd : A.handled = none
  dp : A.depth + 3 * k + 5 < recursionLimit
  un : A.units + 16 * k + 200 < cLine
theorem Room.mono {j k : Nat} {A : Around} (r : Room k A) (h : j ≤ k) : Room j A := ⟨r.hd, by have := r.dp; omega, by have := r.un; omega⟩
theorem Room.deeper {k : Nat} {A : Around} (r : Room (k + 1) A) (env : Env) : Room k (A.deeper env) :=
  ⟨r.hd, by have := r.dp; show A.depth + 1 + 3 * k + 5 < _; omega, by have := r.un; show A.units + 3 + 16 * k + 200 < _; omega⟩
theorem Room.in1 {k : Nat} {A : Around} (r : Room (k + 1) A) : Room k A.in1 :=
  ⟨r.hd, by have := r.dp; show A.depth + 3 * k + 5 < _; omega, by have := r.un; show A.units + 1 + 16 * k + 200 < _; omega⟩
theorem Room.depth {k : Nat} {A : Around} (r : Room k A) : A.depth < recursionLimit := by have := r.dp; omega
theorem Room.units {k : Nat} {A : Around} (r : Room k A) : A.units + 64 < cLine := by have := r.un; omega
theorem Room.units0 {k : Nat} {A : Around} (r : Room k A) : A.units < cLine := by have := r.un; omega

def tNil : TA := fun _ H Q => Q [] H
def tCons (ta : TE) (tr : TA) : TA := fun σ H Q => ta σ H fun x H1 => tr σ H1 fun xs H2 => Q (x :: xs) H2
section
variable {X : Cx} {e : Expr} {es : List Expr} {te : TE} {t : TA} {pos : Pos}
theorem pa_nil : PA X [] tNil := fun _ _ _ _ H Q I h => Calls.spliced_nil ⟨[], H, I, .nil, h⟩
theorem pa_cons (ha : PE X e te) (hr : PA X es t) (hs : starEach (e :: es) X.env = (false, eval e X.env) :: starEach es X.env := by rfl) : PA X (e :: es) (tCons te t) := by
  intro pos pins s σ H Q I h
  rw [hs]
  show wpAny _ _ (spliced ((false, eval e X.env) :: backTo pos (starEach es X.env))) _ _ s
  refine Calls.spliced_cons (thn (ha pins s σ H _ I h) fun u s1 ⟨x, H1, I1, r1, q1⟩ => ?_)
  exact thn (hr pos pins s1 σ H1 _ I1 q1) fun us s2 ⟨xs, H2, I2, r2, q2⟩ => ⟨x :: xs, H2, I2, .cons r1 r2, q2⟩

/-- a tuple, a list of written items -/
def tTup (t : TA) : TE := fun σ H Q => t σ H fun xs H1 => xs.length ≤ sizeLine ∧ ∀ p, H1 p = none → Q (.ref p) (upd H1 p (.tup xs))
def tLst (t : TA) : TE := fun σ H Q => t σ H fun xs H1 => xs.length ≤ sizeLine ∧ ∀ p, H1 p = none → Q (.ref p) (upd H1 p (.lst xs))
theorem pe_tup {x1} (h : PA X es t) : PE X (.Tuple es x1 pos) (tTup t) := by
  intro pins s σ H Q I hq
  refine wpAny_Tuple_spliced (thn (h pos pins s σ H _ I hq) fun us s1 ⟨xs, H1, I1, r, z, q⟩ => ⟨by rw [← r.length]; exact z, ?_⟩)
  have hf : H1 s1.heap.objs.size = none := I1.hok.fresh (Nat.le_refl _)
  refine ⟨.ref s1.heap.objs.size, upd H1 s1.heap.objs.size (.tup xs), I1.laid (t' := s1.toks) (fun b u e => Heap.get?_push_of_some _ e) (Nat.le_refl _) ?_, rfl, q _ hf⟩
  exact ⟨z, us, r, ⟨_, Heap.get?_push_size _ rfl, rfl, _, rfl⟩⟩
theorem pe_lst (h : PA X es t) : PE X (.List es pos) (tLst t) := by
  intro pins s σ H Q I hq
  refine wpAny_List_spliced (thn (h pos pins s σ H _ I hq) fun us s1 ⟨xs, H1, I1, r, z, q⟩ => ⟨by rw [← r.length]; exact z, ?_⟩)
  have hf : H1 s1.heap.objs.size = none := I1.hok.fresh (Nat.le_refl _)
  refine ⟨.ref s1.heap.objs.size, upd H1 s1.heap.objs.size (.lst xs), I1.laid (t' := s1.toks) (fun b u e => Heap.get?_push_of_some _ e) (Nat.le_refl _) ?_, rfl, q _ hf⟩
  exact ⟨z, us, 0, r, Heap.get?_push_size _ rfl⟩
end

/-- a def's promise: the bound arguments in the parameters' order, the heap, the wanted end, the wanted exception -/
abbrev Sp := List V → Hp → VK → XK → Prop
/-- how an exception lies behind a call (file 08 gives it): the callers' frames, abstract heap and state ahead of the call, the wish, the exception, the state -/
abbrev CXT := List Env → Hp → Shared → XK → Value → Shared → Prop

/-- the state at a call -/
structure Env0 (P : Program) (w : World) (K : PySem.W.Frag) (mg : Str → Option Value) (base : Heap) (A : Around) (outer : List Env) (s : Shared) (H : Hp) : Prop where
  frames : A.frames = some outer
  mod : Mod K mg base
  bs : ∀ b o, base.get? b = some o → s.heap.get? b = some o ∧ H b = none
  bsz : base.objs.size ≤ s.heap.objs.size
  funs : s.heap.FunFrames base outer
  frf : ∀ b ∈ frs outer, H b = none
  hok : HOk P w H s.heap
  bare : AllBare s.gens
/-- a call's end -/
def CE (outer : List Env) (P : Program) (w : World) (H : Hp) (s : Shared) (Q : VK) (u : Value) (s' : Shared) : Prop :=
  ∃ v H', s'.os = s.os ∧ AllBare s'.gens ∧ Un (frs outer) [] H H' s.heap s'.heap ∧ HOk P w H' s'.heap ∧ RelV v u ∧ Q v H'
def CR (CX : CXT) (outer : List Env) (P : Program) (w : World) (H : Hp) (s : Shared) (Q : VK) (E : XK) (r : Result) (s' : Shared) : Prop :=
  match r with
  | .ok (.ret u) => CE outer P w H s Q u s'
  | .ok _ => False
  | .error e => CX outer H s E e s'
structure FnOk (P : Program) (w : World) (K : PySem.W.Frag) (mg : Str → Option Value) (base : Heap) (CX : CXT) (k : Nat) (f : Addr) (fd : FuncData) (ps : List Str) (sp : Sp) : Prop where
  len : ∀ vs H Q E, sp vs H Q E → vs.length = ps.length
  run : ∀ (A : Around) (outer : List Env) (s : Shared) (H : Hp) (args : Args) (us : List Value) (vs : List V) (Q : VK) (E : XK), Room k A → Env0 P w K mg base A outer s H → BindsTo s fd args (ps.zip us) → Vals vs us → sp vs H Q E →
    codeAny (model P w) A (.call (.ref f) args) (CR CX outer P w H s Q E) s
theorem FnOk.mono {P : Program} {w : World} {K : PySem.W.Frag} {mg : Str → Option Value} {base : Heap} {CX : CXT} {j k : Nat} {f : Addr} {fd : FuncData} {ps : List Str} {sp : Sp} (F : FnOk P w K mg base CX j f fd ps sp) (h : j ≤ k) :
    FnOk P w K mg base CX k f fd ps sp := ⟨F.len, fun A outer s H args us vs Q E hr => F.run A outer s H args us vs Q E (hr.mono h)⟩
/-- a weaker promise -/
theorem FnOk.imp {P : Program} {w : World} {K : PySem.W.Frag} {mg : Str → Option Value} {base : Heap} {CX : CXT} {k : Nat} {f : Addr} {fd : FuncData} {ps : List Str} {sp sp' : Sp} (F : FnOk P w K mg base CX k f fd ps sp)
    (h : ∀ vs H Q E, sp' vs H Q E → sp vs H Q E) : FnOk P w K mg base CX k f fd ps sp' :=
  ⟨fun vs H Q E q => F.len vs H Q E (h _ _ _ _ q), fun A outer s H args us vs Q E hr he hb hv hs => F.run A outer s H args us vs Q E hr he hb hv (h _ _ _ _ hs)⟩

theorem Env0.in1 {P : Program} {w : World} {K : PySem.W.Frag} {mg : Str → Option Value} {base : Heap} {A : Around} {outer : List Env} {s : Shared} {H : Hp} (e : Env0 P w K mg base A outer s H) :
    Env0 P w K mg base A.in1 outer s H := ⟨e.frames, e.mod, e.bs, e.bsz, e.funs, e.frf, e.hok, e.bare⟩

section
variable {X : Cx} {pins : List (Addr × Obj)} {σ : St} {H : Hp} {s s' : Shared}
/-- from a body: what a callee wants -/
theorem Inv.env0 (I : Inv X pins σ H s) : Env0 X.prog X.w X.K X.mg X.base X.A X.stack s H :=
  ⟨I.ok.frames, I.ok.mod, I.bs, Nat.le_trans I.ok.bsz I.sz, I.stack, I.stkFree, I.hok, I.bare⟩
/-- behind a call -/
theorem Inv.after {Q : VK} {u : Value} (I : Inv X pins σ H s) (h : CE X.stack X.prog X.w H s Q u s') : EP X pins σ Q u s' := by
  obtain ⟨v, H', os, bare, un, hok, r, q⟩ := h
  obtain ⟨hh, g, d, t, os'⟩ := s'
  obtain rfl : os' = s.os := os
  exact ⟨v, H', I.call (h' := hh) (g' := g) (d' := d) (t' := t) (ch := []) un hok bare (fun b z => absurd z (by simp)), r, q⟩
end

/-- f(..): the written arguments, then the defaults dvs; E: what is wanted of an exception -/
def tCall (sp : Sp) (dvs : List V) (E : XK) (t : TA) : TE := fun σ H Q => t σ H fun vs H1 => sp (vs ++ dvs) H1 Q E
/-- how the parameters are bound: us the positional arguments, kw the keywords' values by name, ds the defaults that fill up -/
def Binds (K : PySem.W.Frag) (fd : FuncData) (ps : List Str) (ds : List Value) : Prop :=
  ∀ (s : Shared) (us : List Value), K.In s.heap → (us ++ ds).length = ps.length → BindsTo s fd ⟨us, []⟩ (ps.zip (us ++ ds))
/-- every parameter is given -/
theorem Binds.all {K : PySem.W.Frag} {fd : FuncData} {ps : List Str} (h : ∀ us : List Value, us.length = ps.length → bindArgs fd ⟨us, []⟩ = pure (ps.zip us)) : Binds K fd ps [] := fun s us _ hl => by
  rw [List.append_nil] at hl ⊢
  exact .of_eq (h us hl)

/-- an exception of a callee reaches what this body wants of exceptions -/
def Passes (CX : CXT) (X : Cx) (E : XK) : Prop := ∀ (pins : List (Addr × Obj)) (σ : St) (H : Hp) (s : Shared) (e : Value) (s' : Shared), Inv X pins σ H s → CX X.stack H s E e s' → X.xe e s'

section
variable {X : Cx} {CX : CXT} {k : Nat} {f C : Addr} {fd : FuncData} {ps : List Str} {sp : Sp} {dvs : List V} {ds : List Value} {E : XK} {x m : Str} {p pos apos : Pos} {e o : Expr} {es : List Expr} {ta : TE} {t : TA}

/-- the callee runs -/
theorem run_fn {pins : List (Addr × Obj)} {σ : St} {H : Hp} {s : Shared} {Q : VK} {us : List Value} {vs : List V} (F : FnOk X.prog X.w X.K X.mg X.base CX k f fd ps sp) (hr : Room k X.A) (hb : Binds X.K fd ps ds) (hd : Vals dvs ds) (hx : Passes CX X E)
    (I : Inv X pins σ H s) (r : Vals vs us) (h : sp (vs ++ dvs) H Q E) : wpAny (model X.prog X.w) X.A (call (.ref f) us) (EP X pins σ Q) X.xe s := by
  have r2 : Vals (vs ++ dvs) (us ++ ds) := r.append hd
  have hl : (us ++ ds).length = ps.length := by rw [← r2.length]; exact F.len _ _ _ _ h
  refine wpAny_call (codeAny_mono (F.run X.A X.stack s H ⟨us, []⟩ (us ++ ds) (vs ++ dvs) Q E hr I.env0 (hb s us I.kIn hl) r2 h) fun r s' hq => ?_)
  cases r with
  | error e => exact hx pins σ H s e s' I hq
  | ok fl =>
    cases fl with
    | ret u => exact I.after hq
    | next => exact False.elim hq
    | brk => exact False.elim hq
    | cont => exact False.elim hq

theorem pe_call (F : FnOk X.prog X.w X.K X.mg X.base CX k f fd ps sp) (hr : Room k X.A) (hg : Gl X x) (hm : X.mg x = some (.ref f)) (hk : PySem.W.keepIn X.K (.ref f) = true) (hb : Binds X.K fd ps ds) (hd : Vals dvs ds) (hx : Passes CX X E)
    (ha : PA X (e :: es) t) (hdb : (x == ("__debug__" : Str)) = false := by decide) (he : starEach (e :: es) X.env = (false, eval e X.env) :: starEach es X.env := by rfl) (hpl : (backTo pos (starEach es X.env)).any (·.1) = false := by rfl) :
    PE X (.Call (.Name x p) (e :: es) [] pos) (tCall sp dvs E t) := by
  intro pins s σ H Q I h
  refine wpAny_Call_Name_kw (ld_glob I hg hm ?_ hdb)
  refine PySem.W.callWith_K (h₀ := X.base) I.ok.mod.kin hk (thn (ha pos pins s σ H _ I h) fun us s1 ⟨vs, H1, I1, r, q⟩ => ⟨I1.kIn, ?_⟩) he hpl
  exact run_fn F hr hb hd hx I1 r q
/-- what a class must have to be made -/
structure Mk (K : PySem.W.Frag) (C f : Addr) : Prop where
  makes : PySem.W.makesIn K C = true
  init : PySem.W.findIn K (.ref C) "__init__" = some (some (.ref f))
  fn : PySem.W.isFn K (.ref f) = true
  kp : PySem.W.keepIn K (.ref C) = true

end

section
variable {X : Cx} {CX : CXT} {k : Nat} {f C : Addr} {fd : FuncData} {ps ks : List Str} {sp : Sp} {E : XK} {x m : Str} {p pos apos kpos : Pos} {e o : Expr} {es : List Expr} {kws : List Keyword} {te ta : TE} {t tk : TA} {nm : Option Str}
/-- how a call with keywords binds: g puts the positional values us and the keywords' values ws (names ks) in the parameters' order, defaults among them -/
structure KBinds (K : PySem.W.Frag) (fd : FuncData) (ps ks : List Str) (g : List Value → List Value → List Value) (gV : List V → List V → List V) : Prop where
  to : ∀ (s : Shared) (us ws : List Value), K.In s.heap → (g us ws).length = ps.length → BindsTo s fd ⟨us, ks.zip ws⟩ (ps.zip (g us ws))
  rel : ∀ {vs : List V} {us : List Value} {zs : List V} {ws : List Value}, Vals vs us → Vals zs ws → Vals (gV vs zs) (g us ws)
variable {g : List Value → List Value → List Value} {gV : List V → List V → List V}
end

/-- names: the parameters first -/
structure FnScope (N P : List Str) (sc : Scope) : Prop where
  kind : sc.kind = .function
  co : sc.isCoroutine = false
  gen : sc.isGenerator = false
  nd : N.Nodup
  pre : N.take P.length = P
  par : ∀ x ∈ P, sc.names.lookup x = some .local ∨ sc.names.lookup x = some .cell
  nofree : ∀ y ∈ sc.names, y.2 ≠ .free

theorem bindL_out {kindOf : Str → Option NameKind} {x : Str} : ∀ {binds : List (Str × Value)} {m : Str → Option Value}, (∀ v, (x, v) ∉ binds) → bindL kindOf binds m x = m x
  | [], _, _ => rfl
  | (n, v) :: r, m, h => by
    unfold bindL
    rw [bindL_out fun w hw => h w (List.mem_cons_of_mem _ hw)]
    split
    · have : x ≠ n := by rintro rfl; exact h v List.mem_cons_self
      simp [this]
    · rfl
theorem bindC_out {kindOf : Str → Option NameKind} {x : Str} : ∀ {binds : List (Str × Value)} {m : Str → Option Value}, (∀ v, (x, v) ∉ binds) → bindC kindOf binds m x = m x
  | [], _, _ => rfl
  | (n, v) :: r, m, h => by
    unfold bindC
    rw [bindC_out fun w hw => h w (List.mem_cons_of_mem _ hw)]
    split
    · rfl
    · have : x ≠ n := by rintro rfl; exact h v List.mem_cons_self
      simp [this]
theorem bindL_get {kindOf : Str → Option NameKind} {x : Str} {v : Value} : ∀ {P : List Str} {vs : List Value} {i : Nat} {m : Str → Option Value}, P.Nodup → P[i]? = some x → vs[i]? = some v → kindOf x = some .local →
    bindL kindOf (P.zip vs) m x = some v
  | [], _, _, _, _, h, _, _ => by simp at h
  | _ :: _, [], _, _, _, _, h, _ => by simp at h
  | p :: P, w :: vs, 0, m, nd, h1, h2, hk => by
    simp at h1 h2; subst h1; subst h2
    show bindL kindOf ((p, w) :: P.zip vs) m p = _
    unfold bindL
    rw [bindL_out fun v hv => (List.nodup_cons.mp nd).1 (List.of_mem_zip hv).1, if_pos hk]
    simp
  | p :: P, w :: vs, i + 1, m, nd, h1, h2, hk => by
    show bindL kindOf ((p, w) :: P.zip vs) m x = _
    unfold bindL
    exact bindL_get (i := i) (List.nodup_cons.mp nd).2 (by simpa using h1) (by simpa using h2) hk
theorem bindC_get {kindOf : Str → Option NameKind} {x : Str} {v : Value} : ∀ {P : List Str} {vs : List Value} {i : Nat} {m : Str → Option Value}, P.Nodup → P[i]? = some x → vs[i]? = some v → kindOf x ≠ some .local →
    bindC kindOf (P.zip vs) m x = some v
  | [], _, _, _, _, h, _, _ => by simp at h
  | _ :: _, [], _, _, _, _, h, _ => by simp at h
  | p :: P, w :: vs, 0, m, nd, h1, h2, hk => by
    simp at h1 h2; subst h1; subst h2
    show bindC kindOf ((p, w) :: P.zip vs) m p = _
    unfold bindC
    rw [bindC_out fun v hv => (List.nodup_cons.mp nd).1 (List.of_mem_zip hv).1, if_neg hk]
    simp
  | p :: P, w :: vs, i + 1, m, nd, h1, h2, hk => by
    show bindC kindOf ((p, w) :: P.zip vs) m x = _
    unfold bindC
    exact bindC_get (i := i) (List.nodup_cons.mp nd).2 (by simpa using h1) (by simpa using h2) hk

/-- the names' values at the entry -/
def start (N : List Str) (vs : List V) : St := vs.map some ++ List.replicate (N.length - vs.length) none

/-- the context of a def's body, at its entry; an exception leaves the frame, then lies as CX says -/
def cxOf (CX : CXT) (P : Program) (w : World) (K : PySem.W.Frag) (mg : Str → Option Value) (base : Heap) (N : List Str) (qual : Str) (scope : Scope) (f : Addr) (cd : Value) (A : Around) (outer : List Env) (s : Shared) (H : Hp) (E : XK) : Cx where
  prog := P
  w := w
  K := K
  mg := mg
  base := base
  A := A.deeper (envOfC qual scope s.heap.objs.size f cd)
  N := N
  s₀ := s
  H₀ := H
  env := envOfC qual scope s.heap.objs.size f cd
  outer := outer
  stack := envOfC qual scope s.heap.objs.size f cd :: outer
  ex := []
  calm := true
  fn := fun _ => true
  pn := []
  xe := fun e s' => wpAny (model P w) (A.deeper (envOfC qual scope s.heap.objs.size f cd)) (leaving (envOfC qual scope s.heap.objs.size f cd) e) (fun _ s'' => CX outer H s E e s'') (fun e' s'' => CX outer H s E e' s'') s'

theorem cell_has {sc : Scope} {n : Nat} {x : Str} (h : sc.names.lookup x = some .cell) : ∃ c, (cellsFrom n sc.names []).lookup x = some c := by
  have q := PySem.W.cellsFrom_some sc.names n [] (.inl h)
  exact Option.isSome_iff_exists.mp q

theorem inv_start {CX : CXT} {P : Program} {w : World} {K : PySem.W.Frag} {mg : Str → Option Value} {base : Heap} {N ps : List Str} {qual : Str} {scope : Scope} {f : Addr} {cd : Value} {A : Around} {outer : List Env} {s s1 : Shared} {H : Hp} {E : XK} {us : List Value} {vs : List V}
    (S : FnScope N ps scope) (hd : A.handled = none) (e0 : Env0 P w K mg base A outer s H) (hl : vs.length = ps.length) (r : Vals vs us)
    (x : InCallC s s.heap.objs.size (bindL (envOfC qual scope s.heap.objs.size f cd).kindOf (ps.zip us) fun _ => none) (cellsFrom (s.heap.objs.size + 1) scope.names []) (bindC (envOfC qual scope s.heap.objs.size f cd).kindOf (ps.zip us) fun _ => none) s1) :
    Inv (cxOf CX P w K mg base N qual scope f cd A outer s H E) [] (start N vs) H s1 := by
  have hpl : ps.length ≤ N.length := by have := congrArg List.length S.pre; rw [List.length_take] at this; omega
  obtain ⟨h1, tk, rfl, hk⟩ := x.done
  have noA : ∀ b : Addr, b ∉ (cxOf CX P w K mg base N qual scope f cd A outer s H E).ex := fun b z => absurd (show b ∈ ([] : List Addr) from z) (by simp)
  refine ⟨⟨e0.mod, S.kind, rfl, rfl, Nat.le_refl _, fun y z c h1 h2 => ?_, fun y hy => ?_, fun y c _ h => ?_, fun _ => hd, Around.frames_deeper e0.frames, .inr ⟨rfl, rfl⟩, fun b z => absurd z (noA b), e0.bs, e0.bsz, fun b _ _ => noA b, fun b z => absurd z (noA b), e0.funs, e0.frf⟩,
    rfl, e0.bare, Un.kept hk, ⟨_, x.toInCall.ns, fun i y v h1 h2 h3 => ?_⟩, fun y c h => ⟨_, x.cell y c h⟩, e0.hok.fresh (Nat.le_refl _), fun y c h => ?_, fun p hp => absurd (show p ∈ ([] : List (Addr × Obj)) from hp) (by simp), e0.hok.kept hk, ?_⟩
  · exact name_of_addr x.apart (PySem.mem_of_lookup h1) (PySem.mem_of_lookup h2)
  · have hy : scope.names.lookup y = some .cell ∨ scope.names.lookup y = some .free := hy
    rcases hy with hy | hy
    · exact cell_has hy
    · exact absurd rfl (S.nofree _ (PySem.mem_of_lookup hy))
  · exact Nat.le_of_lt (x.above y c (PySem.mem_of_lookup h))
  · have hi : i < vs.length := by
      unfold start at h2
      by_cases hi : i < vs.length
      · exact hi
      · rw [List.getElem?_append_right (by simpa using hi)] at h2
        rw [List.getElem?_replicate] at h2
        split at h2 <;> cases h2
    have ha : vs[i]? = some v := by
      unfold start at h2
      rw [List.getElem?_append_left (by simpa using hi), List.getElem?_map] at h2
      cases e : vs[i]? with
      | none => rw [e] at h2; cases h2
      | some a => rw [e] at h2; cases h2; rfl
    obtain ⟨u, hu, rv⟩ := r.get ha
    have hp : ps[i]? = some y := by
      rw [← S.pre, List.getElem?_take_of_lt (by omega)]; exact h1
    have ndP : ps.Nodup := by rw [← S.pre]; exact S.nd.sublist (List.take_sublist _ _)
    refine ⟨u, rv, ?_⟩
    rcases S.par y (List.mem_of_getElem? hp) with k | k
    · exact .inl ⟨k, bindL_get ndP hp hu k⟩
    · obtain ⟨c, e⟩ := cell_has (n := s.heap.objs.size + 1) k
      refine .inr ⟨.inl k, c, e, ?_⟩
      have q := x.cell y c e
      rw [bindC_get ndP hp hu (by show scope.names.lookup y ≠ _; rw [k]; decide)] at q
      exact q
  · exact e0.hok.fresh (Nat.le_of_lt (x.above y c (PySem.mem_of_lookup h)))
  · unfold start
    show _ = N.length
    rw [List.length_append, List.length_map, List.length_replicate]
    omega

/-- THE RULE: a def (or a method) of the text, by its body. The body's reading t is chosen for each entry; it is run at the parameters' values -/
theorem fn_of {CX : CXT} {P : Program} {w : World} {K : PySem.W.Frag} {mg : Str → Option Value} {base : Heap} {k : Nat} {f : Addr} {name qual : Str} {params : Arguments} {body : List Stmt} {scope : Scope} {dV kV doc pm cdv ct oc : Value} {an od : Option Addr}
    {osl : Array (Option Value)} {N ps : List Str} {sp : Sp} (lk : K.lookup f = some ⟨oc, od, .func (PySem.W.fnOf name qual params body scope dV kV doc pm an cdv ct), osl⟩) (hcd : PySem.W.codeIn K cdv qual = true) (S : FnScope N ps scope)
    (len : ∀ vs H Q E, sp vs H Q E → vs.length = ps.length)
    (hbody : ∀ (A : Around) (outer : List Env) (s : Shared) (H : Hp) (vs : List V) (Q : VK) (E : XK), Room k (A.deeper (envOfC qual scope s.heap.objs.size f cdv)) → sp vs H Q E →
      ∃ t, PSs (cxOf CX P w K mg base N qual scope f cdv A outer s H E) body t ∧ t { nx := fun _ H' => Q .non H', rt := Q } (start N vs) H) :
    FnOk P w K mg base CX (k + 1) f (PySem.W.fnOf name qual params body scope dV kV doc pm an cdv ct) ps sp := by
  refine ⟨len, fun A outer s H args us vs Q E hr e0 hb r hsp => ?_⟩
  have hl := len _ _ _ _ hsp
  have KX : K.In s.heap := e0.mod.kin.keeps fun b o e => (e0.bs b o e).1
  have lim : s.heap.NoLimit := e0.mod.nolimit.keeps fun b o e => (e0.bs b o e).1
  have hkind : ∀ y ∈ ps.zip us, scope.names.lookup y.1 = some .local ∨ (scope.names.lookup y.1 = some .cell ∧ ((cellsFrom (s.heap.objs.size + 1) scope.names []).lookup y.1).isSome = true) := fun ⟨n, v⟩ hy => by
    rcases S.par n (List.of_mem_zip hy).1 with q | q
    · exact .inl q
    · exact .inr ⟨q, PySem.W.cellsFrom_some _ _ _ (.inl q)⟩
  refine codeAny_call_function hr.depth (KX _ _ lk) rfl S.co S.gen rfl (PySem.W.codeRec_of KX hcd) (hb _ _ _ _ ?_)
  refine wpAny_newFunctionEnv_cells S.kind hkind fun env he s1 x => ?_
  subst he
  refine ⟨lim.keeps x.toInCall.keep, codeAny_func ?_⟩
  obtain ⟨t, ht, hq⟩ := hbody A outer s H vs Q E (hr.deeper _) hsp
  have I : Inv (cxOf CX P w K mg base N qual scope f cdv A outer s H E) [] (start N vs) H s1 := inv_start S hr.hd e0 hl r x
  refine wpAny_mono (ht [] s1 (start N vs) H _ I hq) (fun fl s' hs => ?_) fun e s' hs => hs
  have fin : ∀ {σ' : St} {H' : Hp} {v : V} {u : Value}, Inv (cxOf CX P w K mg base N qual scope f cdv A outer s H E) [] σ' H' s' → RelV v u → Q v H' → CE outer P w H s Q u s' :=
    fun {σ' H' v u} J rv q => ⟨v, H', J.os, J.bare, J.base, J.hok, rv, q⟩
  cases fl with
  | ret u =>
    obtain ⟨v, σ', H', J, rv, q⟩ := hs
    exact fin J rv q
  | next =>
    obtain ⟨σ', H', J, q⟩ := hs
    exact fin (v := V.non) (u := Value.none) J rfl q
  | brk =>
    obtain ⟨_, _, _, q⟩ := hs
    exact False.elim q
  | cont =>
    obtain ⟨_, _, _, q⟩ := hs
    exact False.elim q
end L2

namespace L2
open PySem PySem.Spec PyProof.Rows
section
variable {X : Cx} {x : Str} {p pos : Pos} {e : Expr} {es : List Expr} {t : TA} {id T : String} {r : List V → Hp → VK → Prop}

def tCB (r : List V → Hp → VK → Prop) (t : TA) : TE := fun σ H Q => t σ H fun vs H1 => r vs H1 Q
/-- f(e, ..), f a built-in function -/
theorem pe_callB (hc : CallR X (.builtin id) r) (hg : Gl X x) (hm : X.mg x = none) (hv : bootBuiltins x = some (.builtin id)) (ha : PA X (e :: es) t) (hn : x ≠ "__name__" := by decide) (hdb : (x == ("__debug__" : Str)) = false := by decide)
    (he : starEach (e :: es) X.env = (false, eval e X.env) :: starEach es X.env := by rfl) (hpl : (backTo pos (starEach es X.env)).any (·.1) = false := by rfl) : PE X (.Call (.Name x p) (e :: es) [] pos) (tCB r t) := by
  intro pins s σ H Q I h
  refine wpAny_Call_Name_kw (ld_blt I hg hm hv ?_ hn hdb)
  exact PyProof.Rows.callWith_builtin1 (thn (ha pos pins s σ H _ I h) fun us s1 ⟨vs, H1, I1, r1, q1⟩ => hc pins s1 σ H1 vs us Q I1 r1 q1) he hpl
/-- T(e, ..), T a built-in type -/
theorem pe_callTy (hc : CallR X (.type T) r) (hg : Gl X x) (hm : X.mg x = none) (hv : bootBuiltins x = some (.type T)) (ha : PA X (e :: es) t) (hn : x ≠ "__name__" := by decide) (hdb : (x == ("__debug__" : Str)) = false := by decide)
    (he : starEach (e :: es) X.env = (false, eval e X.env) :: starEach es X.env := by rfl) (hpl : (backTo pos (starEach es X.env)).any (·.1) = false := by rfl) : PE X (.Call (.Name x p) (e :: es) [] pos) (tCB r t) := by
  intro pins s σ H Q I h
  refine wpAny_Call_Name_kw (ld_blt I hg hm hv ?_ hn hdb)
  exact PyProof.Rows.callWith_type1 (thn (ha pos pins s σ H _ I h) fun us s1 ⟨vs, H1, I1, r1, q1⟩ => hc pins s1 σ H1 vs us Q I1 r1 q1) he hpl
end
end L2

namespace HT
open PySem PyProof.Rows

/-- t < u of tuples of ints -/
def lexLt : List Int → List Int → Bool
  | [], [] => false
  | [], _ :: _ => true
  | _ :: _, [] => false
  | x :: xs, y :: ys => if x = y then lexLt xs ys else decide (x < y)
theorem lexLt_cons (x y : Int) (xs ys : List Int) : lexLt (x :: xs) (y :: ys) = if x = y then lexLt xs ys else decide (x < y) := rfl
theorem lexLt_nil_nil : lexLt [] [] = false := rfl
theorem lexLt_nil_cons (y : Int) (ys : List Int) : lexLt [] (y :: ys) = true := rfl
theorem lexLt_cons_nil (x : Int) (xs : List Int) : lexLt (x :: xs) [] = false := rfl

theorem eqAt_int (A : Around) (s : Shared) (a : Int) (t : Tok) (c : Int) (u : Tok) : ∃ e, SeqAt.EqAt A s (.int a t) (.int c u) e ∧ (e = true ↔ a = c) :=
  ⟨(a == c), SeqAt.EqAt.int_int a t c u, by simp⟩
theorem rcLt_int (A : Around) (s : Shared) (a : Int) (t : Tok) (c : Int) (u : Tok) (prog : Program) (w : World) (E : Value → Shared → Prop) (Q : Value → Shared → Prop) (h : Q (.bool (decide (a < c))) s) :
    wpAny (model prog w) A (richCompare .Lt (.int a t) (.int c u)) Q E s :=
  (PyProof.Rows.lt_int h : wpAny (model prog w) A (compareOp .Lt (.int a t) (.int c u)) Q E s)

section
open PySem.SeqAt
open PySem.AutoSeq1 (wpAny_loadPart')
open PySem.MeetsSeq PySem.MeetsSeq2 PySem.MeetsSeq3

theorem tuple_lt_ints (l b : Addr) (items items2 : Array Value) (n n2 : Nat) (dd dd2 : Option Addr) (sl sl2 : Array (Option Value)) (ns ms : List Int) (hi : IntsAre items.toList ns) (hj : IntsAre items2.toList ms) :
    Meets (Builtin.«tuple.__lt__» ⟨[.ref l, .ref b], []⟩)
      (fun _ R s => s.heap.get? l = some { cls := .type "tuple", dict := dd, data := .seq items n, slots := sl } ∧ s.heap.get? b = some { cls := .type "tuple", dict := dd2, data := .seq items2 n2, slots := sl2 } ∧
        R (.ok (.ret (.bool (lexLt ns ms)))) s) :=
  .of_wp fun prog w A R s h => by
    obtain ⟨hp, g, d, tk, os⟩ := s; obtain ⟨hl, hb, h⟩ := h
    have f2 := AutoSeq1.sub_tuple_tuple
    have z1 : items.size = ns.length := by rw [← hi.length]; simp
    have z2 : items2.size = ms.length := by rw [← hj.length]; simp
    wp_walk using wpAny_loadPart' hl, wpAny_loadPart' hb, wpAny_forIn_list _ (fun rest b s' => b.1 = none ∧ s' = ⟨hp, g, d, tk, os⟩ ∧ ∃ (vs ws : List Value) (ns' ms' : List Int), rest = vs.zip ws ∧
      IntsAre vs ns' ∧ IntsAre ws ms' ∧ ns'.length + items2.size = ms'.length + items.size ∧ R (.ok (.ret (.bool (lexLt ns' ms')))) ⟨hp, g, d, tk, os⟩) _
    case turn =>
      rintro ⟨y, x⟩ rest b s' ⟨hb', rfl, vs, ws, ns', ms', hz, hvi, hwi, hlen, hR⟩
      cases hvi with
      | nil => rw [List.zip_nil_left] at hz; cases hz
      | cons a t hvi' =>
        cases hwi with
        | nil => rw [List.zip_nil_right] at hz; cases hz
        | cons c u hwi' =>
          rw [List.zip_cons_cons] at hz
          injection hz with hyx hrest
          injection hyx with hy hx
          subst hy hx
          rw [lexLt_cons] at hR
          simp only [List.length_cons] at hlen
          obtain ⟨e, he, hiff⟩ := eqAt_int A.in1 ⟨hp, g, d, tk, os⟩ a t c u
          refine wpAny_bind (he prog w _ _ ?_)
          cases e with
          | true =>
            rw [if_pos (hiff.mp rfl)] at hR
            wp_walk
            exact ⟨rfl, rfl, _, _, _, _, hrest, hvi', hwi', by omega, hR⟩
          | false =>
            rw [if_neg (fun q => absurd (hiff.mpr q) Bool.false_ne_true)] at hR
            have hri := rcLt_int A.in1 ⟨hp, g, d, tk, os⟩ a t c u prog w
            wp_walk using hri
            exact ⟨_, rfl, by simpa using hR⟩
    case fin =>
      rintro ⟨b1, b2⟩ s' ⟨hb', rfl, vs, ws, ns', ms', hz, hvi, hwi, hlen, hR⟩
      simp only at hb'
      subst hb'
      have hv : lexLt ns' ms' = decide (items.size < items2.size) := by
        cases hvi with
        | nil =>
          cases hwi with
          | nil =>
            simp only [List.length_nil] at hlen
            rw [lexLt_nil_nil]
            exact (decide_eq_false (by omega)).symm
          | cons c u hw =>
            simp only [List.length_nil, List.length_cons] at hlen
            rw [lexLt_nil_cons]
            exact (decide_eq_true (by omega)).symm
        | cons a t hv =>
          cases hwi with
          | nil =>
            simp only [List.length_nil, List.length_cons] at hlen
            rw [lexLt_cons_nil]
            exact (decide_eq_false (by omega)).symm
          | cons c u hw =>
            rw [List.zip_cons_cons] at hz
            cases hz
      rw [hv] at hR
      wp_walk
      exact ⟨_, rfl, by simpa [Builtin.Tuple.tupleCompareSizes] using hR⟩
    case h =>
      exact ⟨rfl, rfl, items.toList, items2.toList, ns, ms, rfl, hi, hj, by omega, h⟩
end

section
variable {prog : Program} {w : World} {A : Around} {E : Value → Shared → Prop} {s : Shared}

theorem lt_tupInts {l b : Addr} {items items2 : Array Value} {ns ms : List Int} {Q : Value → Shared → Prop} (hl : IsTup s.heap l items) (hb : IsTup s.heap b items2) (hi : IntsAre items.toList ns) (hj : IntsAre items2.toList ms)
    (hu : A.units < cLine) (h : Q (.bool (lexLt ns ms)) s) : wpAny (model prog w) A (compareOp .Lt (.ref l) (.ref b)) Q E s := by
  obtain ⟨⟨cls, dd, data, sl⟩, ho, hc, n, hd⟩ := id hl
  obtain ⟨⟨cls2, dd2, data2, sl2⟩, ho2, hc2, n2, hd2⟩ := id hb
  simp only at hc hd hc2 hd2
  subst hc hd hc2 hd2
  exact richCompare_meets_room (op := .Lt) ⟨_, ho, rfl⟩ ⟨_, ho2, rfl⟩ PySem.F.slot_tuple_lt PySem.F.entry_tuple_lt (PySem.F.args_tuple_lt_2 _ _) (tuple_lt_ints l b items items2 n n2 dd dd2 sl sl2 ns ms hi hj)
    ⟨ho, ho2, show Value.bool (lexLt ns ms) ≠ Value.notImplemented ∧ Q (.bool (lexLt ns ms)) s from ⟨(fun x => nomatch x), h⟩⟩ hu

/-- t + u, t not empty -/
theorem cat_tup {t b : Addr} {vs ws : List Value} {Q : Value → Shared → Prop} (ht : IsTup s.heap t vs.toArray) (hb : IsTup s.heap b ws.toArray) (hv : vs ≠ [])
    (h1 : ws = [] → Q (.ref t) s) (h2 : ws ≠ [] → Q (.ref s.heap.objs.size) { s with heap := s.heap.push { cls := .type "tuple", data := .seq (vs ++ ws).toArray } })
    (hsz : vs.length + ws.length ≤ sizeLine) : wpAny (model prog w) A (binaryOp .Add (.ref t) (.ref b)) Q E s := by
  obtain ⟨⟨cls, dd, data, sl⟩, ho, hc, n, hd⟩ := id ht
  obtain ⟨⟨cls2, dd2, data2, sl2⟩, ho2, hc2, n2, hd2⟩ := id hb
  simp only at hc hd hc2 hd2
  subst hc hd hc2 hd2
  have e : vs.toArray ++ ws.toArray = (vs ++ ws).toArray := by simp
  by_cases hw : ws = []
  · exact concat_meets ⟨_, ho, rfl⟩ ⟨_, ho2, rfl⟩ noFill_tuple_add seq_tuple_add PySem.F.slot_tuple_add PySem.F.entry_tuple_add (PySem.F.args_tuple_add_2 _ _)
      (tuple_addW1 t b vs.toArray ws.toArray n n2 dd dd2 sl sl2 (by simpa using hv) (by simp [hw])) ⟨ho, ho2, h1 hw⟩
  · refine concat_meets ⟨_, ho, rfl⟩ ⟨_, ho2, rfl⟩ noFill_tuple_add seq_tuple_add PySem.F.slot_tuple_add PySem.F.entry_tuple_add (PySem.F.args_tuple_add_2 _ _)
      (tuple_addW2 t b vs.toArray ws.toArray n n2 dd dd2 sl sl2 (by simpa using hv) (by simpa using hw) (by rw [List.size_toArray, List.size_toArray]; exact hsz)) ⟨ho, ho2, ?_⟩
    rw [e]
    exact h2 hw

/-- a slice's bound as a place among n (d where it is left out) -/
def sIx (n d : Nat) : Option Int → Nat
  | none => d
  | some v => if v < 0 then (v + (n : Int)).toNat else min v.toNat n
theorem sIx_nat (n d k : Nat) : sIx n d (some (k : Int)) = min k n := by
  show (if (k : Int) < 0 then ((k : Int) + (n : Int)).toNat else min (k : Int).toNat n) = min k n
  rw [if_neg (by omega), Int.toNat_natCast]
end
end HT

namespace L2
open PySem PySem.Spec PyProof.Rows

abbrev TO := St → Hp → (Option Int → Hp → Prop) → Prop
/-- a slice's part (left out, or an int) -/
def PO (X : Cx) (e : Option Expr) (t : TO) : Prop :=
  ∀ (pins : List (Addr × Obj)) (s : Shared) (σ : St) (H : Hp) (Q : Option Int → Hp → Prop), Inv X pins σ H s → t σ H Q →
    wpAny (model X.prog X.w) X.A (evalPart e X.env) (fun u s' => ∃ o H', Inv X pins σ H' s' ∧ IsPart u o ∧ Q o H') X.xe s
def tPart (t : TE) : TO := fun σ H Q => t σ H fun x H1 => ∃ i, x = .int i ∧ Q (some i) H1

theorem intsAre_of {ns : List Int} : ∀ {us : List Value}, Vals (ns.map V.int) us → IntsAre us ns := by
  induction ns with
  | nil => intro us r; rw [List.map_nil] at r; cases r; exact .nil
  | cons n ns ih =>
    intro us r
    rw [List.map_cons] at r
    cases r with
    | cons r1 r2 =>
      obtain ⟨t, e⟩ := r1
      subst e
      exact .cons n t (ih r2)

section
variable {X : Cx} {e : Expr} {te : TE} {lo hi : Option Expr} {tl th : TO} {pos p2 : Pos}

theorem po_some (h : PE X e te) : PO X (some e) (tPart te) := by
  intro pins s σ H Q I hw
  rw [evalPart_some]
  refine thn (h pins s σ H _ I hw) fun u s1 ⟨x, H1, I1, r1, q1⟩ => ?_
  obtain ⟨i, rfl, q⟩ := q1
  obtain ⟨t, rfl⟩ := r1
  exact ⟨some i, H1, I1, .int i t, q⟩

/-- what a slice of a value is, by values: the slice object stands at sl -/
def SlR (X : Cx) (r : V → Option Int → Option Int → Hp → VK → Prop) : Prop :=
  ∀ (pins : List (Addr × Obj)) (s : Shared) (σ : St) (H : Hp) (x : V) (v vl vu : Value) (lo hi : Option Int) (sl : Addr) (Q : VK), Inv X pins σ H s → RelV x v → s.heap.IsSliceOf sl vl vu .none → IsPart vl lo → IsPart vu hi → r x lo hi H Q →
    ∃ T id, typeLookup (.type T) "__getitem__" = pure (some (.builtin id)) ∧ s.TypeIs v T ∧ wpAny (model X.prog X.w) X.A (getItem v (.ref sl)) (EP X pins σ Q) X.xe s
theorem SlR.or {r r' : V → Option Int → Option Int → Hp → VK → Prop} (h : SlR X r) (h' : SlR X r') : SlR X (fun x lo hi H Q => r x lo hi H Q ∨ r' x lo hi H Q) := by
  intro pins s σ H x v vl vu lo hi sl Q I rx hs pl pu q
  rcases q with q | q
  · exact h pins s σ H x v vl vu lo hi sl Q I rx hs pl pu q
  · exact h' pins s σ H x v vl vu lo hi sl Q I rx hs pl pu q
def tSl (r : V → Option Int → Option Int → Hp → VK → Prop) (te : TE) (tl th : TO) : TE := fun σ H Q => te σ H fun x H1 => tl σ H1 fun l H2 => th σ H2 fun u H3 => r x l u H3 Q
/-- a[lo:hi], any a -/
theorem pe_slice {r : V → Option Int → Option Int → Hp → VK → Prop} (hr : SlR X r) (he : PE X e te) (hl : PO X lo tl) (hu : PO X hi th) : PE X (.Subscript e (.Slice lo hi none p2) pos) (tSl r te tl th) := by
  intro pins s σ H Q I h
  refine Subscript_ (thn (he pins s σ H _ I h) fun v s1 ⟨x, H1, I1, r1, q1⟩ => ?_)
  refine wpAny_Slice (thn (hl pins s1 σ H1 _ I1 q1) fun vl s2 ⟨l, H2, I2, pl, q2⟩ => thn (hu pins s2 σ H2 _ I2 q2) fun vu s3 ⟨u, H3, I3, pu, q3⟩ => ?_)
  rw [evalPart_none]
  refine wpAny_pure ?_
  have I4 : Inv X pins σ H3 { s3 with heap := s3.heap.push { cls := .type "slice", data := .fields #[vl, vu, .none] } } := I3.kept (t' := s3.toks) fun b ob q => Heap.get?_push_of_some _ q
  obtain ⟨T, id, hT, ht, hg⟩ := hr pins { s3 with heap := s3.heap.push { cls := .type "slice", data := .fields #[vl, vu, .none] } } σ H3 x v vl vu l u s3.heap.objs.size Q I4 r1 (Heap.IsSliceOf.new ..) pl pu q3
  show wpAny (model X.prog X.w) X.A (subscriptTail e (.Slice lo hi none p2) v (.ref s3.heap.objs.size)) (EP X pins σ Q) X.xe { s3 with heap := s3.heap.push { cls := .type "slice", data := .fields #[vl, vu, .none] } }
  exact tail_any (ops := [.ref s3.heap.objs.size, v]) ht hT hg (by with_unfolding_all rfl)

/-- the items of xs[lo:hi] -/
def cutV (xs : List V) (lo hi : Option Int) : List V := (xs.drop (HT.sIx xs.length 0 lo)).take (HT.sIx xs.length xs.length hi - HT.sIx xs.length 0 lo)
theorem cutV_length (xs : List V) (lo hi : Option Int) : (cutV xs lo hi).length ≤ xs.length := by
  unfold cutV
  rw [List.length_take, List.length_drop]
  omega
/-- t + u, t not empty: u empty gives t itself -/
def rCatT (K : PySem.W.Frag) : R2 := fun x y H Q => ∃ a b xs ys, x = .ref a ∧ y = .ref b ∧ SqT K H a xs ∧ SqT K H b ys ∧ xs ≠ [] ∧ xs.length + ys.length ≤ sizeLine ∧
  (ys = [] → Q (.ref a) H) ∧ (ys ≠ [] → ∀ p, H p = none → Q (.ref p) (upd H p (.tup (xs ++ ys))))
theorem Vals.nil_iff {xs : List V} {us : List Value} (r : Vals xs us) : us = [] ↔ xs = [] := by
  cases r with
  | nil => simp
  | cons _ _ => simp
theorem op_catT : OpR X (binaryOp .Add) (rCatT X.K) := by
  intro pins s σ H x y v u Q I rx ry h
  obtain ⟨a, b, xs, ys, rfl, rfl, ha, hb, hx, hz, q1, q2⟩ := h
  cases rx
  cases ry
  obtain ⟨its, r1, p1, _⟩ := I.tuple ha
  obtain ⟨its2, r2, p2, _⟩ := I.tuple hb
  refine HT.cat_tup p1 p2 (fun z => hx (r1.nil_iff.mp z)) (fun z => ⟨.ref a, H, I, rfl, q1 (r2.nil_iff.mp z)⟩) (fun z => ?_) (by rw [← r1.length, ← r2.length]; exact hz)
  refine ⟨.ref s.heap.objs.size, _, I.laid (t' := s.toks) (o := .tup (xs ++ ys)) (fun b ob q => Heap.get?_push_of_some _ q) (Nat.le_refl _) ?_, rfl, q2 (fun w => z (r2.nil_iff.mpr w)) _ (I.hok.fresh (Nat.le_refl _))⟩
  exact ⟨by rw [List.length_append]; exact hz, _, r1.append r2, IsTup.new _ _⟩
end
end L2

namespace L2
open PySem PySem.Spec PyProof.Rows

/-- the place that an index of any sign means -/
def ixN (n : Nat) (i : Int) : Option Nat := if 0 ≤ i then (if i < n then some i.toNat else none) else if -(n : Int) ≤ i then some (i + n).toNat else none
def atI {α : Type} (xs : List α) (i : Int) : Option α := (ixN xs.length i).bind fun j => xs[j]?
theorem ixN_seq {n : Nat} {i : Int} {j : Nat} (h : ixN n i = some j) : seqIndex? i n = some j ∧ j < n ∧ -(n : Int) ≤ i ∧ i < n := by
  unfold ixN at h
  by_cases h0 : 0 ≤ i
  · rw [if_pos h0] at h
    by_cases h1 : i < n
    · rw [if_pos h1] at h
      have e : i.toNat = j := Option.some.inj h
      exact ⟨by rw [seqIndex_of h0 h1, e], by omega, by omega, h1⟩
    · rw [if_neg h1] at h; cases h
  · rw [if_neg h0] at h
    by_cases h1 : -(n : Int) ≤ i
    · rw [if_pos h1] at h
      have e : (i + n).toNat = j := Option.some.inj h
      exact ⟨by rw [seqIndex_neg (by omega) h1, e], by omega, h1, by omega⟩
    · rw [if_neg h1] at h; cases h
theorem atI_get {α : Type} {xs : List α} {i : Int} {v : α} (h : atI xs i = some v) : ∃ j, seqIndex? i xs.length = some j ∧ xs[j]? = some v ∧ j < xs.length ∧ -(xs.length : Int) ≤ i ∧ i < xs.length := by
  unfold atI at h
  cases e : ixN xs.length i with
  | none => rw [e] at h; cases h
  | some j =>
    rw [e] at h
    obtain ⟨h1, h2, h3, h4⟩ := ixN_seq e
    exact ⟨j, h1, h, h2, h3, h4⟩
theorem atI_nat {α : Type} {xs : List α} {j : Nat} {v : α} (h : xs[j]? = some v) : atI xs (j : Int) = some v := by
  have hj : j < xs.length := (List.getElem?_eq_some_iff.mp h).1
  have e : ixN xs.length (j : Int) = some j := by
    unfold ixN
    rw [if_pos (by omega), if_pos (by omega)]; simp
  unfold atI; rw [e]; exact h
/-- what stands as an index of a plain subscript -/
def PlainIx (b : Expr) : Prop := ∀ o i, subscripted b false o i = operate [o, i] (getItem o i)
/-- a subscript by values -/
def IxR (X : Cx) (r : R2) : Prop :=
  ∀ (value slice : Expr) (pins : List (Addr × Obj)) (s : Shared) (σ : St) (H : Hp) (x y : V) (v u : Value) (Q : VK), Inv X pins σ H s → RelV x v → RelV y u → r x y H Q →
    subscripted slice false v u = operate [v, u] (getItem v u) → wpAny (model X.prog X.w) X.A (subscriptTail value slice v u) (EP X pins σ Q) X.xe s
/-- a call of a builtin's method by values: the receiver, the arguments -/
def MtR (X : Cx) (id : String) (r : V → List V → Hp → VK → Prop) : Prop :=
  ∀ (pins : List (Addr × Obj)) (s : Shared) (σ : St) (H : Hp) (x : V) (xs : List V) (v : Value) (us : List Value) (Q : VK), Inv X pins σ H s → RelV x v → Vals xs us → r x xs H Q →
    wpAny (model X.prog X.w) X.A (call (.builtin id) (v :: us)) (EP X pins σ Q) X.xe s
section
variable {X : Cx} {a b : Expr} {ta tb : TE} {pos : Pos}
theorem IxR.or {r r' : R2} (h : IxR X r) (h' : IxR X r') : IxR X (fun x y H Q => r x y H Q ∨ r' x y H Q) := by
  intro value slice pins s σ H x y v u Q I rx ry q hs
  rcases q with q | q
  · exact h value slice pins s σ H x y v u Q I rx ry q hs
  · exact h' value slice pins s σ H x y v u Q I rx ry q hs
theorem MtR.or {id : String} {r r' : V → List V → Hp → VK → Prop} (h : MtR X id r) (h' : MtR X id r') : MtR X id (fun x xs H Q => r x xs H Q ∨ r' x xs H Q) := by
  intro pins s σ H x xs v us Q I rx rs q
  rcases q with q | q
  · exact h pins s σ H x xs v us Q I rx rs q
  · exact h' pins s σ H x xs v us Q I rx rs q
/-- a[b] -/
theorem pe_ix {r : R2} (hr : IxR X r) (ha : PE X a ta) (hb : PE X b tb) (hs : PlainIx b) : PE X (.Subscript a b pos) (tOp r ta tb) := by
  intro pins s σ H Q I h
  exact Subscript_ (binT ha hb I h fun v u s2 x y H2 I2 rx ry q => hr a b pins s2 σ H2 x y v u Q I2 rx ry q (hs _ _))

def rIxL (K : PySem.W.Frag) : R2 := fun x y H Q => ∃ p xs i v, x = .ref p ∧ y = .int i ∧ SqL K H p xs ∧ atI xs i = some v ∧ Q v H
def rIxT (K : PySem.W.Frag) : R2 := fun x y H Q => ∃ p xs i v, x = .ref p ∧ y = .int i ∧ SqT K H p xs ∧ atI xs i = some v ∧ Q v H
theorem ix_list : IxR X (rIxL X.K) := by
  intro value slice pins s σ H x y v u Q I rx ry h hs
  obtain ⟨p, xs, i, z, rfl, rfl, hq, he, q⟩ := h
  cases rx
  obtain ⟨t, rfl⟩ := ry
  obtain ⟨its, r, pl, hz⟩ := I.list hq
  obtain ⟨j, h1, h2, h3, h4, h5⟩ := atI_get he
  obtain ⟨w, ew, rw'⟩ := r.get h2
  have hl := r.length
  have hn := line63
  have fin : EP X pins σ Q w s := ⟨z, H, I, rw', q⟩
  by_cases h0 : 0 ≤ i
  · have hj : i.toNat = j := by
      rw [seqIndex_of h0 h5] at h1
      exact Option.some.inj h1
    exact item_listR pl.isList h0 (by omega) (by rw [hj]; simpa using ew) fin hs
  · have hj : (i + (its.toArray.size : Int)).toNat = j := by
      rw [seqIndex_neg (by omega) h4] at h1
      rw [List.size_toArray, ← hl]
      exact Option.some.inj h1
    exact subscriptTail_builtinR (x := w) pl.isList.typeIs slot_list_getitem.lookup
      (wpAny_getItem_list_neg (Q := fun r s' => r = w ∧ EP X pins σ Q r s') pl.isList (by omega) (by rw [List.size_toArray] <;> omega) (by omega) (by rw [hj]; simpa using ew) ⟨rfl, fin⟩) hs
theorem ix_tup : IxR X (rIxT X.K) := by
  intro value slice pins s σ H x y v u Q I rx ry h hs
  obtain ⟨p, xs, i, z, rfl, rfl, hq, he, q⟩ := h
  cases rx
  obtain ⟨t, rfl⟩ := ry
  obtain ⟨its, r, pl, hz⟩ := I.tuple hq
  obtain ⟨j, h1, h2, h3, h4, h5⟩ := atI_get he
  obtain ⟨w, ew, rw'⟩ := r.get h2
  have hl := r.length
  have hn := line63
  have fin : EP X pins σ Q w s := ⟨z, H, I, rw', q⟩
  exact subscriptTail_builtinR (x := w) pl.typeIs slot_tuple_getitem.lookup
    (getItem_tuple (j := j) (Q := fun r s' => r = w ∧ EP X pins σ Q r s') pl (by omega) (by omega) (by rw [List.size_toArray, ← hl]; exact h1) (by simpa using ew) ⟨rfl, fin⟩) hs
theorem Inv.lst {pins : List (Addr × Obj)} {σ : St} {H : Hp} {s : Shared} {p : Addr} {xs : List V} (I : Inv X pins σ H s) (h : H p = some (.lst xs)) :
    ∃ (its : List Value) (n : Nat), Vals xs its ∧ s.heap.get? p = some { cls := .type "list", data := .seq its.toArray n } ∧ xs.length ≤ sizeLine := by
  obtain ⟨z, its, n, r, e⟩ := I.hok p _ h
  exact ⟨its, n, r, e, z⟩
theorem slice_bounds (lo hi : Option Int) (n : Nat) : (sliceBounds lo hi none n).1 = ((HT.sIx n 0 lo : Nat) : Int) ∧ (sliceBounds lo hi none n).2.1 = ((HT.sIx n n hi : Nat) : Int) ∧ (sliceBounds lo hi none n).2.2 = 1 := by
  refine ⟨?_, ?_, rfl⟩
  · cases lo with
    | none => simp [sliceBounds, HT.sIx]
    | some i =>
      simp only [sliceBounds, HT.sIx, Option.getD_none, show (1 : Int) > 0 by decide, if_true]
      by_cases h : i < 0
      · simp only [h, if_true] <;> omega
      · simp only [h, if_false] <;> omega
  · cases hi with
    | none => simp [sliceBounds, HT.sIx]
    | some i =>
      simp only [sliceBounds, HT.sIx, Option.getD_none, show (1 : Int) > 0 by decide, if_true]
      by_cases h : i < 0
      · simp only [h, if_true] <;> omega
      · simp only [h, if_false] <;> omega
theorem slicePick_cut (its : List Value) (lo hi : Option Int) : slicePick its.toArray lo hi none = ((its.drop (HT.sIx its.length 0 lo)).take (HT.sIx its.length its.length hi - HT.sIx its.length 0 lo)).toArray := by
  obtain ⟨h1, h2, h3⟩ := slice_bounds lo hi its.toArray.size
  unfold slicePick
  rw [h1, h2, h3]
  simp only [sliceRange_one, pick_run, List.size_toArray] <;> rfl
/-- xs[lo:hi] of a list: a new list -/
def rSlL (K : PySem.W.Frag) : V → Option Int → Option Int → Hp → VK → Prop := fun x lo hi H Q => ∃ a xs, x = .ref a ∧ SqL K H a xs ∧ ∀ p, H p = none → Q (.ref p) (upd H p (.lst (cutV xs lo hi)))
theorem sl_list : SlR X (rSlL X.K) := by
  intro pins s σ H x v vl vu lo hi sl Q I rx hs pl pu h
  obtain ⟨a, xs, rfl, hx, q⟩ := h
  cases rx
  obtain ⟨its, r, ht, hz⟩ := I.list hx
  have hlen := r.length
  refine ⟨"list", _, slot_list_getitem.lookup, ht.isList.typeIs, ?_⟩
  refine wpAny_getItem_list_slice ht.isList hs pl pu .none (by simp) ?_ (by rw [List.size_toArray] <;> omega)
  rw [slicePick_cut, ← hlen]
  refine ⟨.ref s.heap.objs.size, _, I.laid (t' := s.toks) (o := .lst (cutV xs lo hi)) (fun b ob q => Heap.get?_push_of_some _ q) (Nat.le_refl _) ?_, rfl, q _ (I.hok.fresh (Nat.le_refl _))⟩
  exact ⟨Nat.le_trans (cutV_length xs lo hi) hz, _, 0, (r.drop (HT.sIx xs.length 0 lo)).take (HT.sIx xs.length xs.length hi - HT.sIx xs.length 0 lo), Heap.get?_push_size _ rfl⟩

def flatV : V → Bool
  | .non => true
  | .bl _ => true
  | .int _ => true
  | .str _ => true
  | _ => false
/-- == of flat values -/
def eqV : V → V → Bool
  | .non, .non => true
  | .bl a, .bl b => a == b
  | .bl a, .int b => (if a then 1 else 0) == b
  | .int a, .bl b => a == (if b then 1 else 0)
  | .int a, .int b => a == b
  | .str a, .str b => a == b
  | _, _ => false
theorem eqAt_V {A : Around} {s : Shared} {y x : V} {u v : Value} (ry : RelV y u) (rx : RelV x v) (fy : flatV y = true) (fx : flatV x = true) : SeqAt.EqAt A s u v (eqV y x) := by
  cases y with
  | non =>
    cases ry
    cases x with
    | non => cases rx; exact SeqAt.EqAt.same _
    | bl b => cases rx; exact SeqAt.EqAt.none_bool b
    | int b => obtain ⟨t, rfl⟩ := rx; exact SeqAt.EqAt.none_int b t
    | str b => obtain ⟨t, rfl⟩ := rx; exact SeqAt.EqAt.none_str b t
    | _ => exact absurd (show false = true from fx) Bool.false_ne_true
  | bl a =>
    cases ry
    cases x with
    | non => cases rx; exact SeqAt.EqAt.bool_none a
    | bl b => cases rx; exact SeqAt.EqAt.bool_bool a b
    | int b => obtain ⟨t, rfl⟩ := rx; exact SeqAt.EqAt.bool_int a b t
    | str b => obtain ⟨t, rfl⟩ := rx; exact SeqAt.EqAt.bool_str a b t
    | _ => exact absurd (show false = true from fx) Bool.false_ne_true
  | int a =>
    obtain ⟨t', rfl⟩ := ry
    cases x with
    | non => cases rx; exact SeqAt.EqAt.int_none a t'
    | bl b => cases rx; exact SeqAt.EqAt.int_bool a t' b
    | int b => obtain ⟨t, rfl⟩ := rx; exact SeqAt.EqAt.int_int a t' b t
    | str b => obtain ⟨t, rfl⟩ := rx; exact SeqAt.EqAt.int_str a t' b t
    | _ => exact absurd (show false = true from fx) Bool.false_ne_true
  | str a =>
    obtain ⟨t', rfl⟩ := ry
    cases x with
    | non => cases rx; exact SeqAt.EqAt.str_none a t'
    | bl b => cases rx; exact SeqAt.EqAt.str_bool a t' b
    | int b => obtain ⟨t, rfl⟩ := rx; exact SeqAt.EqAt.str_int a t' b t
    | str b => obtain ⟨t, rfl⟩ := rx; exact SeqAt.EqAt.str_str a t' b t
    | _ => exact absurd (show false = true from fx) Bool.false_ne_true
  | _ => exact absurd (show false = true from fy) Bool.false_ne_true
/-- the items' answers, read off the values (a value's own answer does not lean on its token) -/
def eqU (x : V) (u : Value) : Bool := match u with
  | .none => eqV .non x
  | .bool b => eqV (.bl b) x
  | .int i _ => eqV (.int i) x
  | .str z _ => eqV (.str z) x
  | _ => false
theorem eqU_of {x y : V} {u : Value} (r : RelV y u) (f : flatV y = true) : eqU x u = eqV y x := by
  cases y with
  | non => cases r; rfl
  | bl b => cases r; rfl
  | int i => obtain ⟨t, rfl⟩ := r; rfl
  | str z => obtain ⟨t, rfl⟩ := r; rfl
  | _ => exact absurd (show false = true from f) Bool.false_ne_true
theorem any_eqU {x : V} : ∀ {xs : List V} {us : List Value}, Vals xs us → xs.all flatV = true → us.any (eqU x) = xs.any fun y => eqV y x
  | _, _, .nil, _ => rfl
  | y :: xs, u :: us, .cons r t, f => by
    rw [List.all_cons, Bool.and_eq_true] at f
    rw [List.any_cons, List.any_cons, eqU_of r f.1, any_eqU t f.2]
theorem mem_eqAt {A : Around} {s : Shared} {x : V} {v : Value} (rx : RelV x v) (fx : flatV x = true) : ∀ {xs : List V} {us : List Value}, Vals xs us → xs.all flatV = true → ∀ u ∈ us, SeqAt.EqAt A s u v (eqU x u)
  | _, _, .nil, _ => fun u hu => by cases hu
  | y :: xs, u :: us, .cons r t, f => fun u' hu => by
    rw [List.all_cons, Bool.and_eq_true] at f
    rcases List.mem_cons.mp hu with rfl | hu
    · rw [eqU_of r f.1]; exact eqAt_V r rx f.1 fx
    · exact mem_eqAt rx fx t f.2 u' hu
def inV (x : V) (xs : List V) : Bool := xs.any fun y => eqV y x
/-- x in a list or tuple of flat items -/
def rIn (K : PySem.W.Frag) (neg : Bool) : R2 := fun x y H Q => ∃ p xs, y = .ref p ∧ (SqL K H p xs ∨ SqT K H p xs) ∧ flatV x = true ∧ xs.all flatV = true ∧ Q (.bl (if neg then !inV x xs else inV x xs)) H
theorem op_notIn_seq : OpR X (compareOp .NotIn) (rIn X.K true) := by
  intro pins s σ H x y v u Q I rx ry h
  obtain ⟨p, xs, rfl, hq, fx, fs, q⟩ := h
  cases ry
  rcases hq with hq | hq
  · obtain ⟨its, r, pl, hz⟩ := I.list hq
    refine SeqAt.notIn_listAt (eqU x) pl.isList (fun w hw => mem_eqAt rx fx r fs w (by simpa using hw)) ⟨.bl _, H, I, rfl, ?_⟩
    rw [show its.toArray.any (eqU x) = its.any (eqU x) by simp, any_eqU r fs]
    exact q
  · obtain ⟨its, r, pl, hz⟩ := I.tuple hq
    refine SeqAt.notIn_tupleAt (eqU x) pl (fun w hw => mem_eqAt rx fx r fs w (by simpa using hw)) ⟨.bl _, H, I, rfl, ?_⟩
    rw [show its.toArray.any (eqU x) = its.any (eqU x) by simp, any_eqU r fs]
    exact q
theorem call_len_seq : CallR X (.builtin "len") (fun xs H Q => ∃ p ys, xs = [.ref p] ∧ (SqL X.K H p ys ∨ SqT X.K H p ys) ∧ Q (.int ys.length) H) := by
  intro pins s σ H xs us Q I r h
  obtain ⟨p, ys, rfl, hq, q⟩ := h
  obtain ⟨u, rfl, rx⟩ := vals1 r
  cases rx
  have hn := line63
  rcases hq with hq | hq
  · obtain ⟨its, r', pl, hz⟩ := I.list hq
    have hlen := r'.length
    exact Calls.call_len_list pl.isList (by simp only [List.size_toArray] <;> omega) ⟨.int ys.length, H, I.tok _, ⟨s.toks + 1, by rw [List.size_toArray, hlen]⟩, q⟩
  · obtain ⟨its, r', pl, hz⟩ := I.tuple hq
    have hlen := r'.length
    exact len_tuple pl (by simp only [List.size_toArray] <;> omega) ⟨.int ys.length, H, I.tok _, ⟨s.toks + 1, by rw [List.size_toArray, hlen]⟩, q⟩
theorem CallR.or {f : Value} {r r' : List V → Hp → VK → Prop} (h : CallR X f r) (h' : CallR X f r') : CallR X f (fun xs H Q => r xs H Q ∨ r' xs H Q) := by
  intro pins s σ H xs us Q I rs q
  rcases q with q | q
  · exact h pins s σ H xs us Q I rs q
  · exact h' pins s σ H xs us Q I rs q
theorem call_list_of : CallR X (.type "list") (fun xs H Q => ∃ p ys, xs = [.ref p] ∧ (SqL X.K H p ys ∨ SqT X.K H p ys) ∧ ∀ l, H l = none → Q (.ref l) (upd H l (.lst ys))) := by
  intro pins s σ H xs us Q I r h
  obtain ⟨p, ys, rfl, hq, q⟩ := h
  obtain ⟨u, rfl, rx⟩ := vals1 r
  cases rx
  have fin : ∀ (its : List Value), Vals ys its → ys.length ≤ sizeLine → ∀ (h' : Heap) (c' : Nat), (∀ b o', s.heap.get? b = some o' → h'.get? b = some o') →
      h'.get? s.heap.objs.size = some { cls := .type "list", dict := none, data := .seq its.toArray c', slots := #[] } → EP X pins σ Q (.ref s.heap.objs.size) { s with heap := h' } := fun its r' hz h' c' kp e =>
    ⟨.ref s.heap.objs.size, _, I.laid (t' := s.toks) kp (Nat.le_refl _) (show ObjOk X.prog X.w _ h' _ (.lst ys) from ⟨hz, its, c', r', e⟩), rfl, q _ (I.hok.fresh (Nat.le_refl _))⟩
  rcases hq with hq | hq
  · obtain ⟨its, r', pl, hz⟩ := I.list hq
    have hlen := r'.length
    obtain ⟨o, ho, hc, n, hd⟩ := pl.isList
    exact call_list_seq p (.inl rfl) ho hc hd (fun h' c' kp e => fin its r' hz h' c' kp e) (by simp only [List.size_toArray] <;> omega)
  · obtain ⟨its, r', pl, hz⟩ := I.tuple hq
    have hlen := r'.length
    obtain ⟨o, ho, hc, n, hd⟩ := pl
    exact call_list_seq p (.inr rfl) ho hc hd (fun h' c' kp e => fin its r' hz h' c' kp e) (by simp only [List.size_toArray] <;> omega)
theorem call_tuple_of : CallR X (.type "tuple") (fun xs H Q => ∃ p ys, xs = [.ref p] ∧ ((SqL X.K H p ys ∧ ∀ l, H l = none → Q (.ref l) (upd H l (.tup ys))) ∨ (SqT X.K H p ys ∧ Q (.ref p) H))) := by
  intro pins s σ H xs us Q I r h
  obtain ⟨p, ys, rfl, h⟩ := h
  obtain ⟨u, rfl, rx⟩ := vals1 r
  cases rx
  rcases h with ⟨hq, q⟩ | ⟨hq, q⟩
  · obtain ⟨its, r', pl, hz⟩ := I.list hq
    have hlen := r'.length
    refine call_tuple_list pl.isList (fun h' kp => ?_) (by simp only [List.size_toArray] <;> omega)
    have I1 : Inv X pins σ H { s with heap := h' } := I.kept (t' := s.toks) kp
    have I2 : Inv X pins σ (upd H h'.objs.size (.tup ys)) { s with heap := h'.push { cls := .type "tuple", data := .seq its.toArray } } :=
      I1.laid (t' := s.toks) (fun b o e => Heap.get?_push_of_some _ e) (Nat.le_refl _) (show ObjOk X.prog X.w _ _ _ (.tup ys) from ⟨hz, its, r', IsTup.new _ _⟩)
    exact ⟨.ref h'.objs.size, _, I2, rfl, q _ (I1.hok.fresh (Nat.le_refl _))⟩
  · obtain ⟨its, r', pl, hz⟩ := I.tuple hq
    exact call_tuple_same pl ⟨.ref p, H, I, rfl, q⟩

/-- the value is of that builtin type -/
def tyV (K : PySem.W.Frag) (T : String) (x : V) (H : Hp) : Prop := match x with
  | .str _ => T = "str"
  | .int _ => T = "int"
  | .ref p => (T = "list" ∧ ∃ xs, SqL K H p xs) ∨ (T = "tuple" ∧ ∃ o, K.lookup p = some o ∧ o.cls = .type "tuple" ∧ o.dict = none) ∨
      (T = "dict" ∧ ((∃ kvs, H p = some (.dK kvs)) ∨ ∃ kvs, H p = some (.dT kvs))) ∨ (T = "set" ∧ ∃ S n, H p = some (.set S n))
  | _ => False
theorem tyV_is {pins : List (Addr × Obj)} {σ : St} {H : Hp} {s : Shared} {T : String} {x : V} {v : Value} (I : Inv X pins σ H s) (r : RelV x v) (ty : tyV X.K T x H) :
    s.TypeIs v T ∧ ∀ a, v = .ref a → ∃ ob, s.heap.get? a = some ob ∧ ob.dict = none := by
  cases x with
  | str z =>
    obtain ⟨t, rfl⟩ := r
    cases (show T = "str" from ty)
    exact ⟨typeIs_str s z t, fun _ e => nomatch e⟩
  | int i =>
    obtain ⟨t, rfl⟩ := r
    cases (show T = "int" from ty)
    exact ⟨typeIs_int s i t, fun _ e => nomatch e⟩
  | ref p =>
    cases r
    rcases ty with ⟨rfl, xs, hq⟩ | ⟨rfl, o, hk, hc, hd⟩ | ⟨rfl, hk⟩ | ⟨rfl, S, n, hk⟩
    · obtain ⟨its, _, pl, _⟩ := I.list hq
      refine ⟨pl.isList.typeIs, fun a e => ?_⟩
      cases e
      obtain ⟨o, n, e, c, hd, _⟩ := pl
      exact ⟨o, e, hd⟩
    · refine ⟨⟨o, I.kIn p o hk, hc⟩, fun a e => ?_⟩
      cases e
      exact ⟨o, I.kIn _ o hk, hd⟩
    · have z : ∃ o, s.heap.get? p = some o ∧ o.ExactDict := by
        rcases hk with ⟨kvs, hk⟩ | ⟨kvs, hk⟩
        · obtain ⟨_, _, _, _, o, _, _, e, ex, _⟩ := I.hok p _ hk
          exact ⟨o, e, ex⟩
        · obtain ⟨_, _, _, _, o, _, _, e, ex, _⟩ := I.hok p _ hk
          exact ⟨o, e, ex⟩
      obtain ⟨o, e, ex⟩ := z
      refine ⟨⟨o, e, ex.1⟩, fun a e2 => ?_⟩
      cases e2
      exact ⟨o, e, ex.2.1⟩
    · obtain ⟨o, _, _, _, e, ex, _⟩ := I.hok p _ hk
      refine ⟨⟨o, e, ex.1⟩, fun a e2 => ?_⟩
      cases e2
      exact ⟨o, e, ex.2.1⟩
  | _ => exact False.elim ty
def tBM0 (K : PySem.W.Frag) (T : String) (r : V → List V → Hp → VK → Prop) (to : TE) : TE := fun σ H Q => to σ H fun x H1 => tyV K T x H1 ∧ r x [] H1 Q
def tBM (K : PySem.W.Frag) (T : String) (r : V → List V → Hp → VK → Prop) (to : TE) (t : TA) : TE := fun σ H Q => to σ H fun x H1 => tyV K T x H1 ∧ t σ H1 fun xs H2 => r x xs H2 Q
variable {o e : Expr} {es : List Expr} {to : TE} {t : TA} {name : Str} {apos cpos : Pos} {T id : String} {r : V → List V → Hp → VK → Prop}
theorem pe_bm0 (pa : PlainAttrs T) (slot : Slot T name id) (hty : typeOf (.builtin id) = pure (.type "method_descriptor")) (hm : MtR X id r) (ho : PE X o to)
    (hbase : attributeBase o name X.env (eval o X.env) = eval o X.env := by rfl) (hline : (apos.endLine == cpos.line) = true := by rfl) : PE X (.Call (.Attribute o name apos) [] [] cpos) (tBM0 X.K T r to) := by
  intro pins s σ H Q I h
  refine wpAny_Call_method0_late hbase hline (thn (ho pins s σ H _ I h) fun v s1 ⟨x, H1, I1, r1, ty, q1⟩ => ?_)
  obtain ⟨h1, h2⟩ := tyV_is I1 r1 ty
  exact ⟨T, id, pa, slot, hty, h1, h2, Calls.callWith_builtin rfl (PySem.evalArgs_none (hm pins s1 σ H1 x [] v [] Q I1 r1 .nil q1))⟩
theorem pe_bm (pa : PlainAttrs T) (slot : Slot T name id) (hty : typeOf (.builtin id) = pure (.type "method_descriptor")) (hm : MtR X id r) (ho : PE X o to) (ha : PA X (e :: es) t)
    (hbase : attributeBase o name X.env (eval o X.env) = eval o X.env := by rfl)
    (hfew : ((backTo cpos (starEach (e :: es) X.env)).all (fun x => !x.1) && (backToKw cpos (keywordEach [] X.env)).all (fun x => x.1.isSome)
      && decide ((e :: es).length + ([] : List Keyword).length + (if ([] : List Keyword).isEmpty then 0 else 1) < 30)) = true := by rfl)
    (hline : (apos.endLine == cpos.line) = true := by rfl) (hs : starEach (e :: es) X.env = (false, eval e X.env) :: starEach es X.env := by rfl) (hplain : (backTo cpos (starEach es X.env)).any (·.1) = false := by rfl) :
    PE X (.Call (.Attribute o name apos) (e :: es) [] cpos) (tBM X.K T r to t) := by
  intro pins s σ H Q I h
  refine wpAny_Call_method_late hbase hfew hline rfl (thn (ho pins s σ H _ I h) fun v s1 ⟨x, H1, I1, r1, ty, q1⟩ => ?_)
  obtain ⟨h1, h2⟩ := tyV_is I1 r1 ty
  refine ⟨T, id, pa, slot, hty, h1, h2, ?_⟩
  have hA := ha cpos pins s1 σ H1 _ I1 q1
  rw [hs] at hA ⊢
  refine Calls.callWith_builtin (by show (false || (backTo cpos (starEach es X.env)).any (·.1)) = false; rw [hplain] <;> rfl) (Calls.evalArgs_plain ?_)
  exact thn hA fun us s2 ⟨vs, H2, I2, r2, q2⟩ => hm pins s2 σ H2 x vs v us Q I2 r1 r2 q2
end
end L2

namespace L2
open PySem PySem.Spec PyProof.Rows

def MtM (X : Cx) (id : String) (r : V → List V → Hp → VK → Prop) : Prop :=
  ∀ (pins : List (Addr × Obj)) (s : Shared) (σ : St) (H : Hp) (x : V) (xs : List V) (v : Value) (us : List Value) (Q : VK), Inv X pins σ H s → RelV x v → Vals xs us → r x xs H Q →
    wpAny (model X.prog X.w) X.A (call (.builtin id) (v :: us)) (EP X pins σ Q) X.xe s

theorem Vals.one : ∀ {x : V} {us : List Value}, Vals [x] us → ∃ u, us = [u] ∧ RelV x u
  | _, _, .cons r .nil => ⟨_, rfl, r⟩
theorem Vals.two : ∀ {x y : V} {us : List Value}, Vals [x, y] us → ∃ u v, us = [u, v] ∧ RelV x u ∧ RelV y v
  | _, _, _, .cons r (.cons q .nil) => ⟨_, _, rfl, r, q⟩
theorem Vals.zero : ∀ {us : List Value}, Vals [] us → us = []
  | _, .nil => rfl
theorem Vals.dropLast {xs : List V} {us : List Value} (h : Vals xs us) : Vals xs.dropLast us.dropLast := by
  induction h with
  | nil => exact .nil
  | cons r t ih =>
    cases t with
    | nil => exact .nil
    | cons q t' => exact .cons r ih
theorem Vals.reverse {xs : List V} {us : List Value} (h : Vals xs us) : Vals xs.reverse us.reverse := by
  induction h with
  | nil => exact .nil
  | cons r t ih => rw [List.reverse_cons, List.reverse_cons]; exact Vals.append ih (.cons r .nil)
section
variable {X : Cx} {pins : List (Addr × Obj)} {σ : St} {H : Hp} {s : Shared} {l b : Addr} {xs ys zs : List V}

theorem Inv.lset {its its' : List Value} {n : Nat} {f : Array Value → Array Value} {t' : Nat} (I : Inv X pins σ H s) (hH : H l = some (.lst xs))
    (e : s.heap.get? l = some { cls := .type "list", data := .seq its.toArray n }) (hf : f its.toArray = its'.toArray) (hv : Vals ys its') (hz : ys.length ≤ sizeLine) :
    Inv X pins σ (upd H l (.lst ys)) { s with heap := s.heap.update l (Obj.mapSeq f), toks := t' } := by
  have q := PySem.IsL.update e f
  rw [hf] at q
  refine I.write (x := l) (e := l) (by rw [hH]; exact trivial) (.inl rfl) (fun b' u hb hu => (Heap.get?_update_other s.heap (Obj.mapSeq f) (Ne.symm hb)).trans hu) ⟨_, q⟩ ?_
  exact ⟨hz, its', _, hv, q⟩
theorem Inv.lnew {its : List Value} {t' : Nat} (I : Inv X pins σ H s) (hv : Vals ys its) (hz : ys.length ≤ sizeLine) :
    Inv X pins σ (upd H s.heap.objs.size (.lst ys)) { s with heap := s.heap.push { cls := .type "list", data := .seq its.toArray }, toks := t' } :=
  I.laid (fun _ _ q => Heap.get?_push_of_some _ q) (Nat.le_refl _) ⟨hz, its, 0, hv, Heap.get?_push_size _ rfl⟩
theorem Inv.fresh (I : Inv X pins σ H s) : H s.heap.objs.size = none := I.hok.fresh (Nat.le_refl _)
theorem Inv.lstM (I : Inv X pins σ H s) (hH : H l = some (.lst xs)) : xs.length ≤ sizeLine ∧ ∃ (its : List Value) (n : Nat), Vals xs its ∧ xs.length = its.length ∧ s.heap.get? l = some { cls := .type "list", data := .seq its.toArray n } := by
  obtain ⟨z, its, n, r, e⟩ := I.hok l _ hH
  exact ⟨z, its, n, r, r.length, e⟩

theorem notLongL {n : Nat} (h : n ≤ sizeLine) : Builtin.List.listTooLong n = false := by
  unfold Builtin.List.listTooLong
  exact decide_eq_false (by omega)
end

section
variable {X : Cx}

def rAppend : V → List V → Hp → VK → Prop := fun x vs H Q => ∃ l xs y, x = .ref l ∧ vs = [y] ∧ H l = some (.lst xs) ∧ xs.length < sizeLine ∧ Q .non (upd H l (.lst (xs ++ [y])))
theorem mt_append : MtM X "list.append" rAppend := by
  intro pins s σ H x vs v us Q I rx rv h
  obtain ⟨l, xs, y, rfl, rfl, hH, hz, q⟩ := h
  cases rx
  obtain ⟨u, rfl, ru⟩ := rv.one
  obtain ⟨z, its, n, r, hl, e⟩ := I.lstM hH
  refine call_meets F.slot_list_append ⟨_, e, rfl⟩ F.entry_list_append (F.args_list_append_2 _ _) (PySem.list_append l its.toArray n u (by rw [List.size_toArray]; omega)) ⟨e, ?_⟩
  refine ⟨.non, _, I.lset (its' := its ++ [u]) hH e (by simp) (r.append (.cons ru .nil)) ?_, rfl, q⟩
  rw [List.length_append, List.length_singleton]
  omega

def rExtend : V → List V → Hp → VK → Prop := fun x vs H Q => ∃ l b xs zs, x = .ref l ∧ vs = [.ref b] ∧ H l = some (.lst xs) ∧ H b = some (.lst zs) ∧ xs.length + zs.length ≤ sizeLine ∧ Q .non (upd H l (.lst (xs ++ zs)))
theorem mt_extend : MtM X "list.extend" rExtend := by
  intro pins s σ H x vs v us Q I rx rv h
  obtain ⟨l, b, xs, zs, rfl, rfl, hH, hB, hz, q⟩ := h
  cases rx
  obtain ⟨u, rfl, ru⟩ := rv.one
  cases ru
  obtain ⟨z, its, n, r, hl, e⟩ := I.lstM hH
  obtain ⟨z2, its2, n2, r2, hl2, e2⟩ := I.lstM hB
  have hsz : its.toArray.size + its2.toArray.size ≤ sizeLine := by rw [List.size_toArray, List.size_toArray]; omega
  have hlong : ¬ (!its.toArray.isEmpty && Builtin.List.listTooLong (its.toArray.size + its2.toArray.size)) = true := by
    rw [notLongL hsz, Bool.and_false]
    exact Bool.false_ne_true
  refine call_meets F.slot_list_extend ⟨_, e, rfl⟩ F.entry_list_extend (F.args_list_extend_2 _ _)
    (AutoSeq1.list_extend_list_list_0 l its.toArray n b its2.toArray n2 hlong (by rw [List.size_toArray]; omega) (by omega)) ⟨e, e2, ?_⟩
  refine ⟨.non, _, I.lset (its' := its ++ its2) hH e (by simp) (r.append r2) ?_, rfl, q⟩
  rw [List.length_append]
  omega

def rReverse : V → List V → Hp → VK → Prop := fun x vs H Q => ∃ l xs, x = .ref l ∧ vs = [] ∧ H l = some (.lst xs) ∧ Q .non (upd H l (.lst xs.reverse))
theorem mt_reverse : MtM X "list.reverse" rReverse := by
  intro pins s σ H x vs v us Q I rx rv h
  obtain ⟨l, xs, rfl, rfl, hH, q⟩ := h
  cases rx
  have hus := rv.zero
  subst hus
  obtain ⟨z, its, n, r, hl, e⟩ := I.lstM hH
  refine call_meets F.slot_list_reverse ⟨_, e, rfl⟩ F.entry_list_reverse (F.args_list_reverse_1 _) (AutoSeq1.list_reverse_list_0 l its.toArray n (by rw [List.size_toArray]; omega)) ⟨e, ?_⟩
  refine ⟨.non, _, I.lset (its' := its.reverse) hH e (by simp) r.reverse ?_, rfl, q⟩
  rw [List.length_reverse]
  omega

def rCat : R2 := fun x y H Q => ∃ l b xs zs, x = .ref l ∧ y = .ref b ∧ H l = some (.lst xs) ∧ H b = some (.lst zs) ∧ xs.length + zs.length ≤ sizeLine ∧ ∀ p, H p = none → Q (.ref p) (upd H p (.lst (xs ++ zs)))
theorem op_cat : OpR X (binaryOp .Add) rCat := by
  intro pins s σ H x y v u Q I rx ry h
  obtain ⟨l, b, xs, zs, rfl, rfl, hH, hB, hz, q⟩ := h
  cases rx
  cases ry
  obtain ⟨z, its, n, r, hl, e⟩ := I.lstM hH
  obtain ⟨z2, its2, n2, r2, hl2, e2⟩ := I.lstM hB
  refine PySem.P.add_list e e2 ?_ (by rw [List.size_toArray, List.size_toArray]; omega)
  have ea : its.toArray ++ its2.toArray = (its ++ its2).toArray := by simp
  rw [ea]
  exact ⟨.ref _, _, I.lnew (t' := s.toks) (r.append r2) (by rw [List.length_append]; omega), rfl, q _ I.fresh⟩
end

section
variable {prog : Program} {w : World} {A : Around} {E : Value → Shared → Prop} {s : Shared}
set_option maxRecDepth 100000 in
end

section
variable {X : Cx}
end
end L2

namespace L2
open PySem PySem.Spec PyProof.Rows

theorem Vals.ints : ∀ {ns : List Int} {us : List Value}, Vals (ns.map V.int) us → IntsAre us ns
  | [], us, h => by
    rw [List.map_nil] at h
    cases h
    exact IntsAre.nil
  | n :: ns, us, h => by
    rw [List.map_cons] at h
    cases h with
    | cons r t =>
      obtain ⟨k, rfl⟩ := r
      exact IntsAre.cons n k (Vals.ints t)
theorem Vals.strs : ∀ {xs : List Str} {us : List Value}, Vals (xs.map V.str) us → StrsAre us xs
  | [], us, h => by
    rw [List.map_nil] at h
    cases h
    exact StrsAre.nil
  | x :: xs, us, h => by
    rw [List.map_cons] at h
    cases h with
    | cons r t =>
      obtain ⟨k, rfl⟩ := r
      exact StrsAre.cons x k (Vals.strs t)
section
variable {prog : Program} {w : World} {A : Around} {E : Value → Shared → Prop} {s : Shared} {l : Addr} {its : List Value} {ns : List Int} {Q : Value → Shared → Prop}
end

section
variable {X : Cx}
end

section
variable {X : Cx}
end

section
variable {X : Cx}
end

section
variable {X : Cx}
end

mutual
inductive Dp (K : PySem.W.Frag) (H : Hp) : V → PyData → Prop
  | non : Dp K H .non .none
  | bl (b : Bool) : Dp K H (.bl b) (.bool b)
  | int (i : Int) : Dp K H (.int i) (.int i)
  | str (x : Str) : Dp K H (.str x) (.str x)
  | lst {a : Addr} {xs : List V} {ds : List PyData} : SqL K H a xs → DpAll K H xs ds → Dp K H (.ref a) (.list ds)
  | tup {a : Addr} {xs : List V} {ds : List PyData} : SqT K H a xs → DpAll K H xs ds → Dp K H (.ref a) (.tuple ds)
inductive DpAll (K : PySem.W.Frag) (H : Hp) : List V → List PyData → Prop
  | nil : DpAll K H [] []
  | cons {v : V} {vs : List V} {d : PyData} {ds : List PyData} : Dp K H v d → DpAll K H vs ds → DpAll K H (v :: vs) (d :: ds)
end
section
variable {X : Cx} {pins : List (Addr × Obj)} {σ : St} {H : Hp} {s : Shared}
mutual
theorem Dp.reads (I : Inv X pins σ H s) : ∀ (d : PyData) (v : V) (u : Value), Dp X.K H v d → RelV v u → ∃ as, Reads s.heap u d as
  | .none, _, _, h, r => by
    cases h
    cases r
    exact ⟨_, Reads.none⟩
  | .bool b, _, _, h, r => by
    cases h
    cases r
    exact ⟨_, Reads.bool b⟩
  | .int i, _, _, h, r => by
    cases h
    obtain ⟨t, rfl⟩ := r
    exact ⟨_, Reads.int i t⟩
  | .str x, _, _, h, r => by
    cases h
    obtain ⟨t, rfl⟩ := r
    exact ⟨_, Reads.str x t⟩
  | .list ds, _, _, h, r => by
    cases h with
    | lst hs ha =>
      cases r
      obtain ⟨its, rv, ⟨o, n, ho, hc, _, hd⟩, _⟩ := I.list hs
      obtain ⟨as, hr⟩ := Dp.readsAll I ds _ its ha rv
      exact ⟨_, Reads.list ho hc hd hr⟩
  | .tuple ds, _, _, h, r => by
    cases h with
    | tup hs ha =>
      cases r
      obtain ⟨its, rv, ⟨o, ho, hc, n, hd⟩, _⟩ := I.tuple hs
      obtain ⟨as, hr⟩ := Dp.readsAll I ds _ its ha rv
      exact ⟨_, Reads.tuple ho hc hd hr⟩
  | .dict _, _, _, h, _ => by cases h
theorem Dp.readsAll (I : Inv X pins σ H s) : ∀ (ds : List PyData) (vs : List V) (us : List Value), DpAll X.K H vs ds → Vals vs us → ∃ as, ReadsAll s.heap us ds as
  | [], _, _, h, r => by
    cases h
    cases r
    exact ⟨_, ReadsAll.nil⟩
  | d :: ds, _, _, h, r => by
    cases h with
    | cons h1 h2 =>
      cases r with
      | cons r1 r2 =>
        obtain ⟨as, q1⟩ := Dp.reads I d _ _ h1 r1
        obtain ⟨bs, q2⟩ := Dp.readsAll I ds _ _ h2 r2
        exact ⟨_, ReadsAll.cons q1 q2⟩
end
end
section
variable {X : Cx}
def rEqD (K : PySem.W.Frag) : R2 := fun x y H Q => ∃ d e, Dp K H x d ∧ Dp K H y e ∧ SeqAt.shaped d = true ∧ SeqAt.shaped e = true ∧ Q (.bl (PyData.eqv d e)) H
theorem op_eqD (hu : X.A.units + 64 < cLine) : OpR X (compareOp .Eq) (rEqD X.K) := by
  intro pins s σ H x y v u Q I rx ry h
  obtain ⟨d, e, hd, he, sd, se, q⟩ := h
  obtain ⟨as, r1⟩ := Dp.reads I d x v hd rx
  obtain ⟨bs, r2⟩ := Dp.reads I e y u he ry
  exact SeqAt.compareEq_shaped r1 r2 sd se hu ⟨.bl _, H, I, rfl, q⟩
end
end L2

namespace L2
open PySem PySem.Spec PyProof.Rows
abbrev CellAt (h : Heap) (c : Addr) (v : Option Value) : Prop := h.IsCell c v
def relS (scope sc : Scope) : Scope :=
  { scope with names := scope.names.map fun (n, k) => if (k == .free && sc.kind == .function && sc.names.lookup n == some .cell) then (n, .cell) else (n, k) }

def cloFrom (cells : List (Str × Addr)) : List (Str × NameKind) → List (Str × Addr) → List (Str × Addr)
  | [], acc => acc
  | (n, k) :: r, acc => if k == .free then cloFrom cells r ((n, (cells.lookup n).getD 0) :: acc) else cloFrom cells r acc

theorem closure_loop (env : Env) (f : Str × NameKind → List (Str × Addr) → Sem (ForInStep (List (Str × Addr))))
    (hf : ∀ n k c, f (n, k) c = if k == .free then (do let a ← cellOf env n; pure (.yield ((n, a) :: c))) else pure (.yield c)) :
    ∀ (names : List (Str × NameKind)) (acc : List (Str × Addr)), (∀ y ∈ names, y.2 = .free → ∃ c, env.cells.lookup y.1 = some c) → forIn names acc f = pure (cloFrom env.cells names acc)
  | [], acc, _ => by rw [List.forIn_nil]; rfl
  | (n, k) :: r, acc, h => by
    rw [List.forIn_cons, hf]
    have ih := fun acc => closure_loop env f hf r acc fun y hy => h y (List.mem_cons_of_mem _ hy)
    unfold cloFrom
    by_cases hk : (k == NameKind.free) = true
    · rw [if_pos hk, if_pos hk]
      obtain ⟨c, hc⟩ := h (n, k) List.mem_cons_self (by simpa using hk)
      have e : cellOf env n = pure c := by unfold cellOf; rw [hc]
      rw [e]
      have e2 : (env.cells.lookup n).getD 0 = c := by rw [hc]; rfl
      rw [e2]
      exact ih _
    · rw [if_neg hk, if_neg hk]
      exact ih _
theorem closure_ok {scope : Scope} {env : Env} (h : ∀ y ∈ scope.names, y.2 = .free → ∃ c, env.cells.lookup y.1 = some c) : closureFor scope env = pure (cloFrom env.cells scope.names []) := by
  simp only [closureFor]
  rw [closure_loop env _ (fun n k c => rfl) scope.names [] h]
  rfl

theorem mem_lookup {α : Type} : ∀ {l : List (Str × α)} {n : Str} {c : α}, (n, c) ∈ l → ∃ c', l.lookup n = some c'
  | (k, v) :: r, n, c, h => by
    rw [List.lookup_cons]
    cases hb : n == k with
    | true => exact ⟨_, rfl⟩
    | false =>
      rcases List.mem_cons.mp h with e | h
      · cases e; simp at hb
      · exact mem_lookup h

theorem cloFrom_mem {cells : List (Str × Addr)} : ∀ {names : List (Str × NameKind)} {acc : List (Str × Addr)} {n : Str} {c : Addr}, (n, c) ∈ cloFrom cells names acc → (n, c) ∈ acc ∨ ((n, .free) ∈ names ∧ c = (cells.lookup n).getD 0)
  | [], _, _, _, h => .inl h
  | (m, k) :: r, acc, n, c, h => by
    unfold cloFrom at h
    split at h
    · rename_i hk
      have hk : k = .free := by simpa using hk
      rcases cloFrom_mem h with h | ⟨h1, h2⟩
      · rcases List.mem_cons.mp h with e | h
        · cases e; exact .inr ⟨hk ▸ List.mem_cons_self, rfl⟩
        · exact .inl h
      · exact .inr ⟨List.mem_cons_of_mem _ h1, h2⟩
    · rcases cloFrom_mem h with h | ⟨h1, h2⟩
      · exact .inl h
      · exact .inr ⟨List.mem_cons_of_mem _ h1, h2⟩
theorem cloFrom_acc {cells : List (Str × Addr)} : ∀ {names : List (Str × NameKind)} {acc : List (Str × Addr)} {p : Str × Addr}, p ∈ acc → p ∈ cloFrom cells names acc
  | [], _, _, h => h
  | (m, k) :: r, acc, p, h => by
    unfold cloFrom
    split
    · exact cloFrom_acc (List.mem_cons_of_mem _ h)
    · exact cloFrom_acc h
theorem cloFrom_has {cells : List (Str × Addr)} : ∀ {names : List (Str × NameKind)} {acc : List (Str × Addr)} {n : Str}, (n, .free) ∈ names → (n, (cells.lookup n).getD 0) ∈ cloFrom cells names acc
  | (m, k) :: r, acc, n, h => by
    unfold cloFrom
    rcases List.mem_cons.mp h with e | h
    · cases e
      exact cloFrom_acc List.mem_cons_self
    · split
      · exact cloFrom_has h
      · exact cloFrom_has h

theorem cells_mem : ∀ {names : List (Str × NameKind)} {h : Heap} {acc : List (Str × Addr)} {x : Str} {c : Addr}, (x, c) ∈ cellsFrom h.objs.size names acc →
    (x, c) ∈ acc ∨ ((x, .cell) ∈ names ∧ h.objs.size ≤ c ∧ CellAt (pushCells h names) c none)
  | [], _, _, _, _, h => .inl h
  | (n, k) :: r, h, acc, x, c, hm => by
    unfold cellsFrom at hm
    unfold pushCells
    split at hm
    · rename_i hk
      rw [if_pos hk]
      have hk : k = .cell := by simpa using hk
      rw [← Heap.size_push h { cls := .type "cell", data := .cell none }] at hm
      rcases cells_mem hm with hm | ⟨h1, h2, h3⟩
      · rcases List.mem_cons.mp hm with e | hm
        · cases e
          exact .inr ⟨hk ▸ List.mem_cons_self, Nat.le_refl _, _, pushCells_keeps r _ _ _ (Heap.get?_push_size _ rfl), rfl⟩
        · exact .inl hm
      · rw [Heap.size_push] at h2
        exact .inr ⟨List.mem_cons_of_mem _ h1, Nat.le_of_succ_le h2, h3⟩
    · rename_i hk
      rw [if_neg hk]
      rcases cells_mem hm with hm | ⟨h1, h2, h3⟩
      · exact .inl hm
      · exact .inr ⟨List.mem_cons_of_mem _ h1, h2, h3⟩
theorem cells_acc : ∀ {names : List (Str × NameKind)} {n : Nat} {acc : List (Str × Addr)} {p : Str × Addr}, p ∈ acc → p ∈ cellsFrom n names acc
  | [], _, _, _, h => h
  | (m, k) :: r, n, acc, p, h => by
    unfold cellsFrom
    split
    · exact cells_acc (List.mem_cons_of_mem _ h)
    · exact cells_acc h
theorem cells_has : ∀ {names : List (Str × NameKind)} {n : Nat} {acc : List (Str × Addr)} {x : Str}, (x, .cell) ∈ names → ∃ c, (x, c) ∈ cellsFrom n names acc
  | (m, k) :: r, n, acc, x, h => by
    unfold cellsFrom
    rcases List.mem_cons.mp h with e | h
    · cases e
      exact ⟨n, cells_acc List.mem_cons_self⟩
    · split
      · exact cells_has h
      · exact cells_has h
theorem cells_inj : ∀ {names : List (Str × NameKind)} {h : Heap} {acc : List (Str × Addr)} {x y : Str} {c : Addr}, (∀ p ∈ acc, p.2 < h.objs.size) → (∀ x y c, (x, c) ∈ acc → (y, c) ∈ acc → x = y) →
    (x, c) ∈ cellsFrom h.objs.size names acc → (y, c) ∈ cellsFrom h.objs.size names acc → x = y
  | [], _, _, _, _, _, _, hi, h1, h2 => hi _ _ _ h1 h2
  | (n, k) :: r, h, acc, x, y, c, hl, hi, h1, h2 => by
    unfold cellsFrom at h1 h2
    split at h1
    · rename_i hk
      rw [if_pos hk] at h2
      rw [← Heap.size_push h { cls := .type "cell", data := .cell none }] at h1 h2
      refine cells_inj (h := h.push _) (fun p hp => ?_) (fun x y c a b => ?_) h1 h2
      · rw [Heap.size_push]
        rcases List.mem_cons.mp hp with rfl | hp
        · exact Nat.lt_succ_self _
        · exact Nat.lt_succ_of_lt (hl p hp)
      · rcases List.mem_cons.mp a with e | a <;> rcases List.mem_cons.mp b with e' | b
        · cases e; cases e'; rfl
        · cases e; exact absurd (hl _ b) (Nat.lt_irrefl _)
        · cases e'; exact absurd (hl _ a) (Nat.lt_irrefl _)
        · exact hi _ _ _ a b
    · rename_i hk
      rw [if_neg hk] at h2
      exact cells_inj hl hi h1 h2

theorem newEnv_comp {M : Model} {A : Around} {E : Value → Shared → Prop} {s : Shared} {scope : Scope} {globals : Addr} {closure : List (Str × Addr)} {qual : Str} {func : Option Addr} {code : Value} {around : Env} {builtins : Addr} {Q : Env → Shared → Prop}
    (h : Q (newEnv scope s.heap.objs.size globals (cellsFrom (s.heap.objs.size + 1) scope.names closure) qual func code (some around) builtins)
      { s with heap := pushCells (s.heap.push { cls := .type "dict", data := .dict #[] }) scope.names }) :
    wpAny M A (newFunctionEnv scope globals closure [] qual func code (some around) builtins) Q E s := by
  simp only [newFunctionEnv, Option.isSome_some, if_true]
  refine wpAny_bind (wpAny_alloc ?_)
  refine wpAny_bind (wpAny_layCells _ (fun n k c => rfl) scope.names closure _ _ ?_)
  rw [show ({ s with heap := s.heap.push { cls := .type "dict", data := .dict #[] } } : Shared).heap.objs.size = s.heap.objs.size + 1 from Heap.size_push ..]
  rw [List.forIn_nil]
  exact wpAny_bind (wpAny_pure (wpAny_pure h))

/-- every name of the written scope, in the scope that runs -/
theorem lookup_relS {sc : Scope} : ∀ {names : List (Str × NameKind)} {x : Str} {k : NameKind},
    (names.map fun (n, k) => if (k == NameKind.free && sc.kind == .function && sc.names.lookup n == some .cell) then (n, NameKind.cell) else (n, k)).lookup x = some k →
    ∃ k', names.lookup x = some k' ∧ (k = k' ∨ (k' = .free ∧ k = .cell))
  | [], _, _, h => by simp at h
  | (n, k₀) :: r, x, k, h => by
    have ih := @lookup_relS sc r x k
    have h' : List.lookup x ((if (k₀ == NameKind.free && sc.kind == .function && sc.names.lookup n == some .cell) = true then (n, NameKind.cell) else (n, k₀)) :: (r.map _)) = some k := h
    cases hx : x == n with
    | true =>
      simp only [List.lookup_cons, hx]
      by_cases hc : (k₀ == NameKind.free && sc.kind == .function && sc.names.lookup n == some .cell) = true
      · rw [if_pos hc] at h'
        simp only [List.lookup_cons, hx] at h'
        cases h'
        simp only [Bool.and_eq_true, beq_iff_eq] at hc
        exact ⟨k₀, rfl, .inr ⟨hc.1.1, rfl⟩⟩
      · rw [if_neg hc] at h'
        simp only [List.lookup_cons, hx] at h'
        cases h'
        exact ⟨_, rfl, .inl rfl⟩
    | false =>
      simp only [List.lookup_cons, hx]
      by_cases hc : (k₀ == NameKind.free && sc.kind == .function && sc.names.lookup n == some .cell) = true
      · rw [if_pos hc] at h'
        simp only [List.lookup_cons, hx] at h'
        exact ih h'
      · rw [if_neg hc] at h'
        simp only [List.lookup_cons, hx] at h'
        exact ih h'
/-- the names of a comprehension's block: its own (with their places in N), or captured -/
structure BlkOk (N : List Str) (sc scope : Scope) (own : List (Str × Nat)) : Prop where
  kind : scope.kind = .function
  uniq : ∀ y ∈ scope.names, scope.names.lookup y.1 = some y.2
  ix : ∀ p ∈ own, N[p.2]? = some p.1
  free : ∀ y ∈ scope.names, y.2 = .free → sc.names.lookup y.1 = some .cell ∨ sc.names.lookup y.1 = some .free
  own : ∀ y ∈ scope.names, y.2 = .local ∨ y.2 = .cell → y.1 ∈ own.map (·.1) ∨ y.1 ∉ N
/-- the slots of the block's own names forgotten -/
def wipe (σ : St) : List Nat → St
  | [] => σ
  | v :: vs => (wipe σ vs).set v none
theorem wipe_length (σ : St) : ∀ vs : List Nat, (wipe σ vs).length = σ.length
  | [] => rfl
  | v :: vs => by unfold wipe; rw [List.length_set, wipe_length σ vs]
theorem wipe_some {σ : St} {i : Nat} {x : V} : ∀ {vs : List Nat}, (wipe σ vs)[i]? = some (some x) → σ[i]? = some (some x) ∧ i ∉ vs
  | [], h => ⟨h, by simp⟩
  | v :: vs, h => by
    unfold wipe at h
    by_cases hi : v = i
    · subst hi
      by_cases hv : v < (wipe σ vs).length
      · rw [List.getElem?_set_self hv] at h; cases h
      · rw [List.getElem?_eq_none (by simpa using hv)] at h; cases h
    · rw [List.getElem?_set_ne hi] at h
      obtain ⟨h1, h2⟩ := wipe_some h
      exact ⟨h1, by simp only [List.mem_cons, not_or]; exact ⟨fun e => hi e.symm, h2⟩⟩

/-- the context of a block that starts at s, its iterator's objects at fp -/
abbrev Cx.blk (X : Cx) (s : Shared) (H : Hp) (scope : Scope) (cenv : Env) (fp : List Addr) : Cx := { X with s₀ := s, H₀ := H, env := cenv, outer := X.stack, ex := fp, fn := fun x => scope.names.lookup x == some .cell, pn := [], xe := fun _ _ => False }
section
variable {X : Cx} {pins : List (Addr × Obj)} {σ : St} {H : Hp} {s : Shared}
theorem block_start {scope : Scope} {own : List (Str × Nat)} {fp : List Addr} (I : Inv X pins σ H s) (ok : BlkOk X.N X.env.scope scope own) (hN : X.N.Nodup) (hfp : ∀ b ∈ fp, FpOk X pins H b ∧ b < s.heap.objs.size) :
    Inv (X.blk s H scope (compEnvC scope (cellsFrom (s.heap.objs.size + 1) scope.names (cloFrom X.env.cells scope.names [])) s.heap.objs.size X.env) fp) [] (wipe σ (own.map (·.2))) H { s with heap := pushCells (s.heap.push { cls := .type "dict", data := .dict #[] }) scope.names } := by
  have hfree : ∀ y ∈ scope.names, y.2 = .free → ∃ c, X.env.cells.lookup y.1 = some c := fun y hy e => by
    rcases ok.free y hy e with k | k
    · exact I.ok.has _ (.inl k)
    · exact I.ok.has _ (.inr k)
  generalize hcenv : compEnvC scope (cellsFrom (s.heap.objs.size + 1) scope.names (cloFrom X.env.cells scope.names [])) s.heap.objs.size X.env = cenv
  have kp : ∀ b o, s.heap.get? b = some o → (pushCells (s.heap.push { cls := .type "dict", data := .dict #[] }) scope.names).get? b = some o := fun b o e => pushCells_keeps _ _ _ _ (Heap.get?_push_of_some _ e)
  have hL : cenv.locals = s.heap.objs.size := by rw [← hcenv]; rfl
  have hcl : cenv.cells = cellsFrom (s.heap.objs.size + 1) scope.names (cloFrom X.env.cells scope.names []) := by rw [← hcenv]; rfl
  have hsc : cenv.scope = relS scope X.env.scope := by rw [← hcenv]; rfl
  rw [← Heap.size_push s.heap { cls := .type "dict", data := .dict #[] }] at hcl
  have cm : ∀ {y c}, (y, c) ∈ cloFrom X.env.cells scope.names [] → X.env.cells.lookup y = some c ∧ c < s.heap.objs.size := fun {y c} hm => by
    rcases cloFrom_mem hm with hm | ⟨h1, rfl⟩
    · cases hm
    · obtain ⟨c, hc⟩ := hfree _ h1 rfl
      rw [hc]
      obtain ⟨w, z⟩ := I.cell _ _ hc
      exact ⟨rfl, z.lt⟩
  have mem : ∀ {y c}, cenv.cells.lookup y = some c → (X.env.cells.lookup y = some c ∧ c < s.heap.objs.size) ∨ (s.heap.objs.size + 1 ≤ c ∧ CellAt (pushCells (s.heap.push { cls := .type "dict", data := .dict #[] }) scope.names) c none) := fun {y c} e => by
    rw [hcl] at e
    rcases cells_mem (PySem.mem_of_lookup e) with hm | ⟨_, h2, h3⟩
    · exact .inl (cm hm)
    · rw [Heap.size_push] at h2; exact .inr ⟨h2, h3⟩
  have look : ∀ {y}, scope.names.lookup y = some .free → ∃ c, cenv.cells.lookup y = some c ∧ X.env.cells.lookup y = some c := fun {y} hl => by
    have hy : (y, NameKind.free) ∈ scope.names := PySem.mem_of_lookup hl
    obtain ⟨c', e'⟩ := mem_lookup (cells_acc (names := scope.names) (n := (s.heap.push { cls := .type "dict", data := .dict #[] }).objs.size) (cloFrom_has (cells := X.env.cells) (acc := []) hy))
    rw [← hcl] at e'
    refine ⟨c', e', ?_⟩
    rw [hcl] at e'
    rcases cells_mem (PySem.mem_of_lookup e') with hm | ⟨h1, _, _⟩
    · exact (cm hm).1
    · have := ok.uniq _ h1
      rw [hl] at this; cases this
  have okB : (X.blk s H scope cenv fp).Ok := by
    refine ⟨I.ok.mod, by show cenv.scope.kind = _; rw [hsc]; exact ok.kind, by show cenv.globals = _; rw [← hcenv]; exact I.ok.glob, by show cenv.builtins = _; rw [← hcenv]; exact I.ok.blt, by show s.heap.objs.size ≤ cenv.locals; rw [hL]; exact Nat.le_refl _,
      fun y z c e1 e2 => ?_, fun y hy => ?_, fun y c z e => ?_, I.ok.hd, I.ok.frames, .inl rfl, fun b hb => ⟨?_, fun y c e z => ?_⟩, I.bs, Nat.le_trans I.ok.bsz I.sz, fun b o e hb => ?_, fun b hb z => ?_, I.stack, I.stkFree⟩
    · have e1 : cenv.cells.lookup y = some c := e1
      have e2 : cenv.cells.lookup z = some c := e2
      rw [hcl] at e1 e2
      refine cells_inj (fun p hp => ?_) (fun y z c a b => I.ok.inj y z c (cm a).1 (cm b).1) (PySem.mem_of_lookup e1) (PySem.mem_of_lookup e2)
      rw [Heap.size_push]
      exact Nat.lt_succ_of_lt (cm (y := p.1) (c := p.2) hp).2
    · show ∃ c, cenv.cells.lookup y = some c
      have key : ∀ k, cenv.kindOf y = some k → (k = .cell ∨ k = .free) → ∃ c, cenv.cells.lookup y = some c := fun k hk hk' => by
        unfold Env.kindOf at hk
        rw [hsc] at hk
        obtain ⟨k', e, r⟩ := lookup_relS hk
        have : k' = .cell ∨ k' = .free := by
          rcases r with rfl | ⟨rfl, _⟩
          · exact hk'
          · exact .inr rfl
        rcases this with rfl | rfl
        · obtain ⟨c, hm⟩ := cells_has (n := (s.heap.push { cls := .type "dict", data := .dict #[] }).objs.size) (acc := cloFrom X.env.cells scope.names []) (PySem.mem_of_lookup e)
          obtain ⟨c', e'⟩ := mem_lookup hm
          exact ⟨c', by rw [hcl]; exact e'⟩
        · obtain ⟨c, h1, _⟩ := look e
          exact ⟨c, h1⟩
      rcases hy with hy | hy
      · exact key _ hy (.inl rfl)
      · exact key _ hy (.inr rfl)
    · have z : (scope.names.lookup y == some NameKind.cell) = true := z
      have z : scope.names.lookup y = some .cell := by simpa using z
      have e : cenv.cells.lookup y = some c := e
      rw [hcl] at e
      rcases cells_mem (PySem.mem_of_lookup e) with hm | ⟨_, h2, _⟩
      · rcases cloFrom_mem hm with hm | ⟨h1, _⟩
        · cases hm
        · have q := ok.uniq _ h1
          rw [z] at q; cases q
      · rw [Heap.size_push] at h2
        exact Nat.le_of_succ_le h2
    · show b ≠ cenv.locals
      rw [hL]; exact Nat.ne_of_lt (hfp b hb).2
    · have e : cenv.cells.lookup y = some c := e
      rcases mem e with ⟨h1, _⟩ | ⟨h1, _⟩
      · exact (hfp b hb).1.2.2.2.2.1 y c h1 z
      · have h2 : s.heap.objs.size + 1 ≤ b := by rw [← z]; exact h1
        exact absurd (Nat.lt_of_lt_of_le (hfp b hb).2 (Nat.le_of_succ_le h2)) (Nat.lt_irrefl _)
    · rcases (hfp b hb).1.2.2.2.1 with z | z
      · exact I.ok.noex b o e z
      · exact absurd (Nat.lt_of_lt_of_le (Heap.lt_size e) (Nat.le_trans I.ok.bsz z)) (Nat.lt_irrefl _)
    · rcases List.mem_cons.mp (I.stkSub b z) with z | z
      · exact (hfp b hb).1.2.1 z
      · exact (hfp b hb).1.2.2.1 z
  refine ⟨okB, rfl, I.bare, Un.kept kp, ⟨fun _ => none, ?_, fun i y av e1 e2 e3 => ?_⟩, fun y c e => ?_, ?_, fun y c e => ?_, fun p hp => ?_, I.hok.kept kp, by rw [wipe_length]; exact I.len⟩
  · show Heap.Ns _ cenv.locals _
    rw [hL]
    exact Heap.Ns.keeps (Heap.Ns.new ..) fun b o e => pushCells_keeps _ _ _ _ e
  · obtain ⟨e2, hne⟩ := wipe_some e2
    have hfr : scope.names.lookup y = some .free ∧ (cenv.kindOf y = some .cell ∨ cenv.kindOf y = some .free) := by
      have key : ∀ k, cenv.scope.names.lookup y = some k → k = .local ∨ k = .cell ∨ k = .free → scope.names.lookup y = some .free ∧ (cenv.kindOf y = some .cell ∨ cenv.kindOf y = some .free) := fun k hk hk' => by
        have hk0 := hk
        rw [hsc] at hk
        obtain ⟨k', e, r⟩ := lookup_relS hk
        have no : ¬ (k' = .local ∨ k' = .cell) := fun hh => by
          rcases ok.own _ (PySem.mem_of_lookup e) hh with e' | e'
          · obtain ⟨p, hp, hpy⟩ := List.mem_map.mp e'
            have e3 := ok.ix p hp
            have : p.1 = y := hpy
            rw [this] at e3
            exact hne (List.mem_map.mpr ⟨p, hp, nodup_ix hN e3 e1⟩)
          · exact e' (List.mem_of_getElem? e1)
        rcases r with rfl | ⟨rfl, rfl⟩
        · rcases hk' with rfl | rfl | rfl
          · exact absurd (.inl rfl) no
          · exact absurd (.inr rfl) no
          · exact ⟨e, .inr hk0⟩
        · exact ⟨e, .inl hk0⟩
      have e3 : Vis cenv.scope y := e3
      rcases e3 with e3 | e3 | e3
      · exact key _ e3 (.inl rfl)
      · exact key _ e3 (.inr (.inl rfl))
      · exact key _ e3 (.inr (.inr rfl))
    obtain ⟨m, hn, hl⟩ := I.loc
    have hvis : Vis X.env.scope y := (ok.free _ (PySem.mem_of_lookup hfr.1) rfl).elim (fun k => .inr (.inl k)) (fun k => .inr (.inr k))
    obtain ⟨w, r, q⟩ := hl i y av e1 e2 hvis
    refine ⟨w, r, .inr ⟨hfr.2, ?_⟩⟩
    obtain ⟨c, h1, h2⟩ := look hfr.1
    rcases q with ⟨k, _⟩ | ⟨_, c', e', z⟩
    · have k : X.env.scope.names.lookup y = some .local := k
      rcases ok.free _ (PySem.mem_of_lookup hfr.1) rfl with k' | k' <;> rw [show X.env.scope.names.lookup y = _ from k'] at k <;> cases k
    · rw [h2] at e'; cases e'
      exact ⟨c, h1, z.keeps kp⟩
  · have e : cenv.cells.lookup y = some c := e
    rcases mem e with ⟨h1, _⟩ | ⟨_, z⟩
    · obtain ⟨w, z⟩ := I.cell y c h1
      exact ⟨w, z.keeps kp⟩
    · exact ⟨_, z⟩
  · show H cenv.locals = none
    rw [hL]; exact I.hok.fresh (Nat.le_refl _)
  · have e : cenv.cells.lookup y = some c := e
    rcases mem e with ⟨h1, _⟩ | ⟨h1, _⟩
    · exact I.freeC y c h1
    · exact I.hok.fresh (Nat.le_of_succ_le h1)
  · exact absurd (show p ∈ ([] : List (Addr × Obj)) ++ [] from hp) (by simp)

/-- an item appended to a tracked list -/
theorem app_ok {E : Value → Shared → Prop} {D : Addr} {xs : List V} {y : V} {v : Value} {Q : Value → Shared → Prop} (I : Inv X pins σ H s) (hD : H D = some (.lst xs)) (hz : xs.length < sizeLine) (r : RelV y v)
    (h : ∀ s', Inv X pins σ (upd H D (.lst (xs ++ [y]))) s' → Q .none s') : wpAny (model X.prog X.w) X.A (call (.builtin "list.append") [.ref D, v]) Q E s := by
  obtain ⟨hz', its, n, ri, e⟩ := I.hok D _ hD
  have hl := ri.length
  refine append_at (hsz := by rw [List.size_toArray]; omega) e fun h' sb ho' => ?_
  refine h { s with heap := h' } (I.write (t' := s.toks) (by rw [hD]; trivial) (.inl rfl) (fun b u hb q => (sb.2 b hb).trans q) ⟨_, ho'⟩ ⟨by rw [List.length_append]; exact hz, its ++ [v], n + 1, ri.append (.cons r .nil), ?_⟩)
  rw [ho']
  simp

/-- a clause's tests -/
def PTs (X : Cx) (ifs : List Expr) (t : TT) : Prop :=
  ∀ (pins : List (Addr × Obj)) (s : Shared) (σ : St) (H : Hp) (Q : Bool → Hp → Prop), Inv X pins σ H s → t σ H Q →
    wpAny (model X.prog X.w) X.A (forIn ifs true fun c r => if r = true then do let ok ← isTrue c X.env (eval c X.env); pure (ForInStep.yield ok) else pure (ForInStep.yield r)) (TP X pins σ Q) X.xe s
def tYes : TT := fun _ H Q => Q true H
theorem pts_nil : PTs X [] tYes := fun _ _ _ H _ I h => wpAny_tests_nil ⟨H, I, h⟩
end

theorem thnF {α : Type} {t : Sem α} {Q Q' : α → Shared → Prop} {M : Model} {A : Around} {E : Value → Shared → Prop} {s : Shared} (h : wpAny M A t Q (fun _ _ => False) s) (hQ : ∀ a s, Q a s → Q' a s) : wpAny M A t Q' E s := wpAny_mono h hQ fun _ _ z => False.elim z

/-- the loop of a list comprehension's block, the target of any form (codeAny_compLoop_tests asks a target that no tuple goes to; statement and proof follow it, PyProof/CompMap.lean:41-61, with the step letOwnedTupleGo kept) -/
theorem compLoop_any {prog : Program} {w : World} {A : Around} {R : Result → Shared → Prop} {s : Shared} {elt target iter : Expr} {ifs : List Expr} {scope : Scope} {pos : Pos} {it acc : Value} {env : Env} (I : Nat → Shared → Prop)
    (turn : ∀ n s, I n s → wpAny (model prog w) A (pyNext it) (fun r s₁ => match r with
      | none => R (.ok .next) s₁
      | some v => wpAny (model prog w) A (letOwnedTupleGo target it v) (fun _ s₁' => wpAny (model prog w) A (assign target env v) (fun _ s₂ =>
          wpAny (model prog w) A (forIn ifs true fun c r => if r = true then do let ok ← isTrue c env (eval c env); pure (ForInStep.yield ok) else pure (ForInStep.yield r)) (fun ok s₃ =>
            if ok = true then wpAny (model prog w) A (eval elt env) (fun x s₄ =>
              wpAny (model prog w) A (call (.builtin "list.append") [acc, x]) (fun _ s₅ => ∃ m, m < n ∧ I m s₅) (notedBy (model prog w) A env fun e s' => R (.error e) s') s₄) (notedBy (model prog w) A env fun e s' => R (.error e) s') s₃
            else ∃ m, m < n ∧ I m s₃) (notedBy (model prog w) A env fun e s' => R (.error e) s') s₂) (notedBy (model prog w) A env fun e s' => R (.error e) s') s₁') (notedBy (model prog w) A env fun e s' => R (.error e) s') s₁) (notedBy (model prog w) A env fun e s' => R (.error e) s') s)
    (n : Nat) (h : I n s) :
    codeAny (model prog w) A (.compLoop (.ListComp elt [⟨target, iter, ifs, 0⟩] scope pos) 0 it acc env) R s := by
  refine codeAny_loop rfl I (fun n s hI => ?_) n h
  show wpAny _ A ((compTurn (.ListComp elt [⟨target, iter, ifs, 0⟩] scope pos) 0 it acc env).onRaise (fun x => do noteFrame x env; theTreesLotGoes x)) _ _ s
  refine wpAny_noted ?_
  rw [compTurn_list]
  refine wpAny_bind (wpAny_standAt (wpAny_bind (wpAny_mono (turn n s hI) (fun r s₁ h₁ => ?_) fun _ _ h' => h')))
  cases r with
  | none => exact wpAny_pure h₁
  | some v =>
    refine wpAny_bind (wpAny_mono h₁ (fun _ s₁' h₁' => ?_) fun _ _ h' => h')
    refine wpAny_bind (wpAny_mono h₁' (fun _ s₂ h₂ => wpAny_bind (wpAny_mono h₂ (fun ok s₃ h₃ => ?_) fun _ _ h' => h')) fun _ _ h' => h')
    cases ok with
    | false => exact wpAny_pure ⟨rfl, h₃⟩
    | true =>
      exact wpAny_bind (wpAny_bind (wpAny_mono h₃ (fun x s₄ h₄ => wpAny_bind (wpAny_mono h₄ (fun _ s₅ h₅ => wpAny_pure (wpAny_pure ⟨rfl, h₅⟩)) fun _ _ h' => h')) fun _ _ h' => h'))

section
variable {X : Cx}
/-- [elt for target in iter if ..]: D the new list; W by the turn and a measure, Nx what a turn is to reach -/
def tLc (wi : TI) (g : TG) (tt : TT) (te : TE) (vs : List Nat) : TE := fun σ H Q => wi σ H fun J H1 => ∀ D, H1 D = none → ∃ W : Nat → Nat → Hp → Prop, (∃ m, W 0 m (upd H1 D (.lst []))) ∧ ∀ i m H, W i m H →
  (J.stop i H ∧ Q (.ref D) H) ∨ (J.go i H ∧ ∃ Nx : Hp → Prop, (∀ H', Nx H' → ∃ m', m' < m ∧ W (i + 1) m' H') ∧ ∀ x H', J.yld i H x H' → g x (wipe σ vs) H' fun σ2 H2 => wipe σ2 vs = wipe σ vs ∧ tt σ2 H2 fun b H3 =>
    if b = true then te σ2 H3 fun y H4 => ∃ acc, H4 D = some (.lst acc) ∧ acc.length < sizeLine ∧ Nx (upd H4 D (.lst (acc ++ [y]))) else Nx H3)
theorem lc_core {pins : List (Addr × Obj)} {s : Shared} {σ : St} {H : Hp} {Q : VK} {elt tg iter : Expr} {ifs : List Expr} {scope : Scope} {own : List (Str × Nat)} {pos pos' : Pos} {wi : TI} {g : TG} {tt : TT} {te : TE} {use : Option (Value → Sem Unit)} {Qf : Value → Shared → Prop}
    (hc : X.calm = true) (hN : X.N.Nodup) (I : Inv X pins σ H s) (hi : PI X tg iter wi) (ok : BlkOk X.N X.env.scope scope own)
    (hg : ∀ (s : Shared) (H : Hp) (C : Addr) (cl : List (Str × Addr)) (fp : List Addr), PG (X.blk s H scope (compEnvC scope cl C X.env) fp) tg g) (ht : ∀ (s : Shared) (H : Hp) (C : Addr) (cl : List (Str × Addr)) (fp : List Addr), PTs (X.blk s H scope (compEnvC scope cl C X.env) fp) ifs tt)
    (he : ∀ (s : Shared) (H : Hp) (C : Addr) (cl : List (Str × Addr)) (fp : List Addr), PE (X.blk s H scope (compEnvC scope cl C X.env) fp) elt te) (hs : ∀ x, foldedSetIterable iter X.env x = pure x)
    (h : tLc wi g tt te (own.map (·.2)) σ H Q)
    (hRR : ∀ D C s' m H', Inv X pins σ H' s' → Q (.ref D) H' → s'.heap.Ns C m → FpOk X pins H' C → compPost (model X.prog X.w) X.A X.xe use Qf (.ref D) C (.ok .next) s') :
    wpAny (model X.prog X.w) X.A (comprehension (.ListComp elt [⟨tg, iter, ifs, 0⟩] scope pos) scope X.env pos' (newList []) false (eval iter X.env) use) Qf X.xe s := by
  have hfree : ∀ y ∈ scope.names, y.2 = .free → ∃ c, X.env.cells.lookup y.1 = some c := fun y hy e => by
    rcases ok.free y hy e with k | k
    · exact I.ok.has _ (.inl k)
    · exact I.ok.has _ (.inr k)
  refine wpAny_comprehension_free (use := use) rfl hs (closure_ok hfree) ok.kind (fun y hy e => by rw [ok.uniq y hy, e])
    (thn (hi pins s σ H _ I h) fun xv s1 hx => thn hx fun itv s2 h2 => ?_)
  obtain ⟨it, fp, tn, J, H2, e, I2, T, st2, f2, q⟩ := h2
  subst e
  refine wpAny_newObj_type (newEnv_comp ?_) (by show 0 ≤ sizeLine; decide)
  generalize hD : s2.heap.objs.size = D
  have hDn : H2 D = none := I2.hok.fresh (Nat.le_of_eq hD)
  obtain ⟨W, ⟨m0, w0⟩, turn⟩ := q D hDn
  -- the new list
  generalize hs3 : ({ s2 with heap := s2.heap.push { cls := .type "list", data := .seq ([] : List Value).toArray } } : Shared) = s3
  have I3 : Inv X pins σ (upd H2 D (.lst [])) s3 := by
    rw [← hs3]
    refine I2.laid (t' := s2.toks) (fun b o e => Heap.get?_push_of_some _ e) (Nat.le_of_eq hD) ⟨Nat.zero_le _, [], 0, .nil, ?_⟩
    rw [← hD]
    exact Heap.get?_push_size _ rfl
  have h3 : s3.heap = s2.heap.push { cls := .type "list", data := .seq ([] : List Value).toArray } := by rw [← hs3]
  have sz : ∀ b ∈ fp, b < s2.heap.objs.size := fun b hb => by
    obtain ⟨o, e, _⟩ := T.obj _ _ st2 b hb
    exact Heap.lt_size e
  have f3 : ∀ b ∈ fp, FpOk X pins (upd H2 D (.lst [])) b ∧ b < s3.heap.objs.size := fun b hb => by
    have hlt := sz b hb
    refine ⟨⟨?_, (f2 b hb).2⟩, by rw [h3, Heap.size_push]; exact Nat.lt_succ_of_lt hlt⟩
    rw [upd_ne (by rw [← hD]; exact Nat.ne_of_lt hlt)]
    exact (f2 b hb).1
  have st3 : tn 0 s3.heap := T.keep _ _ _ st2 fun b _ o e => by rw [h3]; exact Heap.get?_push_of_some _ e
  have I4 := block_start I3 ok hN f3
  have pg := hg s3 (upd H2 D (.lst [])) s3.heap.objs.size (cellsFrom (s3.heap.objs.size + 1) scope.names (cloFrom X.env.cells scope.names [])) fp
  have pt := ht s3 (upd H2 D (.lst [])) s3.heap.objs.size (cellsFrom (s3.heap.objs.size + 1) scope.names (cloFrom X.env.cells scope.names [])) fp
  have pe := he s3 (upd H2 D (.lst [])) s3.heap.objs.size (cellsFrom (s3.heap.objs.size + 1) scope.names (cloFrom X.env.cells scope.names [])) fp
  show codeAny _ _ (.compStart (.ListComp elt [⟨tg, iter, ifs, 0⟩] scope pos) 0 (.ref it) (.ref D) (compEnvC scope (cellsFrom (s3.heap.objs.size + 1) scope.names (cloFrom X.env.cells scope.names [])) s3.heap.objs.size X.env)) (compPost (model X.prog X.w) X.A X.xe use Qf (.ref D) s3.heap.objs.size) { s3 with heap := pushCells (s3.heap.push { cls := .type "dict", data := .dict #[] }) scope.names }
  have nfp : ∀ b ∈ fp, (upd H2 D (.lst [])) b = none := fun b hb => (f3 b hb).1.1
  generalize hce : compEnvC scope (cellsFrom (s3.heap.objs.size + 1) scope.names (cloFrom X.env.cells scope.names [])) s3.heap.objs.size X.env = ce at I4 pg pt pe ⊢
  have cL : ce.locals = s3.heap.objs.size := by subst hce; rfl
  generalize hH3 : upd H2 D (.lst []) = H3 at I3 I4 pg pt pe w0 nfp f3
  generalize hs4 : ({ s3 with heap := pushCells (s3.heap.push { cls := .type "dict", data := .dict #[] }) scope.names } : Shared) = s4 at I4 ⊢
  have st4 : tn 0 s4.heap := T.keep _ _ _ st3 fun b _ o e => by rw [← hs4]; exact pushCells_keeps _ _ _ _ (Heap.get?_push_of_some _ e)
  have stat : ∀ {σ' : St} {H' : Hp} {s' : Shared}, Inv (X.blk s3 H3 scope ce fp) [] σ' H' s' → (∀ b ∈ fp, H' b = none) → ∀ b ∈ fp, FpOk (X.blk s3 H3 scope ce fp) [] H' b := fun {σ' H' s'} I' hn b hb =>
    ⟨hn b hb, (I'.ok.exf b hb).1, I'.ok.exfs b hb, .inl hb, fun x c e => (I'.ok.exf b hb).2 x c e, fun p hp => absurd (show p ∈ ([] : List (Addr × Obj)) ++ [] from hp) (by simp)⟩
  have loop : codeAny (model X.prog X.w) X.A (.compLoop (.ListComp elt [⟨tg, iter, ifs, 0⟩] scope pos) 0 (.ref it) (.ref D) ce) (compPost (model X.prog X.w) X.A X.xe use Qf (.ref D) s3.heap.objs.size) s4 := by
    refine compLoop_any (fun n s' => ∃ i H', Inv (X.blk s3 H3 scope ce fp) [] (wipe σ (own.map (·.2))) H' s' ∧ tn i s'.heap ∧ (∀ b ∈ fp, H' b = none) ∧ W i n H') ?_ m0 ⟨0, H3, I4, st4, nfp, w0⟩
    rintro n s5 ⟨i, H5, I5, st5, n5, w5⟩
    rcases turn i n H5 w5 with ⟨stop, qq⟩ | ⟨go, Nx, hNx, step⟩
    · have td := T.done (X.blk s3 H3 scope ce fp) rfl rfl rfl hc i [] s5 _ H5 (fun _ _ => False) I5 (stat I5 n5) st5 stop
      refine thnF td fun r s6 ⟨hr, I6⟩ => ?_
      subst hr
      -- back in the def's context
      have I7 : Inv X pins σ H5 s6 := I3.call' (ch := fp) I6.os I6.base I6.hok I6.bare fun b hb => ⟨(f3 b hb).1.2.2.2.1, (f3 b hb).1.2.1, (f3 b hb).1.2.2.2.2.1, (f3 b hb).1.2.2.2.2.2⟩
      have nC : H5 s3.heap.objs.size = none := by
        have z : H5 ce.locals = none := I6.free
        rw [cL] at z
        exact z
      obtain ⟨m, hn, _⟩ := I6.loc
      have hn : s6.heap.Ns ce.locals m := hn
      rw [cL] at hn
      exact hRR D s3.heap.objs.size s6 m H5 I7 qq hn (I3.fpOk (Nat.le_refl _) nC)
    · have ti := T.item (X.blk s3 H3 scope ce fp) rfl rfl rfl hc i [] s5 _ H5 (fun _ _ => False) I5 (stat I5 n5) st5 go
      refine thnF ti fun r s6 ⟨u, hr, h6⟩ => ?_
      subst hr
      refine thnF h6 fun _ s7 ⟨x, H7, I7, r7, y7, st7, n7⟩ => ?_
      have I7' := I7.pinned (stat I7 n7) (T.obj _ _ st7)
      refine thnF (pg _ s7 _ H7 x u _ I7' r7 (step x H7 y7)) fun _ s8 ⟨σ8, H8, I8, hw8, q8⟩ => ?_
      refine thnF (pt _ s8 σ8 H8 _ I8 q8) fun b s9 ⟨H9, I9, q9⟩ => ?_
      -- the turn's end
      have fin : ∀ {s' : Shared} {H' : Hp}, Inv (X.blk s3 H3 scope ce fp) ([] ++ pinsAt fp s7.heap) σ8 H' s' → Nx H' → ∃ m, m < n ∧ ∃ i H', Inv (X.blk s3 H3 scope ce fp) [] (wipe σ (own.map (·.2))) H' s' ∧ tn i s'.heap ∧ (∀ b ∈ fp, H' b = none) ∧ W i m H' := fun {s' H'} I' nx => by
        obtain ⟨m', hm, w'⟩ := hNx H' nx
        have pin' : ∀ b ∈ fp, ∀ o, s7.heap.get? b = some o → s'.heap.get? b = some o ∧ H' b = none := fun b hb o e =>
          let z := I'.pin (b, o) (List.mem_append_right _ (List.mem_append_right _ (mem_pinsAt hb e)))
          ⟨z.1, z.2.1⟩
        have hl : (wipe σ (own.map (·.2))).length = σ8.length := by rw [← hw8, wipe_length]
        refine ⟨m', hm, i + 1, H', (I'.unpinned (pins := [])).weak hl (fun j v e => ?_), T.keep _ _ _ st7 fun b hb o e => (pin' b hb o e).1, fun b hb => ?_, w'⟩
        · rw [← hw8] at e
          exact (wipe_some e).1
        · obtain ⟨o, e, _⟩ := T.obj _ _ st7 b hb
          exact (pin' b hb o e).2
      cases b with
      | false =>
        simp only [Bool.false_eq_true, if_false] at q9 ⊢
        exact fin I9 q9
      | true =>
        simp only [if_true] at q9 ⊢
        refine thnF (pe _ s9 σ8 H9 _ I9 q9) fun z s10 ⟨yv, H10, I10, r10, acc, hD10, hz10, nx⟩ => ?_
        exact app_ok (X := X.blk s3 H3 scope ce fp) I10 hD10 hz10 r10 fun s11 I11 => fin I11 nx
  exact codeAny_compStart_list loop (T.self X.A 0 _ _ _ st4 loop)
/-- as a value -/
theorem pe_lc {elt tg iter : Expr} {ifs : List Expr} {scope : Scope} {own : List (Str × Nat)} {pos : Pos} {wi : TI} {g : TG} {tt : TT} {te : TE} (hc : X.calm = true) (hN : X.N.Nodup) (hi : PI X tg iter wi) (ok : BlkOk X.N X.env.scope scope own)
    (hg : ∀ (s : Shared) (H : Hp) (C : Addr) (cl : List (Str × Addr)) (fp : List Addr), PG (X.blk s H scope (compEnvC scope cl C X.env) fp) tg g) (ht : ∀ (s : Shared) (H : Hp) (C : Addr) (cl : List (Str × Addr)) (fp : List Addr), PTs (X.blk s H scope (compEnvC scope cl C X.env) fp) ifs tt)
    (he : ∀ (s : Shared) (H : Hp) (C : Addr) (cl : List (Str × Addr)) (fp : List Addr), PE (X.blk s H scope (compEnvC scope cl C X.env) fp) elt te) (hs : ∀ x, foldedSetIterable iter X.env x = pure x := by intro _; rfl) :
    PE X (.ListComp elt [⟨tg, iter, ifs, 0⟩] scope pos) (tLc wi g tt te (own.map (·.2))) := by
  intro pins s σ H Q I h
  rw [eval_ListComp]
  refine lc_core hc hN I hi ok hg ht he hs h fun D C s' m H' I' q hn f => ⟨m, hn, fun h'' sb => ?_⟩
  obtain ⟨f0, f1, f2, f3, f4, f5⟩ := f
  exact ⟨.ref D, H', I'.turned (t' := s'.toks) (fun b o hb e => (sb.2 b hb).trans e) f0 f1 f3 f4 f5, rfl, q⟩
/-- name = [..] on one line, the name a local -/
theorem ps_setLc {i : Nat} {y : Str} {py : Pos} {elt tg iter : Expr} {ifs : List Expr} {scope : Scope} {own : List (Str × Nat)} {pos spos : Pos} {wi : TI} {g : TG} {tt : TT} {te : TE} (hc : X.calm = true) (hN : X.N.Nodup) (hy : X.N[i]? = some y) (hyl : X.env.scope.names.lookup y = some .local)
    (hsw : swapsWith (.ListComp elt [⟨tg, iter, ifs, 0⟩] scope pos) (some (.Name y py)) spos.line X.env = pure true) (hi : PI X tg iter wi) (ok : BlkOk X.N X.env.scope scope own)
    (hg : ∀ (s : Shared) (H : Hp) (C : Addr) (cl : List (Str × Addr)) (fp : List Addr), PG (X.blk s H scope (compEnvC scope cl C X.env) fp) tg g) (ht : ∀ (s : Shared) (H : Hp) (C : Addr) (cl : List (Str × Addr)) (fp : List Addr), PTs (X.blk s H scope (compEnvC scope cl C X.env) fp) ifs tt)
    (he : ∀ (s : Shared) (H : Hp) (C : Addr) (cl : List (Str × Addr)) (fp : List Addr), PE (X.blk s H scope (compEnvC scope cl C X.env) fp) elt te) (hs : ∀ x, foldedSetIterable iter X.env x = pure x := by intro _; rfl) :
    PS X (.Assign [.Name y py] (.ListComp elt [⟨tg, iter, ifs, 0⟩] scope pos) spos) (tAsg (tLc wi g tt te (own.map (·.2))) (gName i)) := by
  intro pins s σ H D I h
  rw [exec_Assign_Name_used _ _ _ _ hsw]
  refine wpAny_bind (wpAny_standAt (wpAny_bind ?_))
  show wpAny _ X.A (do let _ ← comprehension (.ListComp elt [⟨tg, iter, ifs, 0⟩] scope pos) scope X.env (firstIterPos [⟨tg, iter, ifs, 0⟩] pos) (newList []) false (eval iter X.env) (some (assign (.Name y py) X.env))) _ _ s
  have h : tLc wi g tt te (own.map (·.2)) σ H (fun x H1 => gName i x σ H1 D.nx) := h
  refine wpAny_bind (thn (lc_core (Qf := fun _ s' => SP X pins D .next s') hc hN I hi ok hg ht he hs h fun L C s' m H' I' q hn f => ?_) fun _ s' hq => wpAny_pure (wpAny_pure hq))
  show wpAny _ _ (assign (.Name y py) X.env (.ref L)) _ _ _
  refine wpAny_assign_Name (store_ok2 (v := V.ref L) I' hN hy (.inl hyl) rfl (fun s2 I2 ⟨a, sb, ha⟩ => ?_) (.inr hyl))
  obtain ⟨f0, f1, f2, f3, f4, f5⟩ := f
  have haC : C ≠ a := by
    rcases ha with z | z
    · rw [z]; exact f1
    · exact fun e => f4 y a z e.symm
  refine ⟨m, hn.sameBut sb haC, fun h3 sb3 => ?_⟩
  exact ⟨_, H', I2.turned (t' := s2.toks) (fun b o hb e => (sb3.2 b hb).trans e) f0 f1 f3 f4 f5, q⟩
theorem sw_true {elt : Expr} {gs : List Comprehension} {scope : Scope} {pos py : Pos} {y : Str} {l : Nat} {env : Env} (hk : env.scope.kind = .function) (hy : env.scope.names.lookup y = some .local) (hl : (py.line == pos.line) = true)
    (ha : (scope.names.any fun (n, k) => n == y && (k == .local || k == .cell)) = false) : swapsWith (.ListComp elt gs scope pos) (some (.Name y py)) l env = pure true := by
  have ky : env.kindOf y = some .local := hy
  have hb : env.blockKind = .function := by unfold Env.blockKind; rw [hk]; rfl
  unfold swapsWith
  simp only [hb, ky, ha, Expr.pos, hl]
  rfl
end

/-- over a range: Pv by the turn and the heap (the new list at D within) -/
theorem lc_range {lo : Int} {n : Nat} {g : TG} {tt : TT} {te : TE} {vs : List Nat} {σ : St} {H1 : Hp} {D : Addr} {Qd : Hp → Prop} (Pv : Nat → Hp → Prop) (h0 : Pv 0 (upd H1 D (.lst [])))
    (hs : ∀ i H, i < n → Pv i H → g (.int (lo + i)) (wipe σ vs) H fun σ2 H2 => wipe σ2 vs = wipe σ vs ∧ tt σ2 H2 fun b H3 =>
      if b = true then te σ2 H3 fun y H4 => ∃ acc, H4 D = some (.lst acc) ∧ acc.length < sizeLine ∧ Pv (i + 1) (upd H4 D (.lst (acc ++ [y]))) else Pv (i + 1) H3) (hd : ∀ H, Pv n H → Qd H) :
    ∃ W : Nat → Nat → Hp → Prop, (∃ m, W 0 m (upd H1 D (.lst []))) ∧ ∀ i m H, W i m H →
      ((Itr lo n).stop i H ∧ Qd H) ∨ ((Itr lo n).go i H ∧ ∃ Nx : Hp → Prop, (∀ H', Nx H' → ∃ m', m' < m ∧ W (i + 1) m' H') ∧ ∀ x H', (Itr lo n).yld i H x H' → g x (wipe σ vs) H' fun σ2 H2 => wipe σ2 vs = wipe σ vs ∧ tt σ2 H2 fun b H3 =>
        if b = true then te σ2 H3 fun y H4 => ∃ acc, H4 D = some (.lst acc) ∧ acc.length < sizeLine ∧ Nx (upd H4 D (.lst (acc ++ [y]))) else Nx H3) := by
  refine ⟨fun i m H => m = n - i ∧ i ≤ n ∧ Pv i H, ⟨n, by simp, Nat.zero_le _, h0⟩, ?_⟩
  rintro i m H ⟨rfl, hi, p⟩
  by_cases hlt : i < n
  · refine .inr ⟨hlt, Pv (i + 1), fun H' p' => ⟨n - (i + 1), by omega, rfl, hlt, p'⟩, fun x H' y => ?_⟩
    obtain ⟨e, y⟩ := y
    subst e y
    exact hs i _ hlt p
  · have e : i = n := by omega
    subst e
    exact .inl ⟨Nat.le_refl _, hd H p⟩
/-- over a list that the block leaves as it is -/
theorem lc_list {K : PySem.W.Frag} {a : Addr} {xs : List V} {g : TG} {tt : TT} {te : TE} {vs : List Nat} {σ : St} {H1 : Hp} {D : Addr} {Qd : Hp → Prop} (Pv : Nat → Hp → Prop) (h0 : Pv 0 (upd H1 D (.lst []))) (hl : ∀ i H, i ≤ xs.length → Pv i H → SqL K H a xs)
    (hs : ∀ i x H, xs[i]? = some x → Pv i H → g x (wipe σ vs) H fun σ2 H2 => wipe σ2 vs = wipe σ vs ∧ tt σ2 H2 fun b H3 =>
      if b = true then te σ2 H3 fun y H4 => ∃ acc, H4 D = some (.lst acc) ∧ acc.length < sizeLine ∧ Pv (i + 1) (upd H4 D (.lst (acc ++ [y]))) else Pv (i + 1) H3) (hd : ∀ H, Pv xs.length H → Qd H) :
    ∃ W : Nat → Nat → Hp → Prop, (∃ m, W 0 m (upd H1 D (.lst []))) ∧ ∀ i m H, W i m H →
      ((Itl K a).stop i H ∧ Qd H) ∨ ((Itl K a).go i H ∧ ∃ Nx : Hp → Prop, (∀ H', Nx H' → ∃ m', m' < m ∧ W (i + 1) m' H') ∧ ∀ x H', (Itl K a).yld i H x H' → g x (wipe σ vs) H' fun σ2 H2 => wipe σ2 vs = wipe σ vs ∧ tt σ2 H2 fun b H3 =>
        if b = true then te σ2 H3 fun y H4 => ∃ acc, H4 D = some (.lst acc) ∧ acc.length < sizeLine ∧ Nx (upd H4 D (.lst (acc ++ [y]))) else Nx H3) := by
  refine ⟨fun i m H => m = xs.length - i ∧ i ≤ xs.length ∧ Pv i H, ⟨xs.length, by simp, Nat.zero_le _, h0⟩, ?_⟩
  rintro i m H ⟨rfl, hi, p⟩
  have q := hl i H hi p
  by_cases hlt : i < xs.length
  · refine .inr ⟨⟨xs, xs[i], q, by simp [hlt]⟩, Pv (i + 1), fun H' p' => ⟨xs.length - (i + 1), by omega, rfl, hlt, p'⟩, fun x H' y => ?_⟩
    obtain ⟨e, y⟩ := y
    subst e
    exact hs i x _ (y xs q) p
  · have e : i = xs.length := by omega
    subst e
    exact .inl ⟨⟨xs, q, Nat.le_refl _⟩, hd H p⟩
def blkC (N : List Str) (sc scope : Scope) (own : List (Str × Nat)) : Bool :=
  (match scope.kind with | .function => true | _ => false) && (scope.names.all fun y => decide (scope.names.lookup y.1 = some y.2)) && (own.all fun p => decide (N[p.2]? = some p.1)) &&
    (scope.names.all fun y => match y.2 with
      | .free => (match sc.names.lookup y.1 with | some .cell => true | some .free => true | _ => false)
      | .local => decide (y.1 ∈ own.map (·.1)) || decide (y.1 ∉ N)
      | .cell => decide (y.1 ∈ own.map (·.1)) || decide (y.1 ∉ N)
      | _ => true)
theorem blkOk_by {N : List Str} {sc scope : Scope} {own : List (Str × Nat)} (h : blkC N sc scope own = true) : BlkOk N sc scope own := by
  unfold blkC at h
  simp only [Bool.and_eq_true, List.all_eq_true, decide_eq_true_eq] at h
  obtain ⟨⟨⟨h1, h2⟩, h3⟩, h4⟩ := h
  refine ⟨?_, h2, h3, fun y hy e => ?_, fun y hy e => ?_⟩
  · split at h1
    · assumption
    · cases h1
  · have q := h4 y hy
    simp only [e] at q
    split at q <;> first | exact .inl (by assumption) | exact .inr (by assumption) | cases q
  · have q := h4 y hy
    rcases e with e | e <;> (simp only [e, Bool.or_eq_true, decide_eq_true_eq] at q; exact q)
end L2

namespace L2
open PySem PySem.Spec PyProof.Rows

section
variable {prog : Program} {w : World} {A : Around} {R : Result → Shared → Prop} {s : Shared} {elt t0 i0 t1 i1 : Expr} {ifs0 ifs1 : List Expr} {scope : Scope} {pos : Pos} {it acc : Value} {env : Env}
end

section
variable {X : Cx}
end
end L2

namespace L2
open PySem PySem.Spec PyProof.Rows

section
variable {κ : Type} [DecidableEq κ]
def valV (kvs : List (κ × V)) (k : κ) : Option V := (kvs.find? fun kv => decide (kv.1 = k)).map (·.2)
/-- in its place, or at the end -/
def putK (kvs : List (κ × V)) (k : κ) (v : V) : List (κ × V) :=
  if (kvs.any fun kv => decide (kv.1 = k)) = true then kvs.map (fun kv => if kv.1 = k then (kv.1, v) else kv) else kvs ++ [(k, v)]
def dropK (kvs : List (κ × V)) (k : κ) : List (κ × V) := kvs.filter fun kv => decide (kv.1 ≠ k)

theorem valV_pos {p : κ × V} {r : List (κ × V)} {k : κ} (e : p.1 = k) : valV (p :: r) k = some p.2 := by simp [valV, List.find?_cons, e]
theorem valV_neg {p : κ × V} {r : List (κ × V)} {k : κ} (e : ¬ p.1 = k) : valV (p :: r) k = valV r k := by simp [valV, List.find?_cons, e]
theorem valV_any (k : κ) : ∀ kvs : List (κ × V), (kvs.any fun kv => decide (kv.1 = k)) = (valV kvs k).isSome
  | [] => rfl
  | p :: r => by
    rw [List.any_cons]
    by_cases e : p.1 = k
    · simp only [valV_pos e, decide_eq_true e, Bool.true_or, Option.isSome_some]
    · rw [valV_neg e, decide_eq_false e, Bool.false_or]; exact valV_any k r
theorem length_putK (kvs : List (κ × V)) (k : κ) (v : V) : (putK kvs k v).length ≤ kvs.length + 1 := by
  unfold putK
  split
  · rw [List.length_map]; omega
  · rw [List.length_append, List.length_cons, List.length_nil]; omega
theorem putK_new {kvs : List (κ × V)} {k : κ} (v : V) (h : valV kvs k = none) : putK kvs k v = kvs ++ [(k, v)] := by
  unfold putK
  rw [valV_any, h]
  exact if_neg (by decide)

theorem RelO.isSome_eq {o : Option V} {u : Option Value} (r : RelO o u) : o.isSome = u.isSome := by
  cases o with
  | none => cases u with
    | none => rfl
    | some _ => exact (show False from r).elim
  | some _ => cases u with
    | none => exact (show False from r).elim
    | some _ => rfl
theorem RelO.getD {o : Option V} {u : Option Value} {d : V} {d' : Value} (r : RelO o u) (rd : RelV d d') : RelV (o.getD d) (u.getD d') := by
  cases o with
  | none => cases u with
    | none => exact rd
    | some _ => exact (show False from r).elim
  | some _ => cases u with
    | none => exact (show False from r).elim
    | some _ => exact r

/-- raw tables of the same keys -/
theorem KV.val {kvs : List (κ × V)} {vs : List (κ × Value)} (r : KV kvs vs) (k : κ) : RelO (valV kvs k) (valueAt vs k) := by
  unfold KV at r
  induction r with
  | nil => exact True.intro
  | @cons p q ps qs h t ih =>
    obtain ⟨h1, h2⟩ := h
    by_cases e : p.1 = k
    · have e' : q.1 = k := h1.symm.trans e
      have b : valueAt (q :: qs) k = some q.2 := by simp [valueAt, List.find?_cons, e']
      rw [valV_pos e, b]; exact h2
    · have e' : ¬ q.1 = k := fun z => e (h1.trans z)
      have b : valueAt (q :: qs) k = valueAt qs k := by simp [valueAt, List.find?_cons, e']
      rw [valV_neg e, b]; exact ih
theorem KV.any {kvs : List (κ × V)} {vs : List (κ × Value)} (r : KV kvs vs) (k : κ) : (kvs.any fun kv => decide (kv.1 = k)) = vs.any fun kv => decide (kv.1 = k) := by
  unfold KV at r
  induction r with
  | nil => rfl
  | cons h t ih => rw [List.any_cons, List.any_cons, ih, h.1]
theorem KV.repl {kvs : List (κ × V)} {vs : List (κ × Value)} (r : KV kvs vs) (k : κ) {y : V} {u : Value} (ry : RelV y u) :
    KV (kvs.map fun kv => if kv.1 = k then (kv.1, y) else kv) (vs.map fun kv => if kv.1 = k then (kv.1, u) else kv) := by
  unfold KV at r ⊢
  induction r with
  | nil => exact .nil
  | @cons p q ps qs h t ih =>
    rw [List.map_cons, List.map_cons]
    refine .cons ?_ ih
    obtain ⟨h1, h2⟩ := h
    by_cases e : p.1 = k
    · rw [if_pos e, if_pos (h1.symm.trans e)]; exact ⟨h1, ry⟩
    · rw [if_neg e, if_neg (fun z => e (h1.trans z))]; exact ⟨h1, h2⟩
theorem KV.put {kvs : List (κ × V)} {vs : List (κ × Value)} (r : KV kvs vs) (k : κ) {y : V} {u : Value} (ry : RelV y u) : KV (putK kvs k y) (stored vs k u) := by
  unfold putK stored
  rw [r.any k]
  by_cases e : (vs.any fun kv => decide (kv.1 = k)) = true
  · rw [if_pos e, if_pos e]; exact r.repl k ry
  · rw [if_neg e, if_neg e]; exact Paired.snoc r ⟨rfl, ry⟩
theorem KV.drop {kvs : List (κ × V)} {vs : List (κ × Value)} (r : KV kvs vs) (k : κ) : KV (dropK kvs k) (without vs k) := by
  unfold KV at r ⊢
  unfold dropK without
  induction r with
  | nil => exact .nil
  | @cons p q ps qs h t ih =>
    obtain ⟨h1, h2⟩ := h
    rw [List.filter_cons, List.filter_cons]
    by_cases e : p.1 = k
    · have a : ¬ decide (p.1 ≠ k) = true := by simp [e]
      have b : ¬ decide (q.1 ≠ k) = true := by simp [h1.symm.trans e]
      rw [if_neg a, if_neg b]; exact ih
    · have e' : ¬ q.1 = k := fun z => e (h1.trans z)
      have a : decide (p.1 ≠ k) = true := by simp [e]
      have b : decide (q.1 ≠ k) = true := by simp [e']
      rw [if_pos a, if_pos b]; exact .cons ⟨h1, h2⟩ ih
theorem KV.keys {kvs : List (κ × V)} {vs : List (κ × Value)} (r : KV kvs vs) : kvs.map (·.1) = vs.map (·.1) := by
  unfold KV at r
  induction r with
  | nil => rfl
  | cons h t ih => rw [List.map_cons, List.map_cons, ih, h.1]
theorem KV.length {kvs : List (κ × V)} {vs : List (κ × Value)} (r : KV kvs vs) : kvs.length = vs.length := Paired.length r
end


theorem kV_is {P : Program} {w : World} {k : Key} {u : Value} (r : RelV (kV k) u) : (mixKind P w).is k u = true := by
  cases k with
  | inl i => obtain ⟨t, e⟩ := (show ∃ t, u = Value.int i t from r); subst e; exact mixKind_int P w i t
  | inr x => obtain ⟨t, e⟩ := (show ∃ t, u = Value.str x t from r); subst e; exact mixKind_str P w x t
theorem items_are {P : Program} {w : World} : ∀ {ks : List Key} {us : List Value}, Vals (ks.map kV) us → ItemsAre (mixKind P w) ks us
  | [], _, r => by rw [List.map_nil] at r; cases r; exact .nil
  | k :: ks, _, r => by
    rw [List.map_cons] at r
    cases r with
    | cons h t => exact .cons (kV_is h) (items_are t)

/-- raw entries of a dict with tuple keys -/
abbrev KT (H : Hp) : List (List Key × V) → List (List Key × Addr × Value) → Prop := Paired fun p q => p.1 = q.1 ∧ H q.2.1 = some (.tup (p.1.map kV)) ∧ RelV p.2 q.2.2
theorem KT.val {H : Hp} {kvs : List (List Key × V)} {xs : List (List Key × Addr × Value)} (r : KT H kvs xs) (k : List Key) : RelO (valV kvs k) ((atKey xs k).map (·.2)) := by
  induction r with
  | nil => exact True.intro
  | @cons p q ps qs h t ih =>
    obtain ⟨h1, _, h2⟩ := h
    by_cases e : p.1 = k
    · have e' : q.1 = k := h1.symm.trans e
      have b : atKey (q :: qs) k = some q.2 := by simp [atKey, List.find?_cons, e']
      rw [valV_pos e, b]; exact h2
    · have e' : ¬ q.1 = k := fun z => e (h1.trans z)
      have b : atKey (q :: qs) k = atKey qs k := by simp [atKey, List.find?_cons, e']
      rw [valV_neg e, b]; exact ih
theorem KT.repl {H : Hp} {kvs : List (List Key × V)} {xs : List (List Key × Addr × Value)} (r : KT H kvs xs) (k : List Key) {y : V} {u : Value} (ry : RelV y u) :
    KT H (kvs.map fun kv => if kv.1 = k then (kv.1, y) else kv) (xs.map (putAt k u)) := by
  induction r with
  | nil => exact .nil
  | @cons p q ps qs h t ih =>
    rw [List.map_cons, List.map_cons]
    refine .cons ?_ ih
    obtain ⟨h1, h2, h3⟩ := h
    unfold putAt
    by_cases e : p.1 = k
    · rw [if_pos e, if_pos (h1.symm.trans e)]; exact ⟨h1, h2, ry⟩
    · rw [if_neg e, if_neg (fun z => e (h1.trans z))]; exact ⟨h1, h2, h3⟩
theorem KT.put {H : Hp} {kvs : List (List Key × V)} {xs : List (List Key × Addr × Value)} (r : KT H kvs xs) (k : List Key) {b : Addr} {y : V} {u : Value} (hb : H b = some (.tup (k.map kV))) (ry : RelV y u) :
    KT H (putK kvs k y) (storedH xs k b u) := by
  have e : (kvs.any fun kv => decide (kv.1 = k)) = (atKey xs k).isSome := by
    rw [valV_any, (r.val k).isSome_eq, Option.isSome_map]
  unfold putK storedH
  rw [e]
  by_cases q : (atKey xs k).isSome = true
  · rw [if_pos q, if_pos q]; exact r.repl k ry
  · rw [if_neg q, if_neg q]; exact Paired.snoc r ⟨rfl, hb, ry⟩
theorem KT.keeps {H H' : Hp} {kvs : List (List Key × V)} {xs : List (List Key × Addr × Value)} (r : KT H kvs xs) (ht : ∀ b ys, H b = some (.tup ys) → H' b = some (.tup ys)) : KT H' kvs xs :=
  Paired.mapP r fun _ _ z => ⟨z.1, ht _ _ z.2.1, z.2.2⟩

section
variable {P : Program} {w : World} {H : Hp} {h : Heap} {a : Addr}
theorem rd_of {u : HO} (ok : HOk P w H h) (e : Rd H a u) : ObjOk P w H h a u := e.ok ok
theorem dk_rd {kvs : List (Key × V)} (ok : HOk P w H h) (e : Rd H a (.dK kvs)) : kvs.length ≤ sizeLine ∧ (a == sysModules) = false ∧ ∃ vs, KV kvs vs ∧ h.DictOf (mixKind P w) a vs :=
  show ObjOk P w H h a (.dK kvs) from rd_of ok e
theorem dk_of {kvs : List (Key × V)} (ok : HOk P w H h) (e : H a = some (.dK kvs)) : kvs.length ≤ sizeLine ∧ (a == sysModules) = false ∧ ∃ vs, KV kvs vs ∧ h.DictOf (mixKind P w) a vs := dk_rd ok (.inl e)
/-- a tracked tuple of ints and texts is a key -/
theorem key_of {ks : List Key} (ok : HOk P w H h) (e : H a = some (.tup (ks.map kV))) : (tupleKind (mixKind P w)).is h ks a := by
  obtain ⟨_, its, r, o, h1, h2, n, h3⟩ := (show ObjOk P w H h a (.tup (ks.map kV)) from ok a _ e)
  exact ⟨o, its.toArray, n, h1, h2, h3, by simpa using items_are r⟩
theorem dt_rd {kvs : List (List Key × V)} (ok : HOk P w H h) (e : Rd H a (.dT kvs)) : kvs.length ≤ sizeLine ∧ (a == sysModules) = false ∧
    ∃ xs, KT H kvs xs ∧ h.DictOfH (tupleKind (mixKind P w)) a xs := by
  obtain ⟨z, y, xs, r, o, es, ep, h1, h2, h3, h4, h5⟩ := (show ObjOk P w H h a (.dT kvs) from rd_of ok e)
  refine ⟨z, y, xs, r, o, es, ep, h1, h2, h3, h4, fun x hx => ?_, h5⟩
  have all : ∀ {l : List (List Key × V)} {m : List (List Key × Addr × Value)}, KT H l m → ∀ x ∈ m, (tupleKind (mixKind P w)).is h x.1 x.2.1 := by
    intro l m q
    induction q with
    | nil => intro x hx; exact nomatch hx
    | @cons p q ps qs hq t ih =>
      intro x hx
      rcases List.mem_cons.mp hx with e | hx
      · subst e
        exact key_of ok (by rw [← hq.1]; exact hq.2.1)
      · exact ih x hx
  exact all r x hx
theorem dt_of {kvs : List (List Key × V)} (ok : HOk P w H h) (e : H a = some (.dT kvs)) : kvs.length ≤ sizeLine ∧ (a == sysModules) = false ∧
    ∃ xs, KT H kvs xs ∧ h.DictOfH (tupleKind (mixKind P w)) a xs := dt_rd ok (.inl e)
end

/-- what the dict at a holds at the key y -/
def DGet (H : Hp) (a : Addr) (y : V) (r : Option V) : Prop :=
  (∃ kvs k, Rd H a (.dK kvs) ∧ y = kV k ∧ r = valV kvs k) ∨ ∃ kvs k b, Rd H a (.dT kvs) ∧ y = .ref b ∧ H b = some (.tup (k.map kV)) ∧ r = valV kvs k
/-- the heap behind a[y] = v -/
def DPut (H : Hp) (a : Addr) (y v : V) (H' : Hp) : Prop :=
  (∃ kvs k, H a = some (.dK kvs) ∧ y = kV k ∧ kvs.length < sizeLine ∧ H' = upd H a (.dK (putK kvs k v))) ∨
  ∃ kvs k b, H a = some (.dT kvs) ∧ y = .ref b ∧ H b = some (.tup (k.map kV)) ∧ kvs.length < sizeLine ∧ H' = upd H a (.dT (putK kvs k v))
theorem DGet.k {H : Hp} {a : Addr} {kvs : List (Key × V)} {k : Key} (e : H a = some (.dK kvs)) : DGet H a (kV k) (valV kvs k) := .inl ⟨kvs, k, .inl e, rfl, rfl⟩
theorem DGet.t {H : Hp} {a b : Addr} {kvs : List (List Key × V)} {k : List Key} (e : H a = some (.dT kvs)) (eb : H b = some (.tup (k.map kV))) : DGet H a (.ref b) (valV kvs k) := .inr ⟨kvs, k, b, .inl e, rfl, eb, rfl⟩
theorem DPut.k {H : Hp} {a : Addr} {kvs : List (Key × V)} {k : Key} {v : V} (e : H a = some (.dK kvs)) (hl : kvs.length < sizeLine) : DPut H a (kV k) v (upd H a (.dK (putK kvs k v))) := .inl ⟨kvs, k, e, rfl, hl, rfl⟩
theorem DPut.t {H : Hp} {a b : Addr} {kvs : List (List Key × V)} {k : List Key} {v : V} (e : H a = some (.dT kvs)) (eb : H b = some (.tup (k.map kV))) (hl : kvs.length < sizeLine) :
    DPut H a (.ref b) v (upd H a (.dT (putK kvs k v))) := .inr ⟨kvs, k, b, e, rfl, eb, hl, rfl⟩


section
variable {X : Cx} {pins : List (Addr × Obj)} {σ : St} {H : Hp} {s : Shared} {a : Addr} {y v : V} {u r : Value} {o : Option V} {A : Around} {E : Value → Shared → Prop}

theorem Inv.big (I : Inv X pins σ H s) : sysModules < s.heap.objs.size := by
  have h : mainGlobals < s.heap.objs.size := (I.mod.glob.keeps I.bk).lt
  exact Nat.lt_trans (by decide) h

/-- d[y], there -/
theorem d_getItem {Q : Value → Shared → Prop} (hu : A.units + 1 < cLine) (I : Inv X pins σ H s) (g : DGet H a y (some v)) (ry : RelV y u) (h : ∀ w' s', Inv X pins σ H s' → RelV v w' → Q w' s') :
    wpAny (model X.prog X.w) A (getItem (.ref a) u) Q E s := by
  rcases g with ⟨kvs, k, e, ey, l⟩ | ⟨kvs, k, b, e, ey, eb, l⟩
  · subst ey
    obtain ⟨z, hd, vs, rel, dd⟩ := dk_rd I.hok e
    obtain ⟨w', hw, rw'⟩ := RelO.some_of (v := v) (o := valueAt vs k) (by rw [l]; exact rel.val k)
    exact wpAny_getItem_of (kV_is ry) dd.mapOf hw (h w' _ (I.tok _) rw')
  · subst ey
    cases (show u = Value.ref b from ry)
    obtain ⟨z, hd, xs, rel, dd⟩ := dt_rd I.hok e
    obtain ⟨w', hw, rw'⟩ := RelO.some_of (v := v) (o := (atKey xs k).map (·.2)) (by rw [l]; exact rel.val k)
    obtain ⟨p, hp, hp2⟩ := Option.map_eq_some_iff.mp hw
    refine wpAny_getItem_heap (tupleKind_room_in1 hu) (key_of I.hok eb) dd hp ?_
    rw [hp2]
    exact h w' _ (I.tok _) rw'
theorem d_notIn {Q : Value → Shared → Prop} (hu : A.units + 1 < cLine) (I : Inv X pins σ H s) (g : DGet H a y o) (ry : RelV y u) (h : ∀ s', Inv X pins σ H s' → Q (.bool (!o.isSome)) s') :
    wpAny (model X.prog X.w) A (compareOp .NotIn u (.ref a)) Q E s := by
  rcases g with ⟨kvs, k, e, ey, l⟩ | ⟨kvs, k, b, e, ey, eb, l⟩
  · subst ey
    obtain ⟨z, hd, vs, rel, dd⟩ := dk_rd I.hok e
    refine wpAny_notIn_of (kV_is ry) hd dd.mapOf ?_
    rw [← (rel.val k).isSome_eq, ← l]
    exact h _ (I.tok _)
  · subst ey
    cases (show u = Value.ref b from ry)
    obtain ⟨z, hd, xs, rel, dd⟩ := dt_rd I.hok e
    refine wpAny_notIn_heap (tupleKind_room_in1 hu) (key_of I.hok eb) hd dd ?_
    have q := (rel.val k).isSome_eq
    rw [Option.isSome_map] at q
    rw [← q, ← l]
    exact h _ (I.tok _)
/-- a dict's object is replaced -/
theorem d_write {h' : Heap} {t' : Nat} {ob : HO} (I : Inv X pins σ H s) (mu : Mut (H a)) (hs : Heap.SameBut a s.heap h') (he : ∃ q, h'.get? a = some q) (new : ObjOk X.prog X.w (upd H a ob) h' a ob) :
    Inv X pins σ (upd H a ob) { s with heap := h', toks := t' } :=
  I.write (x := a) (e := a) mu (.inl rfl) (fun b q hb z => (hs.2 b hb).trans z) he new
theorem dk_new {P : Program} {w : World} {H' : Hp} {h' : Heap} {kvs : List (Key × V)} {vs : List (Key × Value)} (z : kvs.length ≤ sizeLine) (hd : (a == sysModules) = false) (rel : KV kvs vs) (dd : h'.DictOf (mixKind P w) a vs) :
    ObjOk P w H' h' a (.dK kvs) := ⟨z, hd, vs, rel, dd⟩
/-- d[y] = v -/
theorem d_setItem {H' : Hp} {Q : Unit → Shared → Prop} (hu : A.units + 1 < cLine) (I : Inv X pins σ H s) (g : DPut H a y v H') (ry : RelV y u) (rv : RelV v r) (h : ∀ s', Inv X pins σ H' s' → Q () s') :
    wpAny (model X.prog X.w) A (setItem (.ref a) u r) Q E s := by
  rcases g with ⟨kvs, k, e, ey, l, eH⟩ | ⟨kvs, k, b, e, ey, eb, l, eH⟩
  · subst ey eH
    obtain ⟨z, hd, vs, rel, dd⟩ := dk_of I.hok e
    have hz : vs.length ≤ sizeLine := by rw [← rel.length]; exact z
    have hl : (putK kvs k v).length ≤ sizeLine := by have := length_putK kvs k v; omega
    refine wpAny_setItem_pairs (hsz := hz) (kV_is ry) dd fun h' dd' hs => h _ ?_
    have he : ∃ q, h'.get? a = some q := let ⟨q, _, _, hq, _⟩ := dd'; ⟨q, hq⟩
    exact d_write I (by rw [e]; exact True.intro) hs he (dk_new hl hd (rel.put k rv) dd')
  · subst ey eH
    cases (show u = Value.ref b from ry)
    obtain ⟨z, hd, xs, rel, dd⟩ := dt_of I.hok e
    have hz : xs.length ≤ sizeLine := by rw [← Paired.length rel]; exact z
    have hl : (putK kvs k v).length ≤ sizeLine := by have := length_putK kvs k v; omega
    refine wpAny_setItem_heap (hsz := hz) (tupleKind_room_in1 hu) (key_of I.hok eb) dd fun h' dd' hs => h _ ?_
    obtain ⟨q, es, ep, hq, h2, h3, h4, _, h5⟩ := dd'
    refine d_write I (by rw [e]; exact True.intro) hs ⟨q, hq⟩ ⟨hl, hd, _, (rel.put k eb rv).keeps fun c ys ec => ?_, q, es, ep, hq, h2, h3, h4, h5⟩
    rw [upd_ne (ne_of ec e (fun z => nomatch z))]
    exact ec
end

section
variable {X : Cx} {pins : List (Addr × Obj)} {σ : St} {H : Hp} {s : Shared} {a : Addr} {kvs : List (Key × V)} {k : Key} {u : Value} {A : Around} {E : Value → Shared → Prop}
/-- len(d) -/
theorem d_len {Q : Value → Shared → Prop} (I : Inv X pins σ H s) (e : Rd H a (.dK kvs)) (h : ∀ t s', Inv X pins σ H s' → Q (.int kvs.length t) s') : wpAny (model X.prog X.w) A (call (.builtin "len") [.ref a]) Q E s := by
  obtain ⟨z, hd, vs, rel, dd⟩ := dk_rd I.hok e
  refine call_len_dict hd dd (by rw [← rel.length]; rw [sizeLine_eq] at z; omega) ?_
  rw [← rel.length]
  exact h _ _ (I.tok _)
end


/-- the element of a subscription, not a slice -/
def NoSl (i : Expr) : Prop := ∀ ov iv, subscripted i false ov iv = operate [ov, iv] (getItem ov iv)
theorem subD_of {prog : Program} {w : World} {A : Around} {E : Value → Shared → Prop} {s : Shared} {env : Env} {value slice : Expr} {pos : Pos} {T id : String} {Q : Value → Shared → Prop}
    (hl : typeLookup (.type T) "__getitem__" = pure (some (.builtin id))) (hs : NoSl slice)
    (h : wpAny (model prog w) A (eval value env) (fun o s₁ => wpAny (model prog w) A (eval slice env) (fun i s₂ => s₂.TypeIs o T ∧ wpAny (model prog w) A (getItem o i) Q E s₂) E s₁) E s) :
    wpAny (model prog w) A (eval (.Subscript value slice pos) env) Q E s := by
  refine Subscript_ (wpAny_mono h (fun o s₁ h₁ => wpAny_mono h₁ (fun i s₂ h₂ => ?_) fun _ _ x => x) fun _ _ x => x)
  obtain ⟨hT, h₂⟩ := h₂
  unfold subscriptTail
  refine wpAny_bind ?_
  rw [getitemInPython_of_ne hT.not_modules]
  refine wpAny_bind (wpAny_specialOf hT hl ?_)
  have fin : wpAny (model prog w) A (subscripted slice false o i) (fun r s₃ => wpAny (model prog w) A (letTemporaryGo value o r >>= fun _ => pure r) Q E s₃) E s₂ := by
    rw [hs o i]
    exact wpAny_operating (wpAny_mono h₂ (fun r s₃ h₃ => wpAny_bind (wpAny_letTemporaryGo (wpAny_pure h₃))) fun _ _ x => x)
  first
    | exact wpAny_pure (wpAny_bind fin)
    | exact wpAny_bind (wpAny_pure (wpAny_bind fin))
    | exact wpAny_bind fin

theorem dict_typeIs {X : Cx} {pins : List (Addr × Obj)} {σ : St} {H : Hp} {s : Shared} {a : Addr} {y : V} {o : Option V} (I : Inv X pins σ H s) (g : DGet H a y o) : s.TypeIs (.ref a) "dict" := by
  rcases g with ⟨kvs, k, e, _, _⟩ | ⟨kvs, k, b, e, _, _, _⟩
  · obtain ⟨_, _, vs, _, dd⟩ := dk_rd I.hok e
    exact dd.typeIs
  · obtain ⟨_, _, xs, _, dd⟩ := dt_rd I.hok e
    exact dd.typeIs
/-- d[y] -/
def tDGet (td ty : TE) : TE := fun σ H Q => td σ H fun x H1 => ty σ H1 fun y H2 => ∃ a v, x = .ref a ∧ DGet H2 a y (some v) ∧ Q v H2
def tDNotIn (ty td : TE) : TE := fun σ H Q => ty σ H fun y H1 => td σ H1 fun x H2 => ∃ a o, x = .ref a ∧ DGet H2 a y o ∧ Q (.bl (!o.isSome)) H2
/-- d[y] = v -/
def sDPut (td ty tv : TE) : TS := fun D σ H => tv σ H fun v H1 => td σ H1 fun x H2 => ty σ H2 fun y H3 => ∃ a H4, x = .ref a ∧ DPut H3 a y v H4 ∧ D.nx σ H4
section
variable {X : Cx} {o i e value : Expr} {pos pos' tpos : Pos} {td ty tv : TE}
theorem pe_dget (hu : X.A.units + 1 < cLine) (ho : PE X o td) (hi : PE X i ty) (hs : NoSl i) : PE X (.Subscript o i pos) (tDGet td ty) := by
  intro pins s σ H Q I h
  refine subD_of PySem.F.slot_dict_getitem.lookup hs (thn (ho pins s σ H _ I h) fun u s1 ⟨x, H1, I1, rx, q1⟩ => thn (hi pins s1 σ H1 _ I1 q1) fun iv s2 ⟨y, H2, I2, ry, a, v, ex, g, q2⟩ => ?_)
  subst ex
  obtain rfl : u = Value.ref a := rx
  exact ⟨dict_typeIs I2 g, d_getItem hu I2 g ry fun w' s3 I3 rw' => ⟨v, H2, I3, rw', q2⟩⟩
theorem pc_dnotin (hu : X.A.units + 1 < cLine) (hi : PE X i ty) (ho : PE X o td) : PC X .NotIn i o (tDNotIn ty td) := by
  intro pins s σ H Q I h
  refine thn (hi pins s σ H _ I h) fun iv s1 ⟨y, H1, I1, ry, q1⟩ => thn (ho pins s1 σ H1 _ I1 q1) fun u s2 ⟨x, H2, I2, rx, a, ov, ex, g, q2⟩ => ?_
  subst ex
  obtain rfl : u = Value.ref a := rx
  exact d_notIn hu I2 g ry fun s3 I3 => ⟨.bl (!ov.isSome), H2, I3, rfl, q2⟩
theorem ps_dput (hu : X.A.units + 1 < cLine) (ho : PE X o td) (hi : PE X i ty) (hv : PE X value tv) (hs : swapsWith value (some (.Subscript o i pos')) pos.line X.env = pure false) :
    PS X (.Assign [.Subscript o i pos'] value pos) (sDPut td ty tv) := by
  intro pins s σ H D I h
  refine wpAny_Assign_Subscript (thn (hv pins s σ H _ I h) fun r s1 ⟨v, H1, I1, rv, q1⟩ => thn (ho pins s1 σ H1 _ I1 q1) fun u s2 ⟨x, H2, I2, rx, q2⟩ => thn (hi pins s2 σ H2 _ I2 q2) fun iv s3 ⟨y, H3, I3, ry, a, H4, ex, g, q3⟩ => ?_) hs
  subst ex
  obtain rfl : u = Value.ref a := rx
  exact d_setItem hu I3 g ry rv fun s4 I4 => ⟨σ, H4, I4, q3⟩
end


theorem dk_empty {P : Program} {w : World} {H : Hp} (h : Heap) (hb : sysModules < h.objs.size) : ObjOk P w H (h.push { cls := .type "dict", data := .dict #[] }) h.objs.size (.dK []) :=
  ⟨Nat.zero_le _, beq_eq_false_iff_ne.mpr (Ne.symm (Nat.ne_of_lt hb)), [], .nil, Heap.DictOf.new h⟩
theorem dt_empty {P : Program} {w : World} {H : Hp} (h : Heap) (hb : sysModules < h.objs.size) : ObjOk P w H (h.push { cls := .type "dict", data := .dict #[] }) h.objs.size (.dT []) :=
  ⟨Nat.zero_le _, beq_eq_false_iff_ne.mpr (Ne.symm (Nat.ne_of_lt hb)), [], .nil, _, #[], 0, Heap.get?_push_size _ rfl, ⟨rfl, rfl, rfl⟩, rfl, rfl, List.nodup_nil⟩
/-- {}, to be a dict of the kind that is wanted -/
def tDNewK : TE := fun _ H Q => ∀ p, H p = none → Q (.ref p) (upd H p (.dK []))
def tDNewT : TE := fun _ H Q => ∀ p, H p = none → Q (.ref p) (upd H p (.dT []))
section
variable {X : Cx} {pos : Pos}
theorem pe_dnewK : PE X (.Dict [] [] pos) tDNewK := fun pins s σ H Q I h =>
  wpAny_Dict_empty ⟨.ref s.heap.objs.size, _, I.laid (a := s.heap.objs.size) (o := .dK []) (t' := s.toks) (fun _ _ q => Heap.get?_push_of_some _ q) (Nat.le_refl _) (dk_empty s.heap I.big), rfl, h _ (I.hok.fresh (Nat.le_refl _))⟩
theorem pe_dnewT : PE X (.Dict [] [] pos) tDNewT := fun pins s σ H Q I h =>
  wpAny_Dict_empty ⟨.ref s.heap.objs.size, _, I.laid (a := s.heap.objs.size) (o := .dT []) (t' := s.toks) (fun _ _ q => Heap.get?_push_of_some _ q) (Nat.le_refl _) (dt_empty s.heap I.big), rfl, h _ (I.hok.fresh (Nat.le_refl _))⟩
end

/-- the pairs of a display, from the left -/
def tPairs : List (TE × TE) → St → Hp → (List (V × V) → Hp → Prop) → Prop
  | [], _, H, Q => Q [] H
  | (tk, tv) :: r, σ, H, Q => tk σ H fun x H1 => tv σ H1 fun y H2 => tPairs r σ H2 fun ps H3 => Q ((x, y) :: ps) H3
abbrev VV : List (V × V) → List (Value × Value) → Prop := Paired fun p q => RelV p.1 q.1 ∧ RelV p.2 q.2
def PPs (X : Cx) (pos : Pos) (keys : List (Option Expr)) (values : List Expr) (trs : List (TE × TE)) : Prop :=
  ∀ (pins : List (Addr × Obj)) (s : Shared) (σ : St) (H : Hp) (Q : List (V × V) → Hp → Prop), Inv X pins σ H s → tPairs trs σ H Q →
    wpAny (model X.prog X.w) X.A (evalPairs (pairTrees keys values X.env pos)) (fun vs s' => ∃ ps H', Inv X pins σ H' s' ∧ VV ps vs ∧ Q ps H') X.xe s
theorem pps_nil {X : Cx} {pos : Pos} : PPs X pos [] [] [] := fun pins s σ H Q I h => pairTrees_nil_walk ⟨[], H, I, .nil, h⟩
theorem pps_cons {X : Cx} {pos : Pos} {k v : Expr} {ks : List (Option Expr)} {vs : List Expr} {tk tv : TE} {trs : List (TE × TE)} (hk : PE X k tk) (hv : PE X v tv) (hr : PPs X pos ks vs trs) :
    PPs X pos (some k :: ks) (v :: vs) ((tk, tv) :: trs) := fun pins s σ H Q I h =>
  pairTrees_cons_walk (thn (hk pins s σ H _ I h) fun u s1 ⟨x, H1, I1, rx, q1⟩ => thn (hv pins s1 σ H1 _ I1 q1) fun w2 s2 ⟨y, H2, I2, ry, q2⟩ =>
    thn (hr pins s2 σ H2 _ I2 q2) fun ws s3 ⟨ps, H3, I3, rel, q3⟩ => ⟨(x, y) :: ps, H3, I3, .cons ⟨rx, ry⟩ rel, q3⟩)

def mergeK (kvs more : List (Key × V)) : List (Key × V) := more.foldl (fun acc kv => putK acc kv.1 kv.2) kvs
theorem KV.merge : ∀ {more : List (Key × V)} {rs : List (Key × Value)} {kvs : List (Key × V)} {vs : List (Key × Value)}, KV more rs → KV kvs vs → KV (mergeK kvs more) (merged vs rs) := by
  intro more rs kvs vs r
  unfold KV at r
  induction r generalizing kvs vs with
  | nil => intro q; exact q
  | @cons p q ps qs h t ih =>
    intro r0
    have e : KV (putK kvs p.1 p.2) (stored vs q.1 q.2) := by
      have := r0.put p.1 h.2
      rw [← h.1]; exact this
    exact ih e
theorem length_mergeK : ∀ (more kvs : List (Key × V)), (mergeK kvs more).length ≤ kvs.length + more.length
  | [], kvs => by show kvs.length ≤ kvs.length + 0; omega
  | p :: r, kvs => by
    have h1 := length_mergeK r (putK kvs p.1 p.2)
    have h2 := length_putK kvs p.1 p.2
    show (mergeK (putK kvs p.1 p.2) r).length ≤ _
    rw [List.length_cons]; omega
theorem carries_of {P : Program} {w : World} : ∀ {kvs : List (Key × V)} {ws : List (Value × Value)}, VV (kvs.map fun kv => (kV kv.1, kv.2)) ws → ∃ rs, Carries (mixKind P w) ws rs ∧ KV kvs rs
  | [], _, r => by rw [List.map_nil] at r; cases r; exact ⟨[], True.intro, .nil⟩
  | p :: kvs, _, r => by
    rw [List.map_cons] at r
    cases r with
    | @cons a b as bs h t =>
      obtain ⟨rs, c, q⟩ := carries_of (P := P) (w := w) t
      obtain ⟨b1, b2⟩ := b
      exact ⟨(p.1, b2) :: rs, ⟨kV_is h.1, rfl, c⟩, .cons ⟨rfl, h.2⟩ q⟩
/-- {k: v, ..} with keys ints and texts; the new dict stands empty while the pairs are made -/
def tDisp (trs : List (TE × TE)) : TE := fun σ H Q => ∀ p, H p = none → tPairs trs σ (upd H p (.dK [])) fun ps H2 => H2 p = some (.dK []) ∧ ∃ kvs : List (Key × V), ps = kvs.map (fun kv => (kV kv.1, kv.2)) ∧ kvs.length ≤ 15 ∧ Q (.ref p) (upd H2 p (.dK (mergeK [] kvs)))
theorem pe_disp {X : Cx} {pos : Pos} {keys : List (Option Expr)} {values : List Expr} {trs : List (TE × TE)} (h : PPs X pos keys values trs) (hall : keys.all (·.isSome) = true) (hl : keys.length = values.length) (h0 : keys ≠ [])
    (h15 : keys.length ≤ 15) : PE X (.Dict keys values pos) (tDisp trs) := by
  intro pins s σ H Q I q
  have hn := I.hok.fresh (Nat.le_refl s.heap.objs.size)
  have I1 := I.laid (a := s.heap.objs.size) (o := .dK []) (h' := s.heap.push { cls := .type "dict", data := .dict #[] }) (t' := s.toks) (fun _ _ q => Heap.get?_push_of_some _ q) (Nat.le_refl _) (dk_empty s.heap I.big)
  refine wpAny_Dict_walk (knd := mixKind X.prog X.w) hall hl h0 h15 (thn (h pins _ σ _ _ I1 (q _ hn)) fun ws s2 ⟨ps, H2, I2, rel, e, kvs, ep, lk, q2⟩ => ?_)
  subst ep
  obtain ⟨rs, c, rk⟩ := carries_of (P := X.prog) (w := X.w) rel
  obtain ⟨z, hd, vs0, r0, dd⟩ := dk_of I2.hok e
  cases r0
  refine ⟨rs, c, dd, fun h' dd' hs => ⟨.ref s.heap.objs.size, _, ?_, rfl, q2⟩⟩
  have hz : (mergeK [] kvs).length ≤ sizeLine := by
    have h1 := length_mergeK kvs []
    rw [List.length_nil] at h1
    rw [sizeLine_eq]; omega
  have he : ∃ q, h'.get? s.heap.objs.size = some q := let ⟨q, _, _, hq, _⟩ := dd'; ⟨q, hq⟩
  exact d_write I2 (by rw [e]; exact True.intro) hs he (dk_new hz hd (rk.merge .nil) dd')


/-- a method call o.m(e) of a built-in, with one argument: what must be seen of the text -/
structure M1 (X : Cx) (o : Expr) (m : Str) (apos : Pos) (e : Expr) (cpos : Pos) : Prop where
  base : attributeBase o m X.env (eval o X.env) = eval o X.env
  few : ((backTo cpos (starEach [e] X.env)).all (fun x => !x.1) && (backToKw cpos (keywordEach [] X.env)).all (fun x => x.1.isSome)
    && decide (([e] : List Expr).length + ([] : List Keyword).length + (if ([] : List Keyword).isEmpty then 0 else 1) < 30)) = true
  line : (apos.endLine == cpos.line) = true
  trees : backTo cpos (starEach [e] X.env) = [(false, eval e X.env)]
structure M2 (X : Cx) (o : Expr) (m : Str) (apos : Pos) (e f : Expr) (cpos : Pos) : Prop where
  base : attributeBase o m X.env (eval o X.env) = eval o X.env
  few : ((backTo cpos (starEach [e, f] X.env)).all (fun x => !x.1) && (backToKw cpos (keywordEach [] X.env)).all (fun x => x.1.isSome)
    && decide (([e, f] : List Expr).length + ([] : List Keyword).length + (if ([] : List Keyword).isEmpty then 0 else 1) < 30)) = true
  line : (apos.endLine == cpos.line) = true
  trees : backTo cpos (starEach [e, f] X.env) = [(false, eval e X.env), (false, eval f X.env)]

section
variable {X : Cx} {pins : List (Addr × Obj)} {σ : St} {H : Hp} {s : Shared} {a : Addr} {y d : V} {u r : Value} {o : Option V} {A : Around} {E : Value → Shared → Prop}
end

section
variable {X : Cx} {o e f : Expr} {apos cpos : Pos} {td ty tx : TE}
end

section
variable {X : Cx} {pins : List (Addr × Obj)} {σ : St} {H : Hp} {s : Shared} {a : Addr} {kvs : List (Key × V)} {A : Around} {E : Value → Shared → Prop}
end


section
variable {X : Cx} {pins : List (Addr × Obj)} {σ : St} {H : Hp} {s : Shared} {a : Addr} {y : V} {u : Value} {A : Around} {E : Value → Shared → Prop}
end
end L2

namespace L2
open PySem PySem.Spec PyProof.Rows

section
variable {prog : Program} {w : World} {A : Around} {E : Value → Shared → Prop}
end

section
variable {X : Cx}
end
end L2

namespace L2
open PySem PySem.Spec PyProof.Rows

section
variable {X : Cx} {pins : List (Addr × Obj)} {σ : St} {H : Hp} {s : Shared} {h' : Heap}
/-- .. and one new object is laid -/
theorem Inv.turnedNew {t' : Nat} {ch : List Addr} {T : Addr} {ob : HO} (I : Inv X pins σ H s) (k : ∀ b o, b ∉ ch → s.heap.get? b = some o → h'.get? b = some o) (hf : ∀ b ∈ ch, FpOk X pins H b) (hT : s.heap.objs.size ≤ T)
    (new : ObjOk X.prog X.w (upd H T ob) h' T ob) : Inv X pins σ (upd H T ob) { s with heap := h', toks := t' } := by
  have hn : H T = none := I.hok.fresh hT
  have nit : ∀ b u, H b = some u → b ∉ ch := fun b u e z => by
    have q := (hf b z).1
    rw [q] at e; cases e
  refine I.step (g' := s.gens) (d' := s.drawn) (ch := ch) (fun b hb => ⟨(hf b hb).2.2.2.1, (hf b hb).2.1, (hf b hb).2.2.2.2.1, (hf b hb).2.2.2.2.2⟩) (fun b o _ _ hc e _ => k b o hc e) (fun b o _ _ hc e _ => ⟨o.slots, k b o hc e⟩)
    (fun b o _ e n => ?_) (fun b o hc e => ⟨o, k b o hc e⟩) (fun b xs e => ?_) (fun b o u e => ?_) (fun b ps e => ⟨#[], ?_⟩) (fun m hm => ?_) (fun b u e => ?_) I.bare
  · rw [upd_ne (Nat.ne_of_lt (Nat.lt_of_lt_of_le (Heap.lt_size e) hT))]; exact n
  · rw [upd_ne (ne_of_none e hn)]; exact e
  · rw [upd_ne (ne_of_none e hn)]; exact e
  · rw [upd_ne (ne_of_none e hn), e]; simp
  · obtain ⟨o, es, ep, ho, r⟩ := hm
    exact ⟨o, es, ep, k _ o (fun z => (hf _ z).2.1 rfl) ho, r⟩
  · by_cases hb : b = T
    · subst hb
      rw [upd_same] at e
      cases e
      exact new
    · rw [upd_ne hb] at e
      refine (I.hok b u e).stay (fun c v hc q => k c v ?_ q) (fun c q => by rw [upd_ne (ne_of_none q hn)]; exact q) fun c xs q => by rw [upd_ne (ne_of_none q hn)]; exact q
      rcases hc with z | z
      · rw [z]; exact nit b u e
      · exact nit c _ z

end
section
variable {X : Cx}
end

/-- range(i, j, c): small bounds, n items -/
def RgC (i j c : Int) (n : Nat) : Prop := c ≠ 0 ∧ c.natAbs < 1073741824 ∧ Builtin.Range.small i j c = true ∧ Builtin.Range.rangeSize i j c = n
theorem RgC.neg {i j : Int} (ha : -(2 ^ 62) ≤ i) (ha' : i < 2 ^ 62) (hb : -(2 ^ 62) ≤ j) (hb' : j < 2 ^ 62) : RgC i j (-1) (i - j).toNat :=
  ⟨by decide, by decide, PySem.W.small_down ha ha' hb hb', PySem.W.rangeSize_downNat i j⟩
section
variable {X : Cx} {tg : Expr}
end
section
variable {X : Cx} {tg : Expr}
end

section
variable {prog : Program} {w : World} {A : Around} {E : Value → Shared → Prop} {s : Shared}
theorem iter_keys {d : Addr} {o : Obj} {es : Array DictEntry} {ep : Nat} {Q : Value → Shared → Prop} (hd : (d == sysModules) = false) (ho : s.heap.get? d = some o) (hc : o.ExactDict) (hdat : o.data = .dict es ep)
    (hQ : Q (.ref s.heap.objs.size) { s with heap := s.heap.push { cls := .type "dict_keyiterator", data := .fields #[.ref d, .int 0 0, .int es.size 0, .int ep 0] } }) :
    wpAny (model prog w) A (pyIter (.ref d)) Q E s := by
  have hT : s.TypeIs (.ref d) "dict" := ⟨o, ho, hc.1⟩
  refine wpAny_pyIter_slot hT F.slot_dict_iter (wpAny_call_entry F.slot_dict_iter hT F.entry_dict_iter ?_ (F.args_dict_iter_1 _))
  unfold Builtin.«dict.__iter__»
  refine wpAny_bind ?_
  unfold Builtin.Dict.dictSlotNone
  refine wpAny_bind (wpAny_notOrdered_dict hT ?_)
  show wpAny _ _ (pure (Value.ref d)) _ _ s
  refine wpAny_pure ?_
  show wpAny _ _ (Builtin.Dict.showsAll d >>= _) _ _ s
  unfold Builtin.Dict.showsAll
  rw [if_neg (by rw [hd]; exact Bool.false_ne_true)]
  refine wpAny_bind (wpAny_pure ?_)
  refine wpAny_bind (wpAny_dictEntries ho hdat ?_)
  refine wpAny_bind (wpAny_dictEpoch ho hdat ?_)
  refine wpAny_bind (wpAny_newObj_type (wpAny_pure ⟨_, rfl, "dict_keyiterator", _, ⟨_, Heap.get?_push_size _ rfl, rfl⟩, F.slot_dict_keyiterator_next.lookup, ?_⟩))
  simpa [rawInt] using hQ
theorem next_key_item {it d : Addr} {i n ep : Nat} {od : Obj} {es : Array DictEntry} {en : DictEntry} {Q : Option Value → Shared → Prop} (hit : s.heap.IsKeyIter it d i n ep) (hod : s.heap.get? d = some od) (hdd : od.data = .dict es ep)
    (hsz : es.size = n) (hx : es[i]? = some en) (hQ : ∀ h', h'.IsKeyIter it d (i + 1) n ep → Heap.SameBut it s.heap h' → Q (some en.key) { s with heap := h' }) : wpAny (model prog w) A (pyNext (.ref it)) Q E s := by
  obtain ⟨o, ho, hc, hd⟩ := id hit
  unfold pyNext
  refine wpAny_bind (wpAny_attempt (wpAny_callSpecial?_slot (name := Str.ofString "__next__") hit.typeIs F.slot_dict_keyiterator_next
    (wpAny_call_entry F.slot_dict_keyiterator_next hit.typeIs F.entry_dict_keyiterator_next ?_ (F.args_dict_keyiterator_next_1 _))))
  refine wpAny_bind (wpAny_pure ?_)
  refine wpAny_bind ?_
  refine wpAny_bind ?_
  first | refine wpAny_bind (wpAny_typeNameOfWhole_keyiter hit.typeIs (wpAny_pure ?_)) | refine wpAny_bind (wpAny_typeNameOf_keyiter hit.typeIs (wpAny_pure ?_))
  refine wpAny_bind (wpAny_fieldsOf ho hd ?_)
  have hown : Builtin.Dict_items.ownsTuple "dict_keyiterator" = false := by decide
  simp only [hown, Bool.false_eq_true, if_false]
  show wpAny _ _ (if (Value.ref d == Value.none) = true then _ else _) _ _ s
  rw [if_neg (show ¬ ((Value.ref d == Value.none) = true) from Bool.false_ne_true)]
  refine wpAny_bind (wpAny_pure ?_)
  refine wpAny_bind (wpAny_dictEntries hod hdd ?_)
  rw [if_neg (by rw [hsz]; simp)]
  refine wpAny_bind (wpAny_pure ?_)
  refine wpAny_bind (wpAny_dictEpoch hod hdd ?_)
  rw [if_neg (by simp)]
  refine wpAny_pure ?_
  obtain ⟨hlt', hen⟩ := Array.getElem?_eq_some_iff.mp hx
  simp only [show ¬ ((i : Int) < 0) from by omega, if_false, Int.toNat_natCast, Array.getElem?_eq_getElem hlt']
  refine wpAny_bind ?_
  first | refine wpAny_bind (wpAny_typeNameOfWhole_keyiter hit.typeIs (wpAny_pure ?_)) | refine wpAny_bind (wpAny_typeNameOf_keyiter hit.typeIs (wpAny_pure ?_))
  refine wpAny_bind (wpAny_isOneOf_keyiter hit.typeIs ?_)
  show wpAny _ _ (setField (.ref it) 1 (rawInt ((i : Int) + 1)) >>= _) _ _ s
  refine wpAny_bind (wpAny_setField ho hd (by simp) ?_)
  have hit' : (s.heap.update it (Obj.mapFields (·.setIfInBounds 1 (rawInt ((i : Int) + 1))))).IsKeyIter it d (i + 1) n ep :=
    ⟨_, Heap.get?_update_self _ ho (Obj.isFreed_of_fields (Obj.data_mapFields hd _)), (Obj.cls_mapFields ..).trans hc, by rw [Obj.data_mapFields hd]; simp [rawInt]⟩
  refine wpAny_bind (wpAny_holding ?_)
  refine wpAny_bind (wpAny_isOneOf_keyiter (s := { s with heap := s.heap.update it (Obj.mapFields (·.setIfInBounds 1 (rawInt ((i : Int) + 1)))) }) hit'.typeIs ?_)
  show wpAny _ _ (pure es[i].key) _ _ _
  rw [hen]
  exact wpAny_pure (wpAny_pure ⟨_, rfl, wpAny_pure (hQ _ hit' (Heap.SameBut.update ..))⟩)
theorem next_key_end {it d : Addr} {i n ep : Nat} {od : Obj} {es : Array DictEntry} {Q : Option Value → Shared → Prop} (hh : A.handled = none) (hit : s.heap.IsKeyIter it d i n ep) (hod : s.heap.get? d = some od) (hdd : od.data = .dict es ep)
    (hsz : es.size = n) (hge : n ≤ i) (hQ : ∀ h', Heap.ExtBut it s.heap h' → Q none { s with heap := h' }) : wpAny (model prog w) A (pyNext (.ref it)) Q E s := by
  obtain ⟨o, ho, hc, hd⟩ := id hit
  unfold pyNext
  refine wpAny_bind (wpAny_attempt (wpAny_callSpecial?_slot (name := Str.ofString "__next__") hit.typeIs F.slot_dict_keyiterator_next
    (wpAny_call_entry F.slot_dict_keyiterator_next hit.typeIs F.entry_dict_keyiterator_next ?_ (F.args_dict_keyiterator_next_1 _))))
  refine wpAny_bind (wpAny_pure ?_)
  refine wpAny_bind ?_
  refine wpAny_bind ?_
  first | refine wpAny_bind (wpAny_typeNameOfWhole_keyiter hit.typeIs (wpAny_pure ?_)) | refine wpAny_bind (wpAny_typeNameOf_keyiter hit.typeIs (wpAny_pure ?_))
  refine wpAny_bind (wpAny_fieldsOf ho hd ?_)
  have hown : Builtin.Dict_items.ownsTuple "dict_keyiterator" = false := by decide
  simp only [hown, Bool.false_eq_true, if_false]
  show wpAny _ _ (if (Value.ref d == Value.none) = true then _ else _) _ _ s
  rw [if_neg (show ¬ ((Value.ref d == Value.none) = true) from Bool.false_ne_true)]
  refine wpAny_bind (wpAny_pure ?_)
  refine wpAny_bind (wpAny_dictEntries hod hdd ?_)
  rw [if_neg (by rw [hsz]; simp)]
  refine wpAny_bind (wpAny_pure ?_)
  refine wpAny_bind (wpAny_dictEpoch hod hdd ?_)
  rw [if_neg (by simp)]
  refine wpAny_pure ?_
  have hge' : es.size ≤ i := by rw [hsz]; exact hge
  simp only [show ¬ ((i : Int) < 0) from by omega, if_false, Int.toNat_natCast, Array.getElem?_eq_none hge']
  refine wpAny_bind ?_
  first | refine wpAny_bind (wpAny_typeNameOfWhole_keyiter hit.typeIs (wpAny_pure ?_)) | refine wpAny_bind (wpAny_typeNameOf_keyiter hit.typeIs (wpAny_pure ?_))
  show wpAny _ _ (setField (.ref it) 0 .none >>= _) _ _ s
  refine wpAny_bind (wpAny_setField ho hd (by simp) ?_)
  show wpAny _ _ (newExc (.type "StopIteration") [] >>= _) _ _ _
  refine wpAny_bind ?_
  simp only [newExc, newTuple]
  refine wpAny_bind (wpAny_newObj_type ?_ (by size_fits))
  refine wpAny_bind (m := firstArgMember _ _) (wpAny_of_eq (a := Value.none) (by first | rfl | (simp only [firstArgMember]; rfl)) ?_)
  refine wpAny_newObj_type ?_ (by size_fits)
  simp only [raiseNew]
  refine wpAny_bind (wpAny_handled ?_)
  rw [show A.in1.handled = none from hh]
  refine wpAny_bind (wpAny_pure (wpAny_throw ?_))
  refine wpAny_bind (wpAny_isInstance (T := "StopIteration") (b := true) ⟨_, Heap.get?_push_size _ rfl, rfl⟩ isSubtype_stop ?_)
  exact wpAny_pure (hQ _ (((Heap.SameBut.update ..).extBut.push _).push _))
end

theorem paired_get {α β : Type} {G : α → β → Prop} {l₁ : List α} {l₂ : List β} (h : Paired G l₁ l₂) : ∀ {i : Nat} {a : α}, l₁[i]? = some a → ∃ b, l₂[i]? = some b ∧ G a b := by
  induction h with
  | nil => intro i a e; simp at e
  | @cons a b l₁ l₂ r t ih =>
    intro i a' e
    cases i with
    | zero =>
      simp only [List.getElem?_cons_zero, Option.some.injEq] at e
      subst e
      exact ⟨b, rfl, r⟩
    | succ j =>
      simp only [List.getElem?_cons_succ] at e ⊢
      exact ih e
section
variable {X : Cx} {pins : List (Addr × Obj)} {σ : St} {H : Hp} {s : Shared} {d : Addr} {o : Obj}
end

section
variable {P : Program} {w : World} {K : PySem.W.Frag} {tg : Expr} {d : Addr} {o : Obj} {es : Array DictEntry} {ep : Nat}
end

section
variable {X : Cx} {tg e : Expr} {td : TE} {apos cpos : Pos}
end

/-- the list at a as it stands at each turn, each item in a new pair -/
def Ite (K : PySem.W.Frag) (a : Addr) : It :=
  ⟨fun i H => ∃ (xs : List V) (x : V), SqL K H a xs ∧ xs[i]? = some x, fun i H v H' => ∃ T x, v = .ref T ∧ H T = none ∧ H' = upd H T (.tup [.int (i : Nat), x]) ∧ ∀ xs, SqL K H a xs → xs[i]? = some x, fun i H => ∃ xs : List V, SqL K H a xs ∧ xs.length ≤ i⟩
theorem turn_enum {P : Program} {w : World} {K : PySem.W.Frag} {elts : List Expr} {kk : Nat} {tpos : Pos} (a e it : Addr) :
    Turn P w K (.Tuple elts kk tpos) (Ite K a) [e, it] e (fun i h => (∃ old, IsEnum h e it ((i : Nat) : Int) old) ∧ h.IsListIter it a i ∧ e ≠ it) where
  mem := by simp
  obj := fun i h st b hb => by
    obtain ⟨⟨old, he⟩, ⟨o, ho, hc, hd⟩, _⟩ := st
    have e' : b = e ∨ b = it := by simpa using hb
    rcases e' with z | z
    · rw [z]; exact ⟨_, he, fun v q => nomatch q⟩
    · rw [z]; exact ⟨o, ho, fun v q => by rw [hd] at q; cases q⟩
  keep := fun i h h' st k => let ⟨⟨old, he⟩, hi, hne⟩ := st; ⟨⟨old, k e (by simp) _ he⟩, hi.at fun o q => k it (by simp) o q, hne⟩
  item := by
    intro X hP hw hK hc i pins s σ H E I hf st hg
    subst hP hw hK
    obtain ⟨⟨old, he⟩, hit, hne⟩ := st
    obtain ⟨xs, x, hq, hx⟩ := hg
    obtain ⟨its, rv, p, hz⟩ := I.list hq
    obtain ⟨u, hu, ru⟩ := rv.get hx
    have hel : e < s.heap.objs.size := Heap.lt_size he
    have hil : it < s.heap.objs.size := by obtain ⟨_, q, _⟩ := hit; exact Heap.lt_size q
    refine wpAny_pyNext_enum_item he hit p.isList (x := u) (by simpa using hu) hne fun h' ho hit' hT hsz hk => ?_
    refine ⟨_, rfl, wpAny_letOwnedTupleGo_enum (s := { s with heap := h', toks := s.toks + 1 }) ho fun h'' he' sb => ?_⟩
    have hT2 : h''.get? s.heap.objs.size = some { cls := .type "tuple", data := .seq #[.int i s.toks, u] } := (sb.2 _ (Nat.ne_of_gt hel)).trans hT
    have new : ObjOk X.prog X.w (upd H s.heap.objs.size (.tup [.int (i : Nat), x])) h'' s.heap.objs.size (.tup [.int (i : Nat), x]) :=
      ⟨by show 2 ≤ sizeLine; decide, [.int i s.toks, u], .cons ⟨_, rfl⟩ (.cons ru .nil), ⟨_, hT2, rfl, _, rfl⟩⟩
    have I1 : Inv X pins σ (upd H s.heap.objs.size (.tup [.int (i : Nat), x])) { s with heap := h'', toks := s.toks + 1 } :=
      I.turnedNew (ch := [e, it]) (fun b ob hb q => (sb.2 b (fun z => hb (by simp [z]))).trans (hk b ob (fun z => hb (by simp [z])) (fun z => hb (by simp [z])) q)) hf (Nat.le_refl _) new
    refine ⟨.ref s.heap.objs.size, _, I1, rfl, ⟨_, x, rfl, I.hok.fresh (Nat.le_refl _), rfl, fun ys hy => by rw [I.list_inj hy hq]; exact hx⟩, ⟨⟨u, ?_⟩, hit'.at fun o q => (sb.2 it (Ne.symm hne)).trans q, hne⟩, fun b hb => ?_⟩
    · have e1 : ((i + 1 : Nat) : Int) = (i : Int) + 1 := by omega
      rw [e1]; exact he'
    · have hb' : b < s.heap.objs.size := by
        have e' : b = e ∨ b = it := by simpa using hb
        rcases e' with z | z
        · rw [z]; exact hel
        · rw [z]; exact hil
      rw [upd_ne (Nat.ne_of_lt hb')]
      exact (hf b hb).1
  done := by
    intro X hP hw hK hc i pins s σ H E I hf st hg
    subst hP hw hK
    obtain ⟨⟨old, he⟩, hit, hne⟩ := st
    obtain ⟨xs, hq, hx⟩ := hg
    obtain ⟨its, rv, p, hz⟩ := I.list hq
    obtain ⟨f0, f1, f2, f3, f4, f5⟩ := hf it (by simp)
    have hl := rv.length
    exact wpAny_pyNext_enum_end (I.ok.hd hc) he hit p.isList (by simp; omega) fun h' eb => ⟨rfl, I.turned (t' := s.toks) (fun b o hb q => eb b o hb q) f0 f1 f3 f4 f5⟩
  self := fun A i s Q E st h => let ⟨⟨_, he⟩, _⟩ := st; wpAny_pyIter_enum he h
def iEnum (K : PySem.W.Frag) (ta : TA) : TI := fun σ H R => ta σ H fun vs H1 => ∃ a xs, vs = [.ref a] ∧ SqL K H1 a xs ∧ R (Ite K a) H1
theorem pi_enum {X : Cx} {e : Expr} {ta : TA} {p pos tpos : Pos} {elts : List Expr} {kk : Nat} (hg : Gl X "enumerate") (hm : X.mg "enumerate" = none) (ha : PA X [e] ta) (hs : starEach [e] X.env = [(false, eval e X.env)] := by rfl) :
    PI X (.Tuple elts kk tpos) (.Call (.Name "enumerate" p) [e] [] pos) (iEnum X.K ta) := by
  intro pins s σ H R I h
  refine Call_ (ld_blt I hg hm boot_enumerate (PyProof.Rows.callWith_type1 (thn (ha pos pins s σ H _ I h) fun us s1 ⟨vs, H1, I1, r1, q1⟩ => ?_) hs rfl))
  obtain ⟨a, xs, ex, hq, q⟩ := q1
  subst ex
  cases r1 with
  | cons r rr =>
    cases rr
    cases r
    obtain ⟨its, rv, p', hz⟩ := I1.list hq
    refine call_enumerate_list p'.isList fun h' he hit hsz hk => wpAny_pyIter_enum he ?_
    have I2 : Inv X pins σ H1 { s1 with heap := h' } := I1.kept (t' := s1.toks) hk
    refine ⟨s1.heap.objs.size + 1, [s1.heap.objs.size + 1, s1.heap.objs.size], _, _, H1, rfl, I2, turn_enum a (s1.heap.objs.size + 1) s1.heap.objs.size, ⟨⟨.none, he⟩, hit, Nat.succ_ne_self _⟩, fun b hb => ?_, q⟩
    have e' : b = s1.heap.objs.size + 1 ∨ b = s1.heap.objs.size := by simpa using hb
    have hle : s1.heap.objs.size ≤ b := by
      rcases e' with z | z
      · rw [z]; exact Nat.le_add_right _ _
      · rw [z]; exact Nat.le_refl _
    exact I1.fpOk hle (I1.hok.fresh hle)
theorem boot_zip5 : bootBuiltins "zip" = some (.type "zip") := by decide +kernel
end L2

section 
namespace Bits
open PySem PyProof.Rows

end Bits
end 

section 
namespace TL
open PySem PySem.Builtin PySem.Builtin.Str PySem.StrLaws

abbrev tl (x : Str) : List Nat := x.cps.toList
/-- S stands at the head of l -/
def pre (S l : List Nat) : Bool := l.take S.length == S
/-- what stands before the first S, and behind it -/
def par (S : List Nat) : List Nat → List Nat → Option (List Nat × List Nat)
  | _, [] => none
  | acc, c :: r => if pre S (c :: r) = true then some (acc, (c :: r).drop S.length) else par S (acc ++ [c]) r

end TL
end 

namespace L2
open PySem PySem.Spec PyProof.Rows

section
variable {X : Cx} {pins : List (Addr × Obj)} {σ : St} {H : Hp} {s : Shared} {Q : VK}
end

section
variable {X : Cx}

end

section
variable {X : Cx} {o e : Expr} {to te : TE}
end
end L2

namespace L2
open PySem PySem.Spec PyProof.Rows

section
variable {X : Cx}
end

theorem IsPart.raw {v : Value} {o : Option Int} (p : IsPart v o) : ∃ l : Option (Int × Tok), v = partValue l ∧ l.map (·.1) = o := by
  cases p with
  | none => exact ⟨none, rfl, rfl⟩
  | int i t => exact ⟨some (i, t), rfl, rfl⟩

end L2

namespace Att
open PySem PySem.W PySem.Calls PyProof.Rows

theorem ints_of_wellAll {P : Params} {h : Heap} : ∀ (ns : List Int) (vs : List Value), WellAll P h vs (ns.map WData.int) → IntsAre vs ns := by
  intro ns
  induction ns with
  | nil =>
    intro vs w
    rw [List.map_nil] at w
    cases w
    exact .nil
  | cons n ns ih =>
    intro vs w
    rw [List.map_cons] at w
    cases w with
    | cons a b =>
      cases a
      exact .cons _ _ (ih _ b)

section
variable {prog : Program} {w : World} {A : Around} {E : Value → Shared → Prop} {s : Shared} {K : Frag}

end
end Att

namespace L2
open PySem PySem.Spec PyProof.Rows

theorem vals_ints : ∀ {vs : List Value} {ns : List Int}, IntsAre vs ns → Vals (ns.map V.int) vs
  | _, _, .nil => .nil
  | _, _, .cons n t h => .cons ⟨t, rfl⟩ (vals_ints h)

end L2

namespace L2
open PySem PySem.Spec PyProof.Rows

end L2

namespace L2
open PySem PySem.Spec PyProof.Rows

def defArgs (s : Stmt) : Arguments := match s with
  | .FunctionDef _ a _ _ _ _ _ _ _ _ => a
  | _ => { posonlyargs := [], args := [], vararg := none, kwonlyargs := [], kw_defaults := [], kwarg := none, defaults := [] }
def defBody (s : Stmt) : List Stmt := match s with
  | .FunctionDef _ _ b _ _ _ _ _ _ _ => b
  | _ => []
def defScope (s : Stmt) : Scope := match s with
  | .FunctionDef _ _ _ _ _ _ sc _ _ _ => sc
  | _ => { kind := .function, names := [], isGenerator := false, isCoroutine := false }

abbrev CX0 : CXT := fun _ _ _ _ _ _ => False
abbrev E0 : XK := fun _ _ _ => False
theorem pass0 {X : Cx} : Passes CX0 X E0 := fun _ _ _ _ _ _ _ h => h.elim

structure Fun (K : PySem.W.Frag) (x qual : Str) (st : Stmt) (f : Addr) (fd : FuncData) : Prop where
  ex : ∃ (oc : Value) (od : Option Addr) (kV doc pm : Value) (an : Option Addr) (cdv ct : Value) (osl : Array (Option Value)),
    fd = PySem.W.fnOf x qual (defArgs st) (defBody st) (defScope st) .none kV doc pm an cdv ct ∧ K.lookup f = some ⟨oc, od, .func fd, osl⟩ ∧ PySem.W.codeIn K cdv qual = true
  kp : PySem.W.keepIn K (.ref f) = true
section
variable {P : Program} {w : World} {K : PySem.W.Frag} {mg : Str → Option Value} {base : Heap}
/-- THE RULE for a def: its body as a term of rules, and the reading of that term -/
theorem Fun.ok {x qual : Str} {st : Stmt} {f : Addr} {fd : FuncData} {N ps : List Str} {k : Nat} {sp : Sp} (F : Fun K x qual st f fd) (S : FnScope N ps (defScope st)) (len : ∀ vs H Q E, sp vs H Q E → vs.length = ps.length)
    (hbody : ∀ (cdv : Value) (A : Around) (outer : List Env) (s : Shared) (H : Hp) (vs : List V) (Q : VK) (E : XK), Room k (A.deeper (envOfC qual (defScope st) s.heap.objs.size f cdv)) → sp vs H Q E →
      ∃ t, PSs (cxOf CX0 P w K mg base N qual (defScope st) f cdv A outer s H E).nox (defBody st) t ∧ t { nx := fun _ H' => Q .non H', rt := Q } (start N vs) H) : FnOk P w K mg base CX0 (k + 1) f fd ps sp := by
  obtain ⟨oc, od, kV, doc, pm, an, cdv, ct, osl, rfl, lk, hcd⟩ := F.ex
  refine fn_of lk hcd S len fun A outer s H vs Q E hr hsp => ?_
  obtain ⟨t, h, q⟩ := hbody cdv A outer s H vs Q E hr hsp
  exact ⟨t, h.nox, q⟩
/-- how its arguments bind (no defaults): h is «fun _ _ _ _ _ _ us hl => match us, hl with | [_, _], _ => rfl», one _ a parameter -/
theorem Fun.binds {x qual : Str} {st : Stmt} {f : Addr} {fd : FuncData} {ps : List Str} (F : Fun K x qual st f fd)
    (h : ∀ (kV doc pm : Value) (an : Option Addr) (cdv ct : Value) (us : List Value), us.length = ps.length → bindArgs (PySem.W.fnOf x qual (defArgs st) (defBody st) (defScope st) .none kV doc pm an cdv ct) ⟨us, []⟩ = pure (ps.zip us)) : Binds K fd ps [] := by
  obtain ⟨oc, od, kV, doc, pm, an, cdv, ct, osl, rfl, lk, hcd⟩ := F.ex
  exact .all (h kV doc pm an cdv ct)
theorem fun_mk {x qual : Str} {st : Stmt} {f : Addr} {oc : Value} {od an : Option Addr} {osl : Array (Option Value)} {kV doc pm cdv ct : Value} (l : K.lookup f = some ⟨oc, od, .func (PySem.W.fnOf x qual (defArgs st) (defBody st) (defScope st) .none kV doc pm an cdv ct), osl⟩)
    (c : PySem.W.codeIn K cdv qual = true) (k : PySem.W.keepIn K (.ref f) = true) : Fun K x qual st f (PySem.W.fnOf x qual (defArgs st) (defBody st) (defScope st) .none kV doc pm an cdv ct) := ⟨⟨oc, od, kV, doc, pm, an, cdv, ct, osl, rfl, l, c⟩, k⟩
end
theorem hu_of {A : Around} {k : Nat} (hr : Room k A) : A.units + 1 < cLine := Nat.lt_of_le_of_lt (Nat.add_le_add_left (by decide : 1 ≤ 64) _) hr.units
theorem small1000 {n : Nat} (h : n ≤ 1000) : n < sizeLine := Nat.lt_of_le_of_lt h (by decide)

section
variable {X : Cx}
theorem pv (i : Nat) {x : Str} {pos : Pos} (hN : X.N[i]? = some x := by rfl) (hv : Vis X.env.scope x := by first | exact Or.inl rfl | exact Or.inr (Or.inl rfl) | exact Or.inr (Or.inr rfl)) (hd : (x == ("__debug__" : Str)) = false := by decide)
    (hcd : (x == ("__classdict__" : Str)) = false := by decide) : PE X (.Name x pos) (tVar i) := pe_var hN hv hd hcd
/-- len of a dict -/
theorem call_lenD : CallR X (.builtin "len") (fun xs H Q => ∃ a kvs, xs = [V.ref a] ∧ H a = some (.dK kvs) ∧ Q (.int kvs.length) H) := by
  intro pins s σ H xs us Q I r h
  obtain ⟨a, kvs, rfl, ha, q⟩ := h
  obtain ⟨u, rfl, ru⟩ := vals1 r
  cases ru
  exact d_len I (.inl ha) fun t s' I' => ⟨.int kvs.length, H, I', ⟨t, rfl⟩, q⟩
end

theorem iteF {A B : Prop} (h : B) : if false = true then A else B := by
  rw [if_neg Bool.false_ne_true]
  exact h
theorem iteT {A B : Prop} (h : A) : if true = true then A else B := by
  rw [if_pos rfl]
  exact h
theorem ite2 {c A B : Prop} [Decidable c] (h1 : c → A) (h2 : ¬ c → B) : if c then A else B := by
  by_cases h : c
  · rw [if_pos h]
    exact h1 h
  · rw [if_neg h]
    exact h2 h
/-- all that was tracked is as it was -/
def Same (H H' : Hp) : Prop := ∀ b o, H b = some o → H' b = some o
theorem Same.refl (H : Hp) : Same H H := fun _ _ h => h
theorem Same.trans {H H1 H2 : Hp} (a : Same H H1) (b : Same H1 H2) : Same H H2 := fun c o h => b c o (a c o h)
theorem Same.free {H H' : Hp} (e : Same H H') {l : Addr} (h : H' l = Option.none) : H l = Option.none := by
  cases q : H l with
  | none => rfl
  | some o =>
    rw [e l o q] at h
    cases h
theorem Same.seq {K : PySem.W.Frag} {H H' : Hp} {a : Addr} {xs : List V} (e : Same H H') (h : SqL K H a xs) : SqL K H' a xs := by
  rcases h with (h | ⟨o, h⟩) | h
  · exact .inl (.inl (e _ _ h))
  · exact .inl (.inr ⟨o, e _ _ h⟩)
  · exact .inr h

section
variable {κ : Type} [DecidableEq κ]
theorem nd_snoc : ∀ {l : List κ} {k : κ}, l.Nodup → ¬ k ∈ l → (l ++ [k]).Nodup
  | [], k, _, _ => by simp
  | a :: r, k, h, hk => by
    obtain ⟨h1, h2⟩ := List.nodup_cons.mp h
    show (a :: (r ++ [k])).Nodup
    refine List.nodup_cons.mpr ⟨fun m => ?_, nd_snoc h2 fun m => hk (List.mem_cons.mpr (Or.inr m))⟩
    rcases List.mem_append.mp m with q | q
    · exact h1 q
    · exact hk (List.mem_cons.mpr (Or.inl (List.mem_singleton.mp q).symm))
end
/-- a new instance and its __init__ leave all that was tracked as it was -/
theorem Same.made {H H1 : Hp} {x dx C : Addr} (nx : H x = Option.none) (nd : H dx = Option.none) (k : ∀ b o, (upd (upd H dx (.own x)) x (.ins C dx [])) b = some o → b ≠ x → H1 b = some o) : Same H H1 := fun b o e =>
  k b o (by rw [upd_ne (ne_of_none e nx), upd_ne (ne_of_none e nd)]; exact e) (ne_of_none e nx)
end L2
/-! MORE RULES: dicts whose keys are a number and a tuple of numbers; setdefault; dicts compared. -/
namespace L2
open PySem PySem.Spec PyProof.Rows
abbrev KN (H : Hp) : List (NKey × V) → List (NKey × Addr × Value) → Prop := Paired fun p q => p.1 = q.1 ∧ NestAt H p.1 q.2.1 ∧ RelV p.2 q.2.2
theorem KN.val {H : Hp} {kvs : List (NKey × V)} {xs : List (NKey × Addr × Value)} (r : KN H kvs xs) (k : NKey) : RelO (valV kvs k) ((atKey xs k).map (·.2)) := by
  induction r with
  | nil => exact True.intro
  | @cons p q ps qs h t ih =>
    obtain ⟨h1, _, h2⟩ := h
    by_cases e : p.1 = k
    · have e' : q.1 = k := h1.symm.trans e
      have b : atKey (q :: qs) k = some q.2 := by simp [atKey, List.find?_cons, e']
      rw [valV_pos e, b]; exact h2
    · have e' : ¬ q.1 = k := fun z => e (h1.trans z)
      have b : atKey (q :: qs) k = atKey qs k := by simp [atKey, List.find?_cons, e']
      rw [valV_neg e, b]; exact ih
theorem KN.put {H : Hp} {kvs : List (NKey × V)} {xs : List (NKey × Addr × Value)} (r : KN H kvs xs) {k : NKey} (hn : valV kvs k = none) {b : Addr} {y : V} {u : Value} (hb : NestAt H k b) (ry : RelV y u) :
    KN H (kvs ++ [(k, y)]) (storedH xs k b u) := by
  have e : atKey xs k = none := by
    have q := RelO.none_of (by have := r.val k; rw [hn] at this; exact this)
    exact Option.map_eq_none_iff.mp q
  rw [storedH_new e]
  exact Paired.snoc r ⟨rfl, hb, ry⟩
theorem KN.keeps {H H' : Hp} {kvs : List (NKey × V)} {xs : List (NKey × Addr × Value)} (r : KN H kvs xs) (ht : ∀ b ys, H b = some (.tup ys) → H' b = some (.tup ys)) : KN H' kvs xs :=
  Paired.mapP r fun _ _ z => ⟨z.1, z.2.1.mono ht, z.2.2⟩
theorem ints_are {P : Program} {w : World} : ∀ {ks : List Int} {us : List Value}, Vals (ks.map V.int) us → ItemsAre (intKind P w) ks us
  | [], _, r => by rw [List.map_nil] at r; cases r; exact .nil
  | k :: ks, _, r => by
    rw [List.map_cons] at r
    cases r with
    | cons h t => obtain ⟨t', e⟩ := h; subst e; exact .cons (nestInt_is _ _) (ints_are t)
section
variable {P : Program} {w : World} {H : Hp} {h : Heap} {a : Addr}
theorem nest_of {k : NKey} (ok : HOk P w H h) (e : NestAt H k a) : (nestKind P w).is h k a := by
  obtain ⟨c, e1, e2⟩ := e
  obtain ⟨_, its, r, o, h1, h2, n, h3⟩ := (show ObjOk P w H h a (.tup [.int k.1, .ref c]) from ok a _ e1)
  obtain ⟨_, its', r', o', h1', h2', n', h3'⟩ := (show ObjOk P w H h c (.tup (k.2.map V.int)) from ok c _ e2)
  cases r with
  | cons r1 r2 =>
    cases r2 with
    | cons r2 r3 =>
      cases r3
      obtain ⟨t, e⟩ := r1
      subst e
      cases r2
      exact ⟨o, n, t, c, h1, h2, h3, o', its'.toArray, n', h1', h2', h3', by simpa using ints_are r'⟩
theorem dn_of {kvs : List (NKey × V)} (ok : HOk P w H h) (e : H a = some (.dN kvs)) : kvs.length ≤ sizeLine ∧ (a == sysModules) = false ∧
    ∃ xs, KN H kvs xs ∧ h.DictOfH (nestKind P w) a xs := by
  obtain ⟨z, y, xs, r, o, es, ep, h1, h2, h3, h4, h5⟩ := (show ObjOk P w H h a (.dN kvs) from ok a _ e)
  refine ⟨z, y, xs, r, o, es, ep, h1, h2, h3, h4, fun x hx => ?_, h5⟩
  have all : ∀ {l : List (NKey × V)} {m : List (NKey × Addr × Value)}, KN H l m → ∀ x ∈ m, (nestKind P w).is h x.1 x.2.1 := by
    intro l m q
    induction q with
    | nil => intro x hx; exact nomatch hx
    | @cons p q ps qs hq t ih =>
      intro x hx
      rcases List.mem_cons.mp hx with e | hx
      · subst e
        exact nest_of ok (by rw [← hq.1]; exact hq.2.1)
      · exact ih x hx
  exact all r x hx
theorem dn_empty {H : Hp} (h : Heap) (hb : sysModules < h.objs.size) : ObjOk P w H (h.push { cls := .type "dict", data := .dict #[] }) h.objs.size (.dN []) :=
  ⟨Nat.zero_le _, beq_eq_false_iff_ne.mpr (Ne.symm (Nat.ne_of_lt hb)), [], .nil, _, #[], 0, Heap.get?_push_size _ rfl, ⟨rfl, rfl, rfl⟩, rfl, rfl, List.nodup_nil⟩
end
def tDNewN : TE := fun _ H Q => ∀ p, H p = none → Q (.ref p) (upd H p (.dN []))
theorem pe_dnewN {X : Cx} {pos : Pos} : PE X (.Dict [] [] pos) tDNewN := fun pins s σ H Q I h =>
  wpAny_Dict_empty ⟨.ref s.heap.objs.size, _, I.laid (a := s.heap.objs.size) (o := .dN []) (t' := s.toks) (fun _ _ q => Heap.get?_push_of_some _ q) (Nat.le_refl _) (dn_empty s.heap I.big), rfl, h _ (I.hok.fresh (Nat.le_refl _))⟩
/-- len of a dict with nested keys -/
theorem call_lenN {X : Cx} : CallR X (.builtin "len") (fun xs H Q => ∃ a kvs, xs = [V.ref a] ∧ H a = some (.dN kvs) ∧ Q (.int kvs.length) H) := by
  intro pins s σ H xs us Q I r h
  obtain ⟨a, kvs, rfl, ha, q⟩ := h
  obtain ⟨u, rfl, ru⟩ := vals1 r
  cases ru
  obtain ⟨z, hd, ys, rel, dd⟩ := dn_of I.hok ha
  have hl : kvs.length = ys.length := Paired.length rel
  refine call_len_heap hd dd (by rw [← hl]; rw [sizeLine_eq] at z; omega) ?_
  rw [← hl]
  exact ⟨.int kvs.length, H, I.tok _, ⟨_, rfl⟩, q⟩
/-- what d.setdefault(y, z) gives, and the heap behind it -/
def DSd (H : Hp) (a : Addr) (y z : V) (Q : VK) : Prop :=
  (∃ kvs k, H a = some (.dK kvs) ∧ y = kV k ∧ kvs.length < sizeLine ∧ (∀ v, valV kvs k = some v → Q v H) ∧ (valV kvs k = none → Q z (upd H a (.dK (kvs ++ [(k, z)]))))) ∨
  ∃ kvs k b, H a = some (.dN kvs) ∧ y = .ref b ∧ NestAt H k b ∧ kvs.length < sizeLine ∧ (∀ v, valV kvs k = some v → Q v H) ∧ (valV kvs k = none → Q z (upd H a (.dN (kvs ++ [(k, z)]))))
def IsDN (H : Hp) (a : Addr) : Prop := (∃ kvs, H a = some (.dK kvs)) ∨ ∃ kvs, H a = some (.dN kvs)
theorem isDN_at {X : Cx} {pins : List (Addr × Obj)} {σ : St} {H : Hp} {s : Shared} {a : Addr} (I : Inv X pins σ H s) (d : IsDN H a) :
    s.TypeIs (.ref a) "dict" ∧ (∀ b, Value.ref a = .ref b → ∃ ob, s.heap.get? b = some ob ∧ ob.dict = none) := by
  rcases d with ⟨kvs, e⟩ | ⟨kvs, e⟩
  · obtain ⟨_, hd, vs, _, dd⟩ := dk_of I.hok e
    refine ⟨dd.typeIs, fun b q => ?_⟩
    cases q
    obtain ⟨ob, _, _, h1, h2, _⟩ := dd
    exact ⟨ob, h1, h2.2.1⟩
  · obtain ⟨_, hd, xs, _, dd⟩ := dn_of I.hok e
    refine ⟨dd.typeIs, fun b q => ?_⟩
    cases q
    obtain ⟨ob, _, _, h1, h2, _⟩ := dd
    exact ⟨ob, h1, h2.2.1⟩
section
variable {X : Cx} {pins : List (Addr × Obj)} {σ : St} {H : Hp} {s : Shared} {a : Addr} {y z : V} {u r : Value} {A : Around} {E : Value → Shared → Prop}
theorem d_setdefault {Q : Value → Shared → Prop} {Qv : VK} (hu : A.units + 2 < cLine) (I : Inv X pins σ H s) (g : DSd H a y z Qv) (ry : RelV y u) (rz : RelV z r) (h : ∀ v w' H' s', Inv X pins σ H' s' → RelV v w' → Qv v H' → Q w' s') :
    wpAny (model X.prog X.w) A (call (.builtin "dict.setdefault") [.ref a, u, r]) Q E s := by
  rcases g with ⟨kvs, k, e, ey, l, g1, g2⟩ | ⟨kvs, k, b, e, ey, eb, l, g1, g2⟩
  · subst ey
    obtain ⟨zz, hd, vs, rel, dd⟩ := dk_of I.hok e
    have hz : vs.length ≤ sizeLine := by rw [← rel.length]; exact zz
    refine call_meetsIn PySem.F.slot_dict_setdefault dd.typeIs PySem.F.entry_dict_setdefault (PySem.F.args_dict_setdefault_3 _ _ _) (kt_meets_setdefault (mixKind X.prog X.w) a (kV_is ry) hd r) ⟨vs, dd, hz, fun v hv => ?_, fun hn h' dd' hs => ?_⟩
    · have q := rel.val k
      rw [hv] at q
      cases ev : valV kvs k with
      | none => rw [ev] at q; exact q.elim
      | some v' =>
        rw [ev] at q
        exact h v' v H _ (I.tok _) q (g1 v' ev)
    · have q := rel.val k
      rw [hn] at q
      have ev : valV kvs k = none := by
        cases ev : valV kvs k with
        | none => rfl
        | some v' => rw [ev] at q; exact q.elim
      refine h z r _ _ ?_ rz (g2 ev)
      have he : ∃ q, h'.get? a = some q := let ⟨q, _, _, hq, _⟩ := dd'; ⟨q, hq⟩
      have hl : (kvs ++ [(k, z)]).length ≤ sizeLine := by rw [List.length_append, List.length_singleton]; omega
      have rel' := rel.put k rz
      rw [putK_new z ev] at rel'
      exact d_write I (by rw [e]; exact True.intro) hs he (dk_new hl hd rel' dd')
  · subst ey
    cases (show u = Value.ref b from ry)
    obtain ⟨zz, hd, xs, rel, dd⟩ := dn_of I.hok e
    have hz : xs.length ≤ sizeLine := by rw [← Paired.length rel]; exact zz
    refine call_meetsIn PySem.F.slot_dict_setdefault dd.typeIs PySem.F.entry_dict_setdefault (PySem.F.args_dict_setdefault_3 _ _ _) (meetsH_setdefault (nestKind X.prog X.w) a b hd r)
      ⟨(show A.units + 1 + 1 < cLine by omega), k, xs, nest_of I.hok eb, dd, hz, fun p hp => ?_, fun hn h' dd' hs => ?_⟩
    · have q := rel.val k
      rw [hp] at q
      cases ev : valV kvs k with
      | none => rw [ev] at q; exact q.elim
      | some v' =>
        rw [ev] at q
        exact h v' p.2 H _ (I.tok _) q (g1 v' ev)
    · have q := rel.val k
      rw [hn] at q
      have ev : valV kvs k = none := by
        cases ev : valV kvs k with
        | none => rfl
        | some v' => rw [ev] at q; exact q.elim
      refine h z r _ _ ?_ rz (g2 ev)
      have hl : (kvs ++ [(k, z)]).length ≤ sizeLine := by rw [List.length_append, List.length_singleton]; omega
      obtain ⟨q, es, ep, hq, h2, h3, h4, _, h5⟩ := dd'
      refine d_write I (by rw [e]; exact True.intro) hs ⟨q, hq⟩ ⟨hl, hd, _, (rel.put ev eb rz).keeps fun c ys ec => ?_, q, es, ep, hq, h2, h3, h4, h5⟩
      rw [upd_ne (ne_of ec e (fun z => nomatch z))]
      exact ec
end
def tDSd (td ty tx : TE) : TE := fun σ H Q => td σ H fun x H1 => ∃ a, x = .ref a ∧ IsDN H1 a ∧ ty σ H1 fun y H2 => tx σ H2 fun z H3 => DSd H3 a y z Q
theorem pe_dsd {X : Cx} {o e f : Expr} {apos cpos : Pos} {td ty tx : TE} (hu : X.A.units + 2 < cLine) (ho : PE X o td) (he : PE X e ty) (hf : PE X f tx) (m : M2 X o "setdefault" apos e f cpos) : PE X (.Call (.Attribute o "setdefault" apos) [e, f] [] cpos) (tDSd td ty tx) := by
  intro pins s σ H Q I h
  refine wpAny_Call_method m.base m.few m.line PySem.F.plainAttrs_dict PySem.F.slot_dict_setdefault PySem.F.type_dict_setdefault (thn (ho pins s σ H _ I h) fun u s1 ⟨x, H1, I1, rx, a, ex, d, q1⟩ => ?_)
  subst ex
  obtain rfl : u = Value.ref a := rx
  obtain ⟨t1, t2⟩ := isDN_at I1 d
  refine ⟨t1, t2, ?_⟩
  rw [m.trees]
  refine Calls.callWith_builtin rfl (Calls.evalArgs_plain (Calls.spliced_cons (thn (he pins s1 σ H1 _ I1 q1) fun iv s2 ⟨y, H2, I2, ry, q2⟩ =>
    Calls.spliced_cons (thn (hf pins s2 σ H2 _ I2 q2) fun fv s3 ⟨z, H3, I3, rz, g⟩ => Calls.spliced_nil ?_))))
  exact d_setdefault hu I3 g ry rz fun v w' H' s' I' r' q' => ⟨v, H', I', r', q'⟩
/-- two dicts of numbers by numbers, compared -/
theorem hits_of {A : Around} {s : Shared} {kb : List (Key × Value)} {kvb : List (Key × V)} (relb : KV kvb kb) : ∀ {kva : List (Key × V)} {ka : List (Key × Value)}, KV kva ka → (∀ p ∈ kva, ∃ i j, p.2 = .int i ∧ valV kvb p.1 = some (.int j)) →
    PySem.W.KeqHits A s kb ka (decide (∀ p ∈ kva, valV kvb p.1 = some p.2)) := by
  intro kva ka rel
  unfold KV at rel
  induction rel with
  | nil =>
    intro _
    rw [decide_eq_true (by intro p hp; cases hp)]
    exact .nil
  | @cons p q ps qs h t ih =>
    intro hall
    obtain ⟨i, j, e1, e2⟩ := hall p List.mem_cons_self
    obtain ⟨p1, p2⟩ := p
    obtain ⟨q1, q2⟩ := q
    obtain ⟨h1, h2⟩ := h
    simp only at h1 h2 e1 e2
    subst h1 e1
    obtain ⟨t1, rfl⟩ := h2
    have z := relb.val p1
    rw [e2] at z
    obtain ⟨y, hy, t2, rfl⟩ := RelO.some_of z
    have ih' := ih fun p hp => hall p (List.mem_cons_of_mem _ hp)
    have e : decide (∀ p ∈ (p1, V.int i) :: ps, valV kvb p.1 = some p.2) = ((i == j) && decide (∀ p ∈ ps, valV kvb p.1 = some p.2)) := by
      by_cases c : i = j
      · subst c
        by_cases d : ∀ p ∈ ps, valV kvb p.1 = some p.2
        · rw [decide_eq_true d, decide_eq_true (by
            intro p hp
            rcases List.mem_cons.mp hp with rfl | hp
            · exact e2
            · exact d p hp)]
          simp
        · rw [decide_eq_false d, decide_eq_false fun z => d fun p hp => z p (List.mem_cons_of_mem _ hp)]
          simp
      · rw [decide_eq_false fun z => by
          have := z _ List.mem_cons_self
          rw [e2] at this
          injection this with this
          injection this with this
          exact c this.symm]
        have : (i == j) = false := beq_eq_false_iff_ne.mpr c
        rw [this]; simp
    rw [e]
    exact .hit hy (SeqAt.EqAt.int_int i t1 j t2) ih'
def rNeDict : R2 := fun x y H Q => ∃ a b kva kvb, x = .ref a ∧ y = .ref b ∧ H a = some (.dK kva) ∧ H b = some (.dK kvb) ∧ kva.length = kvb.length ∧ (∀ p ∈ kva, ∃ i j, p.2 = .int i ∧ valV kvb p.1 = some (.int j)) ∧
  Q (.bl (!decide (∀ p ∈ kva, valV kvb p.1 = some p.2))) H
theorem op_neDict {X : Cx} (hu : X.A.units < cLine) : OpR X (compareOp .NotEq) rNeDict := by
  intro pins s σ H x y v u Q I rx ry h
  obtain ⟨a, b, kva, kvb, rfl, rfl, ha, hb, hl, hall, q⟩ := h
  cases rx
  cases ry
  obtain ⟨za, la, va, ra, da⟩ := dk_of I.hok ha
  obtain ⟨zb, lb, vb, rb, db⟩ := dk_of I.hok hb
  refine PySem.W.keq_ne la lb da db hu (fun _ => hits_of rb ra hall) ⟨.bl _, H, I, rfl, ?_⟩
  rw [← ra.length, ← rb.length, hl, beq_self_eq_true, Bool.true_and]
  exact q
end L2
/-! A CALL WITH LISTS THAT ARE HANDED IN: the promise of a def at the heap behind the top, for a specification's row. -/
namespace L2
open PySem PySem.Spec PyProof.Rows
abbrev Given := List (Addr × List Value × List Int)
def GivenOk (h : Heap) (fr : Given) : Prop := ∀ e ∈ fr, h.get? e.1 = some { cls := .type "list", data := .seq e.2.1.toArray } ∧ IntsAre e.2.1 e.2.2 ∧ e.2.2.length ≤ sizeLine
def givenH (K : PySem.W.Frag) (fr : Given) : Hp := fun b => if (K.lookup b).isSome = true then none else (fr.find? fun e => decide (e.1 = b)).map fun e => HO.frz { cls := .type "list", data := .seq e.2.1.toArray } (.lst (e.2.2.map V.int))
theorem givenH_some {K : PySem.W.Frag} {fr : Given} {b : Addr} {u : HO} (h : givenH K fr b = some u) : K.lookup b = none ∧ ∃ e ∈ fr, e.1 = b ∧ u = HO.frz { cls := .type "list", data := .seq e.2.1.toArray } (.lst (e.2.2.map V.int)) := by
  unfold givenH at h
  by_cases c : (K.lookup b).isSome = true
  · rw [if_pos c] at h; cases h
  · rw [if_neg c] at h
    obtain ⟨e, he, rfl⟩ := Option.map_eq_some_iff.mp h
    refine ⟨Option.not_isSome_iff_eq_none.mp c, e, List.mem_of_find?_eq_some he, ?_, rfl⟩
    have := List.find?_some he
    exact of_decide_eq_true this
theorem givenH_sq {K : PySem.W.Frag} {fr : Given} {h : Heap} (ok : GivenOk h fr) (KX : K.In h) {e : Addr × List Value × List Int} (he : e ∈ fr) : SqL K (givenH K fr) e.1 (e.2.2.map V.int) := by
  obtain ⟨h1, h2, h3⟩ := ok e he
  have rv := vals_ints h2
  cases hk : K.lookup e.1 with
  | some o =>
    have z := KX _ o hk
    rw [h1] at z
    cases z
    refine .inr ⟨_, e.2.1.toArray, _, hk, rfl, rfl, rfl, ?_, by simpa using rv⟩
    rw [List.size_toArray, h2.length]; exact h3
  | none =>
    have hf : ∃ e', (fr.find? fun x => decide (x.1 = e.1)) = some e' := by
      cases q : fr.find? fun x => decide (x.1 = e.1) with
      | some e' => exact ⟨e', rfl⟩
      | none =>
        have := List.find?_eq_none.mp q e he
        simp at this
    obtain ⟨e', q⟩ := hf
    have em := List.mem_of_find?_eq_some q
    have ee : e'.1 = e.1 := of_decide_eq_true (List.find?_some (p := fun (x : Addr × List Value × List Int) => decide (x.1 = e.1)) q)
    obtain ⟨g1, g2, g3⟩ := ok e' em
    rw [ee, h1] at g1
    have ev : e.2.1 = e'.2.1 := by
      have := Option.some.inj g1
      injection this with _ _ z _
      injection z with z _
      have := congrArg Array.toList z
      simpa using this
    have exs : e'.2.2.map V.int = e.2.2.map V.int := Vals.inj (vals_ints g2) (by rw [← ev]; exact rv)
    refine .inl (.inr ⟨{ cls := .type "list", data := .seq e'.2.1.toArray }, ?_⟩)
    unfold givenH
    rw [if_neg (by rw [hk]; simp), q, ← exs]
    rfl
theorem spec_call {P : Program} {w : World} {K : PySem.W.Frag} {mg mb : Str → Option Value} {k : Nat} {fa : Addr} {fd : FuncData} {ps : List Str} {sp : Sp} {s₁ : Shared} {fr : Given} {us : List Value} {vs : List V} {out : List Int}
    (KX : K.In s₁.heap) (hns : s₁.heap.Ns mainGlobals mg) (hb : s₁.heap.Ns builtinsNs mb) (hbb : ∀ x : Str, x ≠ "__name__" → mb x = bootBuiltins x) (hlim : s₁.heap.NoLimit) (hg : s₁.gens = #[])
    (ok : GivenOk s₁.heap fr) (hr : Room k callerA) (hv : Vals vs us)
    (F : ∀ base : Heap, K.In base → base.Ns mainGlobals mg → FnOk P w K mg base CX0 k fa fd ps sp) (hbind : BindsTo s₁ fd ⟨us, []⟩ (ps.zip us))
    (hsp : ∀ H : Hp, (∀ e ∈ fr, SqL K H e.1 (e.2.2.map V.int)) → sp vs H (fun v H' => ∃ p, v = .ref p ∧ H' p = some (.lst (out.map V.int))) fun _ _ _ => False) :
    codeAny (model P w) callerA (.call (.ref fa) ⟨us, []⟩) (fun r s' => (∃ p its n, r = .ok (.ret (.ref p)) ∧ s'.heap.get? p = some { cls := .type "list", data := .seq its n } ∧ IntsAre its.toList out) ∧ OldK s₁.heap s'.heap ∧ s'.os = s₁.os ∧ AllBare s'.gens) s₁ := by
  have hO : ∀ b, givenH K fr b = none ∨ ∃ o xs, givenH K fr b = some (.frz o (.lst xs)) := fun b => by
    cases q : givenH K fr b with
    | none => exact .inl rfl
    | some u => obtain ⟨_, e, _, _, rfl⟩ := givenH_some q; exact .inr ⟨_, _, rfl⟩
  have hok : HOk P w (givenH K fr) s₁.heap := fun b u z => by
    obtain ⟨_, e, he, rfl, rfl⟩ := givenH_some z
    obtain ⟨h1, h2, h3⟩ := ok e he
    exact ⟨h1, by rw [List.length_map]; exact h3, e.2.1, _, vals_ints h2, h1⟩
  generalize hH : givenH K fr = H at hO hok
  have base_of : ∀ {b : Addr} {o : Obj}, s₁.heap.get? b = some o → H b = none → (hidT s₁.heap H).get? b = some o := fun e n => hidT_get e n
  have noA : ∀ {b : Addr} {o : Obj} {es : Array DictEntry} {ep : Nat}, s₁.heap.get? b = some o → o.data = .dict es ep → H b = none := fun {b o es ep} e d => by
    cases q : H b with
    | none => rfl
    | some u =>
      rw [← hH] at q
      obtain ⟨_, e', he, rfl, _⟩ := givenH_some q
      obtain ⟨h1, _, _⟩ := ok e' he
      rw [h1] at e; cases e
      have d' : Data.seq _ _ = Data.dict es ep := d
      cases d'
  have nsK : ∀ {b : Addr} {m : Str → Option Value}, s₁.heap.Ns b m → (hidT s₁.heap H).Ns b m := fun {b m} ⟨o, es, ep, e, d, r⟩ => ⟨o, es, ep, base_of e (noA e d), d, r⟩
  have hKb : K.In (hidT s₁.heap H) := fun b o e => base_of (KX b o e) (by
    cases q : H b with
    | none => rfl
    | some u =>
      rw [← hH] at q
      obtain ⟨z, _⟩ := givenH_some q
      rw [z] at e; cases e)
  have hM : Mod K mg (hidT s₁.heap H) := ⟨hKb, nsK hns, ⟨mb, nsK hb, hbb⟩, let ⟨mc, h1, h2⟩ := hlim; ⟨mc, nsK h1, h2⟩⟩
  have e0 : Env0 P w K mg (hidT s₁.heap H) callerA [] s₁ H := ⟨rfl, hM, fun b o e => of_hidT e, Nat.le_of_eq (hidT_size _ _), trivial, fun b hb => absurd (show b ∈ ([] : List Addr) from hb) (by simp), hok, .of_eq hg⟩
  refine codeAny_mono ((F _ hKb (nsK hns)).run callerA [] s₁ H ⟨us, []⟩ us vs _ _ hr e0 hbind hv (hsp H fun e he => by rw [← hH]; exact givenH_sq ok KX he)) fun r s' h => ?_
  cases r with
  | error e => exact (show False from h).elim
  | ok fl =>
    cases fl with
    | next => exact False.elim h
    | brk => exact False.elim h
    | cont => exact False.elim h
    | ret u =>
      obtain ⟨v, H', os, bare, un, hok', r', p, hp, q⟩ := h
      subst hp
      obtain rfl : u = Value.ref p := r'
      obtain ⟨_, its, n, rv, e⟩ := (show ObjOk P w H' s'.heap p (.lst (out.map V.int)) from hok' p _ q)
      refine ⟨⟨p, its.toArray, n, rfl, e, by simpa using intsAre_of rv⟩, OldK.of_keep fun b o e => ?_, os, bare⟩
      cases q : H b with
      | none => exact un.keep b o e q (by intro z; exact absurd (show b ∈ ([] : List Addr) from z) (by simp)) (by simp)
      | some u =>
        rcases hO b with z | ⟨ob, xs, z⟩
        · rw [q] at z; cases z
        · have z2 := un.frzs b ob _ z
          obtain ⟨e1, _⟩ := hok b _ z
          obtain ⟨e2, _⟩ := hok' b _ z2
          rw [e] at e1; cases e1
          exact e2
theorem readsW_ints {R : PySem.W.WRecords} {cl : Str → Option Addr} {h : Heap} : ∀ {vs : List Value} {ns : List Int}, IntsAre vs ns → PySem.W.ReadsAllW R cl h vs (ns.map .int) []
  | _, _, .nil => .nil
  | _, _, .cons n t r => .cons (.int n t) (readsW_ints r)
/-- the end of a specification's call: a list of whole numbers -/
theorem goodS {r : PySem.W.OpenSpec} {cl : Str → Option Addr} {mean : ExcName → Option Value} {args : List PySem.W.WData} {s₁ s' : Shared} {res : Result} {out : List Int} (hp : r.post args (.list (out.map .int)) = true)
    (h : (∃ p its n, res = .ok (.ret (.ref p)) ∧ s'.heap.get? p = some { cls := .type "list", data := .seq its n } ∧ IntsAre its.toList out) ∧ OldK s₁.heap s'.heap ∧ s'.os = s₁.os ∧ AllBare s'.gens) :
    PySem.W.GoodWG r.claim cl mean args s₁ res s' := by
  obtain ⟨⟨p, its, n, rfl, e, hi⟩, h2, h3, h4⟩ := h
  exact ⟨.inl ⟨.ref p, .list (out.map .int), [p], rfl, fun _ => rfl, .list e rfl rfl (readsW_ints hi), hp, fun h => absurd h Bool.false_ne_true⟩, h2, h3, h4⟩
/-- the request, one argument at a time -/
theorem sdec_cons {c : PySem.W.Codec} {cs : List PySem.W.Codec} {d : PySem.W.WData} {ds : List PySem.W.WData} (h : (PySem.W.Codec.decAll (c :: cs) (d :: ds)).isSome = true) :
    (∃ a, c.dec d = some a) ∧ (PySem.W.Codec.decAll cs ds).isSome = true := by
  have e : PySem.W.Codec.decAll (c :: cs) (d :: ds) = PySem.W.Codec.both Prod.mk (c.dec d) (PySem.W.Codec.decAll cs ds) := rfl
  rw [e] at h
  cases h1 : c.dec d with
  | none => rw [h1] at h; cases h
  | some a =>
    cases h2 : PySem.W.Codec.decAll cs ds with
    | none => rw [h1, h2] at h; cases h
    | some r => exact ⟨⟨a, rfl⟩, rfl⟩
theorem sdec_join {c : PySem.W.Codec} {cs : List PySem.W.Codec} {d : PySem.W.WData} {ds : List PySem.W.WData} {a : c.denote} {r : PySem.W.Codec.denoteAll cs} (h1 : c.dec d = some a) (h2 : PySem.W.Codec.decAll cs ds = some r) :
    PySem.W.Codec.decAll (c :: cs) (d :: ds) = some (a, r) := by
  have e : PySem.W.Codec.decAll (c :: cs) (d :: ds) = PySem.W.Codec.both Prod.mk (c.dec d) (PySem.W.Codec.decAll cs ds) := rfl
  rw [e, h1, h2]; rfl
theorem sdec_int {lo hi z : Int} {a : Int} (h : (PySem.W.Codec.int lo hi).dec (.int z) = some a) : (PySem.W.Codec.int lo hi).dec (.int z) = some z ∧ lo ≤ z ∧ z ≤ hi := by
  have e : (PySem.W.Codec.int lo hi).dec (.int z) = if PySem.W.Codec.inInt lo hi z = true then some z else none := rfl
  rw [e] at h ⊢
  by_cases c : PySem.W.Codec.inInt lo hi z = true
  · rw [if_pos c] at h ⊢
    unfold PySem.W.Codec.inInt at c
    simp only [Bool.and_eq_true, decide_eq_true_eq] at c
    exact ⟨rfl, c.1, c.2⟩
  · rw [if_neg c] at h; cases h
theorem sdec_ints {least most : Nat} {lo hi : Int} {ns : List Int} {a : List Int} (h : (PySem.W.Codec.list least most (.int lo hi)).dec (.list (ns.map .int)) = some a) :
    (PySem.W.Codec.list least most (.int lo hi)).dec (.list (ns.map .int)) = some ns ∧ ns.length ≤ most ∧ ∀ x ∈ ns, lo ≤ x ∧ x ≤ hi := by
  have e : (PySem.W.Codec.list least most (.int lo hi)).dec (.list (ns.map .int)) = if PySem.W.Codec.inLen least most (ns.map PySem.W.WData.int) = true then PySem.W.Codec.decItems (PySem.W.Codec.decInt lo hi) (ns.map .int) else none := rfl
  rw [e, PySem.W.os_decItems_ints] at h ⊢
  by_cases c : PySem.W.Codec.inLen least most (ns.map PySem.W.WData.int) = true
  · rw [if_pos c] at h ⊢
    by_cases d : ns.all (PySem.W.Codec.inInt lo hi) = true
    · rw [if_pos d] at h ⊢
      refine ⟨rfl, ?_, fun x hx => ?_⟩
      · unfold PySem.W.Codec.inLen PySem.W.Codec.inNat at c
        simp only [Bool.and_eq_true, decide_eq_true_eq, List.length_map] at c
        exact c.2
      · have := List.all_eq_true.mp d x hx
        unfold PySem.W.Codec.inInt at this
        simp only [Bool.and_eq_true, decide_eq_true_eq] at this
        exact this
    · rw [if_neg d] at h; cases h
  · rw [if_neg c] at h; cases h
end L2
/-! list(zip(a, b)) of two lists: a new list of new pairs. -/
namespace PySem
open Sem (wp)
namespace F
theorem zip_no_len : typeLookup (.type "zip") "__len__" = pure none := by rw [typeLookup_type, builtinLookup_eq_fast]; kernel_rfl
theorem zip_no_hint : typeLookup (.type "zip") "__length_hint__" = pure none := by rw [typeLookup_type, builtinLookup_eq_fast]; kernel_rfl
end F
/-- a zip whose own tuple is handed out, to a -/
abbrev ZipOut (h : Heap) (z TI TO a : Addr) (f : Bool) : Prop :=
  h.get? z = some { cls := .type "zip", dict := none, data := .fields #[rawInt a, .bool f, .bool false, .ref TI, .ref TO], slots := #[] }
section
variable {prog : Program} {w : World} {A : Around} {E : Value → Shared → Prop} {s : Shared}
theorem alive_of {a : Addr} {o : Obj} {Q : Option Obj → Shared → Prop} (ho : s.heap.get? a = some o) (h : Q (some o) s) : wpAny (model prog w) A (loadIfAlive a) Q E s := by
  have h' : Q (s.heap.get? a) s := by rw [ho]; exact h
  exact fun _ _ _ => h'
theorem zip_out_item {z TI TO i1 i2 l1 l2 a : Addr} {f : Bool} {oa : Obj} {k1 k2 : Nat} {xs ys : Array Value} {x y : Value} {Q : Value → Shared → Prop} (D : ZipApart z TI TO i1 i2 l1 l2)
    (hz : ZipOut s.heap z TI TO a f) (ha : s.heap.get? a = some oa) (hTI : IsPair s.heap TI (.ref i1) (.ref i2))
    (h1 : s.heap.IsListIter i1 l1 k1) (h2 : s.heap.IsListIter i2 l2 k2) (hl1 : s.heap.IsList l1 xs) (hl2 : s.heap.IsList l2 ys) (hx : xs[k1]? = some x) (hy : ys[k2]? = some y)
    (hQ : ∀ h', ZipOut h' z TI TO a true → h'.IsListIter i1 l1 (k1 + 1) → h'.IsListIter i2 l2 (k2 + 1) → IsPair h' s.heap.objs.size x y → h'.objs.size = s.heap.objs.size + 1 →
      (∀ c o, c ≠ z → c ≠ i1 → c ≠ i2 → s.heap.get? c = some o → h'.get? c = some o) → Q (.ref s.heap.objs.size) { s with heap := h' }) :
    wpAny (model prog w) A (Builtin.«zip.__next__» ⟨[.ref z], []⟩) (fun fin s' => ∃ v, fin = .done (.ret v) ∧ Q v s') E s := by
  show wpAny _ _ (field (.ref z) 2 >>= _) _ _ _
  refine wpAny_bind (wpAny_field hz rfl (x := .bool false) rfl ?_)
  show wpAny _ _ (field (.ref z) 3 >>= _) _ _ _
  refine wpAny_bind (wpAny_field hz rfl (x := .ref TI) rfl ?_)
  refine wpAny_bind (wpAny_seqItems hTI rfl ?_)
  show wpAny _ _ (Builtin.SmallTypes.ownedTupleIsFree (.ref z) >>= _) _ _ _
  refine wpAny_bind ?_
  unfold Builtin.SmallTypes.ownedTupleIsFree
  refine wpAny_bind (wpAny_field hz rfl (x := rawInt a) rfl ?_)
  show wpAny _ _ (loadIfAlive ((a : Int).toNat) >>= _) _ _ _
  rw [Int.toNat_natCast]
  refine wpAny_bind (alive_of ha ?_)
  simp only [Option.isNone_some, Bool.false_eq_true, if_false]
  refine wpAny_bind (wpAny_field hz rfl (x := .bool f) rfl ?_)
  have fin : ∀ h₁ h₂ h₃ : Heap, ZipOut h₁ z TI TO a true → Heap.SameBut z s.heap h₁ → h₂.IsListIter i1 l1 (k1 + 1) → Heap.SameBut i1 h₁ h₂ → h₃.IsListIter i2 l2 (k2 + 1) → Heap.SameBut i2 h₂ h₃ →
      wpAny (model prog w) A (ret (.ref h₃.objs.size)) (fun fin s' => ∃ v, fin = .done (.ret v) ∧ Q v s') E { s with heap := h₃.push { cls := .type "tuple", data := .seq #[x, y] } } := fun h₁ h₂ h₃ hz₁ hs₁ h1₂ hs₂ h2₃ hs₃ => by
    have hsz : h₃.objs.size = s.heap.objs.size := by rw [hs₃.1, hs₂.1, hs₁.1]
    refine wpAny_pure ⟨_, rfl, ?_⟩
    rw [hsz]
    have up : ∀ c o, h₃.get? c = some o → (h₃.push { cls := .type "tuple", data := .seq #[x, y] }).get? c = some o := fun c o e => Heap.get?_push_of_some _ e
    refine hQ _ (up _ _ (hs₃.extBut _ _ D.i2z.symm (hs₂.extBut _ _ D.i1z.symm hz₁))) ((h1₂.extBut hs₃.extBut D.i12).at fun o e => up _ o e) (h2₃.at fun o e => up _ o e) ?_ ?_ fun c o c1 c3 c4 e => up c o (hs₃.extBut _ _ c4 (hs₂.extBut _ _ c3 (hs₁.extBut _ _ c1 e)))
    · show (h₃.push _).get? _ = _
      rw [← hsz]; exact Heap.get?_push_size _ rfl
    · rw [Heap.size_push, hsz]
  cases f with
  | true =>
    rw [if_neg (show ¬ ((Value.bool true != Value.bool true) = true) from Bool.false_ne_true)]
    refine wpAny_pure ?_
    simp only [Bool.false_eq_true, if_false]
    obtain ⟨h₁, g, d, tk, os⟩ := s
    have hz₁ : ZipOut h₁ z TI TO a true := hz
    have hs₁ : Heap.SameBut z (Shared.heap ⟨h₁, g, d, tk, os⟩) h₁ := Heap.SameBut.refl _ _
    rw [← Array.forIn_toList]
    simp only [List.forIn_cons, List.forIn_nil]
    refine wpAny_bind (wpAny_bind (wpAny_bind (wpAny_holding ?_)))
    show wpAny _ _ (Builtin.SmallTypes.nextOf (.ref i1) >>= _) _ _ _
    refine wpAny_bind (wpAny_nextOf_list_item (h1.extBut hs₁.extBut D.i1z) (hl1.extBut hs₁.extBut D.l1z) hx fun h₂ h1₂ hs₂ => wpAny_pure ?_)
    refine wpAny_pure ?_
    refine wpAny_bind (wpAny_bind (wpAny_holding ?_))
    show wpAny _ _ (Builtin.SmallTypes.nextOf (.ref i2) >>= _) _ _ _
    refine wpAny_bind (wpAny_nextOf_list_item ((h2.extBut hs₁.extBut D.i2z).extBut hs₂.extBut D.i12.symm) ((hl2.extBut hs₁.extBut D.l2z).extBut hs₂.extBut D.l2i1) hy fun h₃ h2₃ hs₃ => wpAny_pure ?_)
    refine wpAny_pure ?_
    refine wpAny_pure ?_
    show wpAny _ _ (newTuple [x, y] >>= _) _ _ _
    refine wpAny_bind (wpAny_newTuple ?_)
    exact fin h₁ h₂ h₃ hz₁ hs₁ h1₂ hs₂ h2₃ hs₃
  | false =>
    rw [if_pos (show (Value.bool false != Value.bool true) = true from rfl)]
    refine wpAny_bind (wpAny_setField_rec hz (by simp) fun h₁ hz₁ hs₁ => ?_)
    replace hz₁ : ZipOut h₁ z TI TO a true := hz₁
    refine wpAny_pure ?_
    simp only [Bool.false_eq_true, if_false]
    rw [← Array.forIn_toList]
    simp only [List.forIn_cons, List.forIn_nil]
    refine wpAny_bind (wpAny_bind (wpAny_bind (wpAny_holding ?_)))
    show wpAny _ _ (Builtin.SmallTypes.nextOf (.ref i1) >>= _) _ _ _
    refine wpAny_bind (wpAny_nextOf_list_item (h1.extBut hs₁.extBut D.i1z) (hl1.extBut hs₁.extBut D.l1z) hx fun h₂ h1₂ hs₂ => wpAny_pure ?_)
    refine wpAny_pure ?_
    refine wpAny_bind (wpAny_bind (wpAny_holding ?_))
    show wpAny _ _ (Builtin.SmallTypes.nextOf (.ref i2) >>= _) _ _ _
    refine wpAny_bind (wpAny_nextOf_list_item ((h2.extBut hs₁.extBut D.i2z).extBut hs₂.extBut D.i12.symm) ((hl2.extBut hs₁.extBut D.l2z).extBut hs₂.extBut D.l2i1) hy fun h₃ h2₃ hs₃ => wpAny_pure ?_)
    refine wpAny_pure ?_
    refine wpAny_pure ?_
    show wpAny _ _ (newTuple [x, y] >>= _) _ _ _
    refine wpAny_bind (wpAny_newTuple ?_)
    exact fin h₁ h₂ h₃ hz₁ hs₁ h1₂ hs₂ h2₃ hs₃
theorem zip_out_end {z TI TO i1 i2 l1 l2 a : Addr} {f : Bool} {oa : Obj} {k1 k2 : Nat} {xs ys : Array Value} {Q : Fin → Shared → Prop} (hh : A.handled = none) (D : ZipApart z TI TO i1 i2 l1 l2)
    (hz : ZipOut s.heap z TI TO a f) (ha : s.heap.get? a = some oa) (hTI : IsPair s.heap TI (.ref i1) (.ref i2))
    (h1 : s.heap.IsListIter i1 l1 k1) (h2 : s.heap.IsListIter i2 l2 k2) (hl1 : s.heap.IsList l1 xs) (hl2 : s.heap.IsList l2 ys) (hend : xs[k1]? = none ∨ ys[k2]? = none)
    (hE : ∀ h' e, (∀ c o, c ≠ z → c ≠ i1 → c ≠ i2 → s.heap.get? c = some o → h'.get? c = some o) → (∃ o, h'.get? e = some o ∧ o.cls = .type "StopIteration") → E (.ref e) { s with heap := h' }) :
    wpAny (model prog w) A (Builtin.«zip.__next__» ⟨[.ref z], []⟩) Q E s := by
  show wpAny _ _ (field (.ref z) 2 >>= _) _ _ _
  refine wpAny_bind (wpAny_field hz rfl (x := .bool false) rfl ?_)
  show wpAny _ _ (field (.ref z) 3 >>= _) _ _ _
  refine wpAny_bind (wpAny_field hz rfl (x := .ref TI) rfl ?_)
  refine wpAny_bind (wpAny_seqItems hTI rfl ?_)
  show wpAny _ _ (Builtin.SmallTypes.ownedTupleIsFree (.ref z) >>= _) _ _ _
  refine wpAny_bind ?_
  unfold Builtin.SmallTypes.ownedTupleIsFree
  refine wpAny_bind (wpAny_field hz rfl (x := rawInt a) rfl ?_)
  show wpAny _ _ (loadIfAlive ((a : Int).toNat) >>= _) _ _ _
  rw [Int.toNat_natCast]
  refine wpAny_bind (alive_of ha ?_)
  simp only [Option.isNone_some, Bool.false_eq_true, if_false]
  refine wpAny_bind (wpAny_field hz rfl (x := .bool f) rfl ?_)
  cases f with
  | true =>
    rw [if_neg (show ¬ ((Value.bool true != Value.bool true) = true) from Bool.false_ne_true)]
    refine wpAny_pure ?_
    simp only [Bool.false_eq_true, if_false]
    obtain ⟨h₁, g, d, tk, os⟩ := s
    have hz₁ : ZipOut h₁ z TI TO a true := hz
    have hs₁ : Heap.SameBut z (Shared.heap ⟨h₁, g, d, tk, os⟩) h₁ := Heap.SameBut.refl _ _
    rw [← Array.forIn_toList]
    simp only [List.forIn_cons, List.forIn_nil]
    refine wpAny_bind (wpAny_bind (wpAny_bind (wpAny_holding ?_)))
    show wpAny _ _ (Builtin.SmallTypes.nextOf (.ref i1) >>= _) _ _ _
    cases hx : xs[k1]? with
    | none => exact wpAny_bind (wpAny_nextOf_list_end hh (h1.extBut hs₁.extBut D.i1z) (hl1.extBut hs₁.extBut D.l1z) hx fun h₂ e hs₂ he => hE h₂ e (fun c o c1 c3 _ x => hs₂ _ _ c3 (hs₁.extBut _ _ c1 x)) he)
    | some x =>
      have hy : ys[k2]? = none := by rcases hend with h | h; rw [hx] at h; cases h; exact h
      refine wpAny_bind (wpAny_nextOf_list_item (h1.extBut hs₁.extBut D.i1z) (hl1.extBut hs₁.extBut D.l1z) hx fun h₂ h1₂ hs₂ => wpAny_pure ?_)
      refine wpAny_pure ?_
      refine wpAny_bind (wpAny_bind (wpAny_holding ?_))
      show wpAny _ _ (Builtin.SmallTypes.nextOf (.ref i2) >>= _) _ _ _
      exact wpAny_bind (wpAny_nextOf_list_end hh ((h2.extBut hs₁.extBut D.i2z).extBut hs₂.extBut D.i12.symm) ((hl2.extBut hs₁.extBut D.l2z).extBut hs₂.extBut D.l2i1) hy fun h₃ e hs₃ he =>
        hE h₃ e (fun c o c1 c3 c4 x => hs₃ _ _ c4 (hs₂.extBut _ _ c3 (hs₁.extBut _ _ c1 x))) he)
  | false =>
    rw [if_pos (show (Value.bool false != Value.bool true) = true from rfl)]
    refine wpAny_bind (wpAny_setField_rec hz (by simp) fun h₁ hz₁ hs₁ => ?_)
    refine wpAny_pure ?_
    simp only [Bool.false_eq_true, if_false]
    rw [← Array.forIn_toList]
    simp only [List.forIn_cons, List.forIn_nil]
    refine wpAny_bind (wpAny_bind (wpAny_bind (wpAny_holding ?_)))
    show wpAny _ _ (Builtin.SmallTypes.nextOf (.ref i1) >>= _) _ _ _
    cases hx : xs[k1]? with
    | none => exact wpAny_bind (wpAny_nextOf_list_end hh (h1.extBut hs₁.extBut D.i1z) (hl1.extBut hs₁.extBut D.l1z) hx fun h₂ e hs₂ he => hE h₂ e (fun c o c1 c3 _ x => hs₂ _ _ c3 (hs₁.extBut _ _ c1 x)) he)
    | some x =>
      have hy : ys[k2]? = none := by rcases hend with h | h; rw [hx] at h; cases h; exact h
      refine wpAny_bind (wpAny_nextOf_list_item (h1.extBut hs₁.extBut D.i1z) (hl1.extBut hs₁.extBut D.l1z) hx fun h₂ h1₂ hs₂ => wpAny_pure ?_)
      refine wpAny_pure ?_
      refine wpAny_bind (wpAny_bind (wpAny_holding ?_))
      show wpAny _ _ (Builtin.SmallTypes.nextOf (.ref i2) >>= _) _ _ _
      exact wpAny_bind (wpAny_nextOf_list_end hh ((h2.extBut hs₁.extBut D.i2z).extBut hs₂.extBut D.i12.symm) ((hl2.extBut hs₁.extBut D.l2z).extBut hs₂.extBut D.l2i1) hy fun h₃ e hs₃ he =>
        hE h₃ e (fun c o c1 c3 c4 x => hs₃ _ _ c4 (hs₂.extBut _ _ c3 (hs₁.extBut _ _ c1 x))) he)
end
end PySem
namespace PySem
open Sem (wp)
/-- a zip over two lists at its i-th turn: its own tuple free, or handed out -/
structure ZSt (h : Heap) (z TI TO i1 i2 l1 l2 S : Addr) (xs ys : Array Value) (i : Nat) : Prop where
  own : IsZip h z TI TO .none ∨ ∃ a f oa, ZipOut h z TI TO a f ∧ h.get? a = some oa ∧ a ≠ z ∧ a ≠ S ∧ a ≠ i1 ∧ a ≠ i2 ∧ a ≠ TO
  ti : IsPair h TI (.ref i1) (.ref i2)
  to : ∃ u v, IsPair h TO u v
  it1 : h.IsListIter i1 l1 i
  it2 : h.IsListIter i2 l2 i
  ls1 : h.IsList l1 xs
  ls2 : h.IsList l2 ys
theorem ZSt.keep {h h' : Heap} {z TI TO i1 i2 l1 l2 S : Addr} {xs ys : Array Value} {i : Nat} (x : ZSt h z TI TO i1 i2 l1 l2 S xs ys i) (hk : ∀ b o, b ≠ S → h.get? b = some o → h'.get? b = some o)
    (hS : S ≠ z ∧ S ≠ TI ∧ S ≠ TO ∧ S ≠ i1 ∧ S ≠ i2 ∧ S ≠ l1 ∧ S ≠ l2) : ZSt h' z TI TO i1 i2 l1 l2 S xs ys i := by
  obtain ⟨s1, s2, s3, s4, s5, s6, s7⟩ := hS
  refine ⟨?_, hk _ _ s2.symm x.ti, let ⟨u, v, e⟩ := x.to; ⟨u, v, hk _ _ s3.symm e⟩, x.it1.at fun o e => hk _ o s4.symm e, x.it2.at fun o e => hk _ o s5.symm e, x.ls1.at fun o e => hk _ o s6.symm e, x.ls2.at fun o e => hk _ o s7.symm e⟩
  rcases x.own with e | ⟨a, f, oa, e, ea, a1, a2, a3⟩
  · exact .inl (hk _ _ s1.symm e)
  · exact .inr ⟨a, f, oa, hk _ _ s1.symm e, hk _ _ a2 ea, a1, a2, a3⟩
section
variable {prog : Program} {w : World} {A : Around} {E : Value → Shared → Prop} {s : Shared}
theorem zst_item {z TI TO i1 i2 l1 l2 S : Addr} {xs ys : Array Value} {i : Nat} {x y : Value} {Q : Option Value → Shared → Prop} (D : ZipApart z TI TO i1 i2 l1 l2) (st : ZSt s.heap z TI TO i1 i2 l1 l2 S xs ys i) (hS : S < s.heap.objs.size)
    (hx : xs[i]? = some x) (hy : ys[i]? = some y)
    (hQ : ∀ h', ZSt h' z TI TO i1 i2 l1 l2 S xs ys (i + 1) → IsPair h' s.heap.objs.size x y → h'.objs.size = s.heap.objs.size + 1 →
      (∀ c o, c ≠ z → c ≠ TO → c ≠ i1 → c ≠ i2 → s.heap.get? c = some o → h'.get? c = some o) → Q (some (.ref s.heap.objs.size)) { s with heap := h' }) :
    wpAny (model prog w) A (pyNext (.ref z)) Q E s := by
  have lt : ∀ {b : Addr} {o : Obj}, s.heap.get? b = some o → s.heap.objs.size ≠ b := fun e => Nat.ne_of_gt (Heap.lt_size e)
  obtain ⟨u0, v0, hTO⟩ := st.to
  have l1' : s.heap.objs.size ≠ i1 := by obtain ⟨_, e, _⟩ := st.it1; exact lt e
  have l2' : s.heap.objs.size ≠ i2 := by obtain ⟨_, e, _⟩ := st.it2; exact lt e
  rcases st.own with hz | ⟨a, f, oa, hz, ha, a1, a2, a3, a4, a5⟩
  · refine wpAny_pyNext_zip_item D hz st.ti hTO st.it1 st.it2 st.ls1 st.ls2 hx hy fun h' b1 b2 b3 b4 b5 b6 b7 => hQ h' ⟨.inr ⟨_, false, _, b1, b5, lt hz, Nat.ne_of_gt hS, l1', l2', lt hTO⟩, ?_, ⟨_, _, b2⟩, b3, b4, ?_, ?_⟩ b5 b6 b7
    · exact b7 _ _ D.TIz D.TITO D.TIi1 D.TIi2 st.ti
    · exact st.ls1.at fun o e => b7 _ o D.l1z D.l1TO D.l1i1 D.l1i2 e
    · exact st.ls2.at fun o e => b7 _ o D.l2z D.l2TO D.l2i1 D.l2i2 e
  · have hT : s.TypeIs (.ref z) "zip" := ⟨_, hz, rfl⟩
    unfold pyNext
    refine wpAny_bind (wpAny_attempt (wpAny_callSpecial?_slot (name := Str.ofString "__next__") hT F.slot_zip_next
      (wpAny_call_entry F.slot_zip_next hT F.entry_zip_next
        (zip_out_item D hz ha st.ti st.it1 st.it2 st.ls1 st.ls2 hx hy fun h' b1 b3 b4 b5 b6 b7 => wpAny_pure (hQ h' ⟨.inr ⟨a, true, oa, b1, b7 a oa a1 a3 a4 ha, a1, a2, a3, a4, a5⟩, ?_, ⟨u0, v0, ?_⟩, b3, b4, ?_, ?_⟩ b5 b6 fun c o c1 _ c3 c4 e => b7 c o c1 c3 c4 e)) (F.args_zip_next_1 _))))
    · exact b7 _ _ D.TIz D.TIi1 D.TIi2 st.ti
    · exact b7 _ _ D.TOz D.TOi1 D.TOi2 hTO
    · exact st.ls1.at fun o e => b7 _ o D.l1z D.l1i1 D.l1i2 e
    · exact st.ls2.at fun o e => b7 _ o D.l2z D.l2i1 D.l2i2 e
theorem zst_done {z TI TO i1 i2 l1 l2 S : Addr} {xs ys : Array Value} {i : Nat} {Q : Option Value → Shared → Prop} (hh : A.handled = none) (D : ZipApart z TI TO i1 i2 l1 l2) (st : ZSt s.heap z TI TO i1 i2 l1 l2 S xs ys i)
    (hend : xs[i]? = none ∨ ys[i]? = none) (hQ : ∀ h', (∀ c o, c ≠ z → c ≠ TO → c ≠ i1 → c ≠ i2 → s.heap.get? c = some o → h'.get? c = some o) → Q none { s with heap := h' }) :
    wpAny (model prog w) A (pyNext (.ref z)) Q E s := by
  obtain ⟨u0, v0, hTO⟩ := st.to
  rcases st.own with hz | ⟨a, f, oa, hz, ha, _⟩
  · exact wpAny_pyNext_zip_end hh D hz st.ti hTO st.it1 st.it2 st.ls1 st.ls2 hend hQ
  · have hT : s.TypeIs (.ref z) "zip" := ⟨_, hz, rfl⟩
    unfold pyNext
    refine wpAny_bind (wpAny_attempt (wpAny_callSpecial?_slot (name := Str.ofString "__next__") hT F.slot_zip_next
      (wpAny_call_entry F.slot_zip_next hT F.entry_zip_next (zip_out_end hh D hz ha st.ti st.it1 st.it2 st.ls1 st.ls2 hend fun h' e hk he => ?_) (F.args_zip_next_1 _))))
    obtain ⟨o, ho, hc⟩ := he
    refine wpAny_bind (wpAny_isInstance (T := "StopIteration") (b := true) ⟨o, ho, hc⟩ isSubtype_stop ?_)
    exact wpAny_pure (hQ _ fun c o c1 _ c3 c4 e => hk c o c1 c3 c4 e)
end
structure ZG (xs ys : Array Value) (lo : Addr) (h : Heap) (as : List Addr) : Prop where
  rise : as.Pairwise (· < ·)
  above : ∀ a ∈ as, lo ≤ a
  pairs : ∀ (j : Nat) (a : Addr), as[j]? = some a → ∃ x y, xs[j]? = some x ∧ ys[j]? = some y ∧ IsPair h a x y
theorem ZG.there {xs ys : Array Value} {lo : Addr} {h : Heap} {as : List Addr} (g : ZG xs ys lo h as) {a : Addr} (ha : a ∈ as) : a < h.objs.size := by
  obtain ⟨j, hj⟩ := List.mem_iff_getElem?.mp ha
  obtain ⟨_, _, _, _, e⟩ := g.pairs j a hj
  exact Heap.lt_size e
section
variable {prog : Program} {w : World} {A : Around} {s : Shared} {R : Result → Shared → Prop} {xs ys : Array Value}
theorem zl_loop {S z TI TO i1 i2 l1 l2 lo : Addr} {n : Nat} (hh : A.handled = none) (D : ZipApart z TI TO i1 i2 l1 l2) (hS : S ≠ z ∧ S ≠ TI ∧ S ≠ TO ∧ S ≠ i1 ∧ S ≠ i2 ∧ S ≠ l1 ∧ S ≠ l2) (hlo : S < lo ∧ z < lo ∧ TO < lo ∧ i1 < lo ∧ i2 < lo)
    (hn : n = min xs.size ys.size) (hnl : n ≤ sizeLine) (res : Value) {h₁ : Heap}
    (hR : ∀ h' acc c as, (∀ b o, b ≠ S → b ≠ z → b ≠ TO → b ≠ i1 → b ≠ i2 → h₁.get? b = some o → h'.get? b = some o) → h'.get? S = some { cls := .type "list", dict := none, data := .seq acc c, slots := #[] } → as.length = n → ZG xs ys lo h' as →
      acc.toList = as.map Value.ref → R (.ok (.ret res)) { s with heap := h' }) :
    ∀ (k i : Nat) (h : Heap) (c : Nat) (acc : Array Value) (as : List Addr), n - i = k → i ≤ n → ZSt h z TI TO i1 i2 l1 l2 S xs ys i → (∀ b o, b ≠ S → b ≠ z → b ≠ TO → b ≠ i1 → b ≠ i2 → h₁.get? b = some o → h.get? b = some o) →
      h.get? S = some { cls := .type "list", dict := none, data := .seq acc c, slots := #[] } → acc.toList = as.map Value.ref → as.length = i → ZG xs ys lo h as → lo ≤ h.objs.size →
      codeAny (model prog w) A (.builtin "list.extend.loop" ⟨[.ref S, .ref z, res], []⟩) R { s with heap := h } := by
  obtain ⟨s1, s2, s3, s4, s5, s6, s7⟩ := id hS
  obtain ⟨o1, o2, o3, o4, o5⟩ := hlo
  have ap : ∀ {u v : Addr}, u < lo → lo ≤ v → v ≠ u := fun p q => Nat.ne_of_gt (Nat.lt_of_lt_of_le p q)
  intro k
  induction k with
  | zero =>
    intro i h c acc as hk hi hst hkeep hSg hacc hal hG hIs
    have hin : i = n := by omega
    have hend : xs[i]? = none ∨ ys[i]? = none := by
      rcases Nat.le_total xs.size ys.size with q | q
      · exact .inl (Array.getElem?_eq_none (by omega))
      · exact .inr (Array.getElem?_eq_none (by omega))
    refine codeAny_builtin F.entry_extend_loop ?_
    rw [Around.under_plainId F.plain_extend_loop _]
    show wpAny _ A.in1 (pyNext (.ref z) >>= _) _ _ _
    refine wpAny_bind (zst_done (s := { s with heap := h }) (A := A.in1) hh D hst hend fun h' he => ?_)
    refine wpAny_pure (hR h' acc c as (fun b o h1 h2 h3 h4 h5 e => he b o h2 h3 h4 h5 (hkeep b o h1 h2 h3 h4 h5 e)) (he S _ s1 s3 s4 s5 hSg) (by omega) ⟨hG.rise, hG.above, fun j a hj => ?_⟩ hacc)
    obtain ⟨x, y, e1, e2, e3⟩ := hG.pairs j a hj
    have hla := hG.above a (List.mem_of_getElem? hj)
    exact ⟨x, y, e1, e2, he a _ (ap o2 hla) (ap o3 hla) (ap o4 hla) (ap o5 hla) e3⟩
  | succ k ih =>
    intro i h c acc as hk hi hst hkeep hSg hacc hal hG hIs
    have hlt : i < n := by omega
    obtain ⟨x, hx⟩ : ∃ x, xs[i]? = some x := ⟨xs[i]'(by omega), Array.getElem?_eq_getElem (by omega)⟩
    obtain ⟨y, hy⟩ : ∃ y, ys[i]? = some y := ⟨ys[i]'(by omega), Array.getElem?_eq_getElem (by omega)⟩
    have hsz : acc.size = i := by rw [← Array.length_toList, hacc, List.length_map, hal]
    refine codeAny_builtin F.entry_extend_loop ?_
    rw [Around.under_plainId F.plain_extend_loop _]
    show wpAny _ A.in1 (pyNext (.ref z) >>= _) _ _ _
    refine wpAny_bind (zst_item (s := { s with heap := h }) (S := S) D hst (Heap.lt_size hSg) hx hy fun h' hst' ht hz hkp => ?_)
    dsimp only at ht hz hkp ⊢
    have hS' := hkp S _ s1 s3 s4 s5 hSg
    have up : ∀ b o, b ≠ S → h'.get? b = some o → (h'.update S (Obj.mapSeq (·.push (Value.ref h.objs.size)))).get? b = some o := fun b o hb e => (Heap.get?_update_other _ _ (Ne.symm hb)).trans e
    have hSl : S < h.objs.size := Heap.lt_size hSg
    show wpAny _ A.in1 (updateSeq S (·.push (Value.ref h.objs.size)) >>= _) _ _ _
    refine wpAny_bind ?_
    refine wpAny_updateSeq hS' rfl (wpAny_pure ⟨plainId_quiet F.plain_extend_loop _, ih (i + 1) _ _ (acc.push (Value.ref h.objs.size)) (as ++ [h.objs.size]) (by omega) hlt (hst'.keep up hS)
      (fun b o h1 h2 h3 h4 h5 e => up b o h1 (hkp b o h2 h3 h4 h5 (hkeep b o h1 h2 h3 h4 h5 e))) (Heap.get?_update_self _ hS' rfl) (by rw [Array.toList_push, hacc, List.map_append]; rfl) (by rw [List.length_append, hal]; rfl) ⟨?_, ?_, ?_⟩ ?_⟩) (by rw [hsz]; omega) (by show (acc.push (Value.ref h.objs.size)).size ≤ sizeLine + 1; rw [Array.size_push, hsz]; omega)
    · refine List.pairwise_append.mpr ⟨hG.rise, List.pairwise_singleton _ _, fun a ha b hb => ?_⟩
      rw [List.mem_singleton.mp hb]
      exact hG.there ha
    · intro a ha
      rcases List.mem_append.mp ha with ha | ha
      · exact hG.above a ha
      · rw [List.mem_singleton.mp ha]; exact hIs
    · intro j b hj
      rcases Nat.lt_trichotomy j as.length with h1 | h1 | h1
      · rw [List.getElem?_append_left h1] at hj
        obtain ⟨x', y', e1, e2, e3⟩ := hG.pairs j b hj
        have hb := hG.above b (List.mem_of_getElem? hj)
        exact ⟨x', y', e1, e2, up b _ (ap o1 hb) (hkp b _ (ap o2 hb) (ap o3 hb) (ap o4 hb) (ap o5 hb) e3)⟩
      · subst h1
        have hb : h.objs.size = b := by simpa using hj
        subst hb
        exact ⟨x, y, by rw [hal]; exact hx, by rw [hal]; exact hy, up _ _ (Nat.ne_of_gt hSl) ht⟩
      · have hnone : (as ++ [h.objs.size])[j]? = none := List.getElem?_eq_none (by rw [List.length_append, List.length_singleton]; omega)
        rw [hnone] at hj; cases hj
    · have e : (h'.update S (Obj.mapSeq (·.push (Value.ref h.objs.size)))).get? h.objs.size = _ := up _ _ (Nat.ne_of_gt hSl) ht
      exact Nat.le_of_lt (Nat.lt_of_le_of_lt hIs (Heap.lt_size e))
end
section
variable {prog : Program} {w : World} {A : Around} {E : Value → Shared → Prop} {s : Shared} {xs ys : Array Value}
theorem zl_extend {R : Result → Shared → Prop} {S z TI TO i1 i2 l1 l2 : Addr} {n : Nat} (hh : A.handled = none) (D : ZipApart z TI TO i1 i2 l1 l2) (hS : S ≠ z ∧ S ≠ TI ∧ S ≠ TO ∧ S ≠ i1 ∧ S ≠ i2 ∧ S ≠ l1 ∧ S ≠ l2)
    (hn : n = min xs.size ys.size) (hnl : n ≤ sizeLine) (res : Value) (c₀ : Nat) (hz0 : IsZip s.heap z TI TO .none) (st : ZSt s.heap z TI TO i1 i2 l1 l2 S xs ys 0) (hSg : s.heap.get? S = some { cls := .type "list", data := .seq #[] c₀ })
    (hR : ∀ h' acc c as, (∀ b o, b ≠ S → b ≠ z → b ≠ TO → b ≠ i1 → b ≠ i2 → s.heap.get? b = some o → h'.get? b = some o) → h'.get? S = some { cls := .type "list", dict := none, data := .seq acc c, slots := #[] } → as.length = n → ZG xs ys s.heap.objs.size h' as →
      acc.toList = as.map Value.ref → R (.ok (.ret res)) { s with heap := h' }) :
    wpAny (model prog w) A.in1 (Builtin.List.listExtendWith (.ref S) (.ref z) res)
      (fun fin s' => match fin with | .done f => R (.ok f) s' | .again c' => c'.quiet = true ∧ codeAny (model prog w) A c' R s') (fun e s' => R (.error e) s') s := by
  have hT : s.TypeIs (.ref z) "zip" := ⟨_, hz0, rfl⟩
  obtain ⟨s1, s2, s3, s4, s5, s6, s7⟩ := id hS
  have hlo : S < s.heap.objs.size ∧ z < s.heap.objs.size ∧ TO < s.heap.objs.size ∧ i1 < s.heap.objs.size ∧ i2 < s.heap.objs.size := by
    obtain ⟨_, _, e3⟩ := st.to
    obtain ⟨_, e4, _⟩ := st.it1
    obtain ⟨_, e5, _⟩ := st.it2
    exact ⟨Heap.lt_size hSg, Heap.lt_size hz0, Heap.lt_size e3, Heap.lt_size e4, Heap.lt_size e5⟩
  unfold Builtin.List.listExtendWith
  refine wpAny_bind (wpAny_typeOf hT ?_)
  have h1 : Builtin.List.listSameRef (.ref S) (.ref z) = false := by simp [Builtin.List.listSameRef, s1]
  have h2 : (Value.type "zip" == Value.type "list") = false := by decide
  have h3 : (Value.type "zip" == Value.type "tuple") = false := by decide
  simp only [h1, h2, h3, Bool.or_false, Bool.false_eq_true, if_false]
  refine wpAny_bind (wpAny_pyIter_zip hz0 ?_)
  refine wpAny_bind (wpAny_holding ?_)
  unfold Builtin.List.listLengthHint
  refine wpAny_bind (wpAny_specialOf hT F.zip_no_len ?_)
  show wpAny _ A.in1 (specialOf (Value.ref z) (Str.ofString "__length_hint__") >>= _) _ _ _
  refine wpAny_bind (wpAny_specialOf hT F.zip_no_hint ?_)
  refine wpAny_pure ?_
  show wpAny _ A.in1 (rule "list.extend.makes-room" >>= fun _ => Builtin.List.listTouch (.ref S) >>= fun _ =>
    again (.builtin "list.extend.loop" ⟨[.ref S, .ref z, res], []⟩)) _ _ _
  refine wpAny_bind (wpAny_rule ?_)
  refine wpAny_bind ?_
  show wpAny _ A.in1 (updateSeq S (·.push .none) >>= fun _ => updateSeq S (·.pop)) _ _ _
  refine wpAny_bind (wpAny_updateSeq hSg rfl ?_)
  have hS₂ := Heap.get?_update_self (Obj.mapSeq (·.push Value.none)) hSg rfl
  refine wpAny_updateSeq hS₂ rfl ?_
  have hS₃ := Heap.get?_update_self (Obj.mapSeq (·.pop)) hS₂ rfl
  have oth : ∀ b o, b ≠ S → s.heap.get? b = some o → ((s.heap.update S (Obj.mapSeq (·.push Value.none))).update S (Obj.mapSeq (·.pop))).get? b = some o :=
    fun b o hb e => (Heap.get?_update_other _ _ (Ne.symm hb)).trans ((Heap.get?_update_other _ _ (Ne.symm hb)).trans e)
  refine wpAny_pure ⟨plainId_quiet F.plain_extend_loop _, zl_loop (s := s) (h₁ := s.heap) (lo := s.heap.objs.size) hh D hS hlo hn hnl res (fun h' acc c as hk hS' hl hG hacc => hR h' acc c as hk hS' hl hG hacc)
    n 0 _ _ _ [] rfl (Nat.zero_le _) (st.keep oth hS) (fun b o hb _ _ _ _ e => oth b o hb e) hS₃ rfl rfl ⟨List.Pairwise.nil, (fun _ ha => nomatch ha), (fun j a hj => by simp at hj)⟩ ?_⟩
  rw [Heap.size_update, Heap.size_update]
  exact Nat.le_refl _
theorem zl_call {Q : Value → Shared → Prop} {z TI TO i1 i2 l1 l2 : Addr} {n : Nat} (hh : A.handled = none) (D : ZipApart z TI TO i1 i2 l1 l2) (hn : n = min xs.size ys.size) (hnl : n ≤ sizeLine)
    (hz : IsZip s.heap z TI TO .none) (hTI : IsPair s.heap TI (.ref i1) (.ref i2)) (hTO : ∃ u v, IsPair s.heap TO u v) (h1 : s.heap.IsListIter i1 l1 0) (h2 : s.heap.IsListIter i2 l2 0) (hl1 : s.heap.IsList l1 xs) (hl2 : s.heap.IsList l2 ys)
    (hQ : ∀ h' acc c as, (∀ b o, b ≠ z → b ≠ TO → b ≠ i1 → b ≠ i2 → s.heap.get? b = some o → h'.get? b = some o) → h'.get? s.heap.objs.size = some { cls := .type "list", dict := none, data := .seq acc c, slots := #[] } → as.length = n →
      ZG xs ys (s.heap.objs.size + 1) h' as → acc.toList = as.map Value.ref → Q (.ref s.heap.objs.size) { s with heap := h' }) :
    wpAny (model prog w) A (call (.type "list") [.ref z]) Q E s := by
  refine callType_codes (Q₁ := fun obj s₁ => obj = .ref s.heap.objs.size ∧ s₁ = { s with heap := s.heap.push { cls := .type "list", data := .seq #[] } }) F.called_list (F.typeCall_list_1 _) F.entry_list_init
    (code_list_new _ ⟨rfl, rfl⟩) fun obj s₁ h₁ => ?_
  obtain ⟨rfl, rfl⟩ := h₁
  have hSg : (s.heap.push { cls := .type "list", data := .seq #[] }).get? s.heap.objs.size = some { cls := .type "list", data := .seq #[] } := Heap.get?_push_size _ rfl
  have lt : ∀ {b : Addr} {o : Obj}, s.heap.get? b = some o → s.heap.objs.size ≠ b := fun e => Nat.ne_of_gt (Heap.lt_size e)
  have hS : s.heap.objs.size ≠ z ∧ s.heap.objs.size ≠ TI ∧ s.heap.objs.size ≠ TO ∧ s.heap.objs.size ≠ i1 ∧ s.heap.objs.size ≠ i2 ∧ s.heap.objs.size ≠ l1 ∧ s.heap.objs.size ≠ l2 := by
    obtain ⟨_, _, e3⟩ := hTO
    obtain ⟨_, e4, _⟩ := h1
    obtain ⟨_, e5, _⟩ := h2
    obtain ⟨_, e6, _⟩ := hl1
    obtain ⟨_, e7, _⟩ := hl2
    exact ⟨lt hz, lt hTI, lt e3, lt e4, lt e5, lt e6, lt e7⟩
  refine ⟨⟨_, hSg, rfl⟩, F.args_list_init_2 _ _, ?_⟩
  show wpAny _ _ (do let old ← Builtin.List.listItems (.ref s.heap.objs.size); Builtin.List.listUpdate (.ref s.heap.objs.size) (fun _ => #[]); letGo old.toList.reverse; Builtin.List.listExtendWith (.ref s.heap.objs.size) (.ref z) .none) _ _ _
  refine wpAny_bind ?_
  unfold Builtin.List.listItems
  refine wpAny_bind (wpAny_seqItems hSg rfl (wpAny_pure ?_))
  show wpAny _ _ (updateSeq s.heap.objs.size (fun _ => #[]) >>= fun _ => letGo (#[] : Array Value).toList.reverse >>= fun _ => Builtin.List.listExtendWith (.ref s.heap.objs.size) (.ref z) .none) _ _ _
  refine wpAny_bind (wpAny_updateSeq hSg rfl ?_)
  have hS₂ := Heap.get?_update_self (Obj.mapSeq (fun _ => (#[] : Array Value))) hSg rfl
  have kp : ∀ b o, s.heap.get? b = some o → ((s.heap.push { cls := .type "list", data := .seq #[] }).update s.heap.objs.size (Obj.mapSeq (fun _ => (#[] : Array Value)))).get? b = some o :=
    fun b o e => (Heap.get?_update_other _ _ (lt e)).trans (Heap.get?_push_of_some _ e)
  refine wpAny_bind (wpAny_letGo ?_)
  refine zl_extend (xs := xs) (ys := ys) (A := A.in1) hh D hS hn hnl .none _ (kp _ _ hz) ⟨.inl (kp _ _ hz), kp _ _ hTI, let ⟨u, v, e⟩ := hTO; ⟨u, v, kp _ _ e⟩, h1.at fun o e => kp _ o e, h2.at fun o e => kp _ o e, hl1.at fun o e => kp _ o e, hl2.at fun o e => kp _ o e⟩ hS₂ fun h' acc c as hk hS' hl hG hacc => ?_
  refine ⟨rfl, hQ h' acc c as (fun b o b1 b2 b3 b4 e => hk b o (fun q => lt e q.symm) b1 b2 b3 b4 (kp b o e)) hS' hl ⟨hG.rise, fun a ha => ?_, hG.pairs⟩ hacc⟩
  have := hG.above a ha
  rw [Heap.size_update, Heap.size_push] at this
  exact this
end
end PySem
namespace L2
open PySem PySem.Spec PyProof.Rows
/-- new objects, laid at once -/
def joinH (H N : Hp) : Hp := fun b => match N b with
  | some o => some o
  | none => H b
theorem joinH_new {H N : Hp} {b : Addr} {o : HO} (h : N b = some o) : joinH H N b = some o := by unfold joinH; rw [h]
theorem joinH_old {H N : Hp} {b : Addr} (h : N b = none) : joinH H N b = H b := by unfold joinH; rw [h]
section
variable {X : Cx} {pins : List (Addr × Obj)} {σ : St} {H : Hp} {s : Shared}
theorem joinH_keeps {N : Hp} (I : Inv X pins σ H s) (hN : ∀ a o, N a = some o → s.heap.objs.size ≤ a) {b : Addr} {u : HO} (e : H b = some u) : joinH H N b = some u := by
  cases q : N b with
  | none => rw [joinH_old q]; exact e
  | some o => exact absurd (Nat.lt_of_lt_of_le (I.hok.lt e) (hN b o q)) (Nat.lt_irrefl _)
theorem Inv.laidN {h' : Heap} {t' : Nat} {N : Hp} (I : Inv X pins σ H s) (k : ∀ b u, s.heap.get? b = some u → h'.get? b = some u) (hN : ∀ a o, N a = some o → s.heap.objs.size ≤ a)
    (new : ∀ a o, N a = some o → ObjOk X.prog X.w (joinH H N) h' a o) : Inv X pins σ (joinH H N) { s with heap := h', toks := t' } := by
  have old : ∀ b u, H b = some u → joinH H N b = some u := fun b u e => joinH_keeps I hN e
  refine I.un ⟨fun b o q _ _ _ => k b o q, fun b o q _ _ _ => ⟨o.slots, k b o q⟩, fun b o q n _ => ?_, fun b o q _ => ⟨o, k b o q⟩, fun b xs q => old _ _ q, fun b o u q => old _ _ q, fun b ps q => ⟨#[], by rw [old _ _ q]; simp⟩⟩ fun b u e => ?_
  · have : N b = none := by
      cases z : N b with
      | none => rfl
      | some o' => exact absurd (Nat.lt_of_lt_of_le (Heap.lt_size q) (hN b o' z)) (Nat.lt_irrefl _)
    rw [joinH_old this]; exact n
  · cases q : N b with
    | some o' =>
      rw [joinH_new q] at e
      cases e
      exact new b _ q
    | none => rw [joinH_old q] at e; exact (I.hok b u e).stay (fun c v _ q => k c v q) (fun c q => old _ _ q) fun c xs q => old _ _ q
end
theorem vals_refs : ∀ as : List Addr, Vals (as.map V.ref) (as.map Value.ref)
  | [] => .nil
  | _ :: as => .cons rfl (vals_refs as)
/-- list(zip(a, b)) -/
def tLZ (K : PySem.W.Frag) (ta : TA) : TE := fun σ H Q => ta σ H fun vs H1 => ∃ a b xs ys, vs = [.ref a, .ref b] ∧ SqL K H1 a xs ∧ SqL K H1 b ys ∧
  ∀ (l : Addr) (as : List Addr) (H2 : Hp), H1 l = none → as.length = min xs.length ys.length → Same H1 H2 → H2 l = some (.lst (as.map V.ref)) → (∀ (j : Nat) (x y : V), xs[j]? = some x → ys[j]? = some y → ∃ c, as[j]? = some c ∧ H2 c = some (.tup [x, y])) → Q (.ref l) H2
theorem pe_listzip {X : Cx} {e e2 : Expr} {ta : TA} {p pos p2 pos2 : Pos} (hc : X.calm = true) (hg : Gl X "zip") (hm : X.mg "zip" = none) (hg' : Gl X "list") (hm' : X.mg "list" = none) (ha : PA X [e, e2] ta)
    (hs : starEach [e, e2] X.env = (false, eval e X.env) :: starEach [e2] X.env := by rfl) (hpl : (backTo pos (starEach [e2] X.env)).any (·.1) = false := by rfl)
    (he : starEach [.Call (.Name "zip" p) [e, e2] [] pos] X.env = (false, eval (.Call (.Name "zip" p) [e, e2] [] pos) X.env) :: starEach [] X.env := by rfl)
    (ht : backTo pos2 (starEach [.Call (.Name "zip" p) [e, e2] [] pos] X.env) = [(false, eval (.Call (.Name "zip" p) [e, e2] [] pos) X.env)] := by rfl) :
    PE X (.Call (.Name "list" p2) [.Call (.Name "zip" p) [e, e2] [] pos] [] pos2) (tLZ X.K ta) := by
  intro pins s σ H Q I h
  refine wpAny_Call_Name_kw (ld_blt I hg' hm' PyProof.Rows.boot_list ?_)
  refine PyProof.Rows.callWith_type1 ?_ he rfl
  rw [ht]
  refine Calls.spliced_cons (Call_ (ld_blt I hg hm boot_zip5 (PyProof.Rows.callWith_type1 (thn (ha pos pins s σ H _ I h) fun us s1 ⟨vs, H1, I1, r1, q1⟩ => ?_) hs hpl)))
  obtain ⟨a, b, xs, ys, ex, hqx, hqy, q⟩ := q1
  subst ex
  cases r1 with
  | cons r rr =>
    cases rr with
    | cons r' rr =>
      cases rr
      cases r
      cases r'
      obtain ⟨its, rv, p1, z1⟩ := I1.list hqx
      obtain ⟨its2, rv2, p2, z2⟩ := I1.list hqy
      have la : a < s1.heap.objs.size := p1.lt
      have lb : b < s1.heap.objs.size := p2.lt
      have e1 := rv.length
      have e2 := rv2.length
      refine call_zip_2 p1.isList p2.isList fun h' hz hTI hTO h1 h2 hsz hk => Calls.spliced_nil ?_
      refine zl_call (s := { s1 with heap := h' }) (n := min xs.length ys.length) (I.ok.hd hc) (PySem.W.ktu_apart s1.heap.objs.size a b la lb) (by rw [List.size_toArray, List.size_toArray, e1, e2]) (Nat.le_trans (Nat.min_le_left _ _) z1) hz hTI ⟨_, _, hTO⟩ h1 h2
        (p1.isList.at fun o e => hk _ o e) (p2.isList.at fun o e => hk _ o e) fun h2' acc c as hk2 hl has hG hacc => ?_
      have ne4 : ∀ {u : Addr} {o : Obj} {v : Addr}, s1.heap.get? u = some o → s1.heap.objs.size ≤ v → u ≠ v := fun e q => Nat.ne_of_lt (Nat.lt_of_lt_of_le (Heap.lt_size e) q)
      have hk3 : ∀ b o, s1.heap.get? b = some o → h2'.get? b = some o := fun b o e =>
        hk2 b o (ne4 e (Nat.le_add_right _ _)) (ne4 e (Nat.le_add_right _ _)) (ne4 e (Nat.le_refl _)) (ne4 e (Nat.le_add_right _ _)) (hk b o e)
      have hl' : h2'.get? h'.objs.size = some { cls := .type "list", dict := none, data := .seq acc c, slots := #[] } := hl
      have hG' : ZG its.toArray its2.toArray (h'.objs.size + 1) h2' as := hG
      have nd : as.Nodup := hG'.rise.imp fun q => Nat.ne_of_lt q
      have low : s1.heap.objs.size ≤ h'.objs.size := by rw [hsz]; exact Nat.le_add_right _ _
      let N : Hp := fun b => if b = h'.objs.size then some (.lst (as.map V.ref)) else if b ∈ as then some (.tup [xs.getD (as.idxOf b) .non, ys.getD (as.idxOf b) .non]) else none
      have hNs : N h'.objs.size = some (.lst (as.map V.ref)) := if_pos rfl
      have hNa : ∀ (j : Nat) (b : Addr) (x y : V), as[j]? = some b → xs[j]? = some x → ys[j]? = some y → N b = some (.tup [x, y]) := fun j b x y ej ex ey => by
        have hb := List.mem_of_getElem? ej
        have hne : b ≠ h'.objs.size := Nat.ne_of_gt (hG'.above b hb)
        have hj : as.idxOf b = j := by
          obtain ⟨hjl, hjb⟩ := List.getElem?_eq_some_iff.mp ej
          rw [← hjb]
          exact nd.idxOf_getElem j hjl
        show (if b = h'.objs.size then _ else if b ∈ as then _ else _) = _
        rw [if_neg hne, if_pos hb, hj, List.getD_eq_getElem?_getD, List.getD_eq_getElem?_getD, ex, ey]; rfl
      have hN : ∀ b o, N b = some o → s1.heap.objs.size ≤ b := fun b o e => by
        by_cases c1 : b = h'.objs.size
        · rw [c1]; exact low
        · by_cases c2 : b ∈ as
          · exact Nat.le_trans low (Nat.le_of_lt (hG'.above b c2))
          · have e' : (if b = h'.objs.size then _ else if b ∈ as then _ else none) = some o := e
            rw [if_neg c1, if_neg c2] at e'
            cases e'
      have get : ∀ (j : Nat) (b : Addr), as[j]? = some b → ∃ x y u v, xs[j]? = some x ∧ ys[j]? = some y ∧ RelV x u ∧ RelV y v ∧ IsPair h2' b u v := fun j b ej => by
        obtain ⟨u, v, eu, ev, ep⟩ := hG'.pairs j b ej
        have hjl : j < as.length := (List.getElem?_eq_some_iff.mp ej).1
        have hx : xs[j]? = some (xs[j]'(by omega)) := List.getElem?_eq_getElem (by omega)
        have hy : ys[j]? = some (ys[j]'(by omega)) := List.getElem?_eq_getElem (by omega)
        obtain ⟨u', eu', ru⟩ := rv.get hx
        obtain ⟨v', ev', rv'⟩ := rv2.get hy
        have z1 : u' = u := by simpa [eu'] using eu
        have z2 : v' = v := by simpa [ev'] using ev
        subst z1 z2
        exact ⟨_, _, u', v', hx, hy, ru, rv', ep⟩
      have I2 : Inv X pins σ (joinH H1 N) { s1 with heap := h2', toks := s1.toks } := I1.laidN hk3 hN fun b o e => by
        by_cases c1 : b = h'.objs.size
        · subst c1
          rw [hNs] at e
          cases e
          have ea : acc = (as.map Value.ref).toArray := by rw [← hacc]
          refine ⟨?_, as.map Value.ref, c, vals_refs as, ?_⟩
          · rw [List.length_map, has]; exact Nat.le_trans (Nat.min_le_left _ _) z1
          · rw [← ea]; exact hl'
        · by_cases c2 : b ∈ as
          · obtain ⟨j, ej⟩ := List.mem_iff_getElem?.mp c2
            obtain ⟨x, y, u, v, ex, ey, ru, rv', ep⟩ := get j b ej
            rw [hNa j b x y ej ex ey] at e
            cases e
            exact ⟨by show 2 ≤ sizeLine; decide, [u, v], .cons ru (.cons rv' .nil), ⟨_, ep, rfl, _, rfl⟩⟩
          · have e' : (if b = h'.objs.size then _ else if b ∈ as then _ else none) = some o := e
            rw [if_neg c1, if_neg c2] at e'
            cases e'
      refine ⟨.ref h'.objs.size, joinH H1 N, I2, rfl, q _ as _ (I1.hok.fresh low) has (fun b u e => joinH_keeps I1 hN e) (joinH_new hNs) fun j x y ex ey => ?_⟩
      have hjl : j < as.length := by
        have h3 := (List.getElem?_eq_some_iff.mp ex).1
        have h4 := (List.getElem?_eq_some_iff.mp ey).1
        omega
      exact ⟨as[j], List.getElem?_eq_getElem hjl, joinH_new (hNa j _ x y (List.getElem?_eq_getElem hjl) ex ey)⟩
/-- {k: v}, the key a tuple of numbers and texts; the new dict stands empty while the pair is made -/
def tDispT (tk tv : TE) : TE := fun σ H Q => ∀ p, H p = none → tk σ (upd H p (.dT [])) fun x H1 => tv σ H1 fun y H2 => ∃ b k, x = .ref b ∧ H2 b = some (.tup (k.map kV)) ∧ H2 p = some (.dT []) ∧ Q (.ref p) (upd H2 p (.dT [(k, y)]))
theorem pe_dispT {X : Cx} {pos : Pos} {k v : Expr} {tk tv : TE} (hu : X.A.units + 1 < cLine) (hk : PE X k tk) (hv : PE X v tv) : PE X (.Dict [some k] [v] pos) (tDispT tk tv) := by
  intro pins s σ H Q I q
  have hn := I.hok.fresh (Nat.le_refl s.heap.objs.size)
  have I1 := I.laid (a := s.heap.objs.size) (o := .dT []) (h' := s.heap.push { cls := .type "dict", data := .dict #[] }) (t' := s.toks) (fun _ _ q => Heap.get?_push_of_some _ q) (Nat.le_refl _) (dt_empty s.heap I.big)
  refine wpAny_Dict_any rfl rfl (by simp) (by show 1 ≤ 15; decide) (pairTrees_cons_walk (thn (hk pins _ σ _ _ I1 (q _ hn)) fun u s1 ⟨x, H1, I1, rx, q1⟩ => thn (hv pins s1 σ H1 _ I1 q1) fun w2 s2 ⟨y, H2, I2, ry, b, ks, ex, eb, e, q2⟩ => pairTrees_nil_walk ?_))
  subst ex
  cases (show u = Value.ref b from rx)
  obtain ⟨z, hd, xs, rel, dd⟩ := dt_of I2.hok e
  cases rel
  unfold storeAll
  rw [List.forIn_cons]
  refine wpAny_bind (wpAny_bind (wpAny_dictSet_heap (hsz := Nat.zero_le _) (knd := tupleKind (mixKind X.prog X.w)) (show X.A.units < cLine from Nat.lt_of_succ_lt hu) (key_of I2.hok eb) dd fun h' dd' hs => wpAny_pure ?_))
  show wpAny _ _ (forIn [] PUnit.unit _) _ _ _
  rw [List.forIn_nil]
  refine wpAny_pure ⟨.ref s.heap.objs.size, upd H2 s.heap.objs.size (.dT [(ks, y)]), ?_, rfl, q2⟩
  obtain ⟨q, es, ep, hq, h2, h3, h4, _, h5⟩ := dd'
  have rel0 : KT H2 [] [] := .nil
  refine d_write I2 (by rw [e]; exact True.intro) hs ⟨q, hq⟩ ⟨by show 1 ≤ sizeLine; decide, hd, _, (rel0.put ks eb ry).keeps fun c ys ec => ?_, q, es, ep, hq, h2, h3, h4, h5⟩
  rw [upd_ne (ne_of ec e (fun z => nomatch z))]
  exact ec
end L2
/-! A SORT HANGS ON ITS COMPARISONS ALONE: what holds of its steps in one state holds in another in which they come out alike. -/
namespace PySem
open Sem (wp wp_bind' wp_mono wp_pure' wp_attempt)
open PyProof.Rows
section
variable (M : Model) (A : Around) (kd : SortKind) (s₁ s₂ : Shared)
/-- what a comparison says in the first state it says in the second, and both stay as they are -/
def CmpLike : Prop := ∀ (Γ : Ctx) (p : Pos) (x y : Value) (Q : Bool → Pos → Shared → Prop) (E : Value → Pos → Shared → Prop), Γ.In A → wp M Γ (keyLt' kd x y) Q E p s₁ →
  ∃ c : Bool, (∃ p', Q c p' s₁) ∧ ∀ (q : Pos) (Q' : Bool → Pos → Shared → Prop) (E' : Value → Pos → Shared → Prop), (∀ p', Q' c p' s₂) → wp M Γ (keyLt' kd x y) Q' E' q s₂
def SameSort {α : Type} (m : StateT SortSt Sem α) : Prop := ∀ (Γ : Ctx) (p q : Pos) (st : SortSt) (Q : α → SortSt → Pos → Shared → Prop), Γ.In A → kindOf st = kd →
  wp M Γ (m.run st) (fun r p' s => Q r.1 r.2 p' s) (fun _ _ _ => False) p s₁ → wp M Γ (m.run st) (fun r _ s => s = s₂ ∧ kindOf r.2 = kd ∧ ∃ p', Q r.1 r.2 p' s₁) (fun _ _ _ => False) q s₂
end
section
variable {M : Model} {A : Around} {kd : SortKind} {s₁ s₂ : Shared} {α β : Type}
theorem same_pure (a : α) : SameSort M A kd s₁ s₂ (pure a : StateT SortSt Sem α) := by
  intro Γ p q st Q hΓ hk h
  rw [StateT.run_pure, wp_pure'] at h ⊢
  exact ⟨rfl, hk, p, h⟩
theorem same_bind {m : StateT SortSt Sem α} {f : α → StateT SortSt Sem β} (hm : SameSort M A kd s₁ s₂ m) (hf : ∀ a, SameSort M A kd s₁ s₂ (f a)) : SameSort M A kd s₁ s₂ (m >>= f) := by
  intro Γ p q st Q hΓ hk h
  rw [StateT.run_bind, wp_bind'] at h ⊢
  refine wp_mono M Γ _ (fun r q' s' hr => ?_) (fun _ _ _ z => z) q s₂ (hm Γ p q st (fun a st' p' s' => wp M Γ ((f a).run st') (fun r p' s => Q r.1 r.2 p' s) (fun _ _ _ => False) p' s') hΓ hk h)
  obtain ⟨rfl, hk', p', h'⟩ := hr
  exact hf r.1 Γ p' q' r.2 Q hΓ hk' h'
theorem same_ite {c : Prop} [Decidable c] {m f : StateT SortSt Sem α} (h1 : SameSort M A kd s₁ s₂ m) (h2 : SameSort M A kd s₁ s₂ f) : SameSort M A kd s₁ s₂ (if c then m else f) := by
  by_cases h : c
  · rw [if_pos h]; exact h1
  · rw [if_neg h]; exact h2
theorem same_get {f : SortSt → StateT SortSt Sem β} (hf : ∀ st, kindOf st = kd → SameSort M A kd s₁ s₂ (f st)) : SameSort M A kd s₁ s₂ (get >>= f) := by
  intro Γ p q st Q hΓ hk h
  rw [StateT.run_bind, wp_bind', StateT.run_get, wp_pure'] at h ⊢
  exact hf st hk Γ p q st Q hΓ hk h
theorem same_modify {f : SortSt → SortSt} (hf : ∀ st, kindOf (f st) = kindOf st) : SameSort M A kd s₁ s₂ (modify f : StateT SortSt Sem PUnit) := by
  intro Γ p q st Q hΓ hk h
  rw [StateT.run_modify, wp_pure'] at h ⊢
  exact ⟨rfl, (hf st).trans hk, p, h⟩
theorem same_set {st' : SortSt} (hf : kindOf st' = kd) : SameSort M A kd s₁ s₂ (set st' : StateT SortSt Sem PUnit) := by
  intro Γ p q st Q hΓ hk h
  rw [StateT.run_set, wp_pure'] at h ⊢
  exact ⟨rfl, hf, p, h⟩
theorem same_rule (tag : String) : SameSort M A kd s₁ s₂ (liftM (rule tag) : StateT SortSt Sem Unit) := by
  intro Γ p q st Q hΓ hk h
  have e : (liftM (rule tag) : StateT SortSt Sem Unit).run st = rule tag >>= fun a => pure (a, st) := rfl
  rw [e, wp_bind'] at h ⊢
  exact ⟨rfl, hk, p, h⟩
theorem same_uns (what : String) : SameSort M A kd s₁ s₂ (liftM (unsupported what : Sem α) : StateT SortSt Sem α) := by
  intro Γ p q st Q hΓ hk h
  have e : (liftM (unsupported what : Sem α) : StateT SortSt Sem α).run st = unsupported what >>= fun a => pure (a, st) := rfl
  rw [e, wp_bind'] at h
  exact False.elim h
theorem same_list {f : Nat → β → StateT SortSt Sem (ForInStep β)} (hf : ∀ x b, SameSort M A kd s₁ s₂ (f x b)) : ∀ (l : List Nat) (b : β), SameSort M A kd s₁ s₂ (forIn l b f)
  | [], b => by rw [List.forIn_nil]; exact same_pure b
  | x :: l, b => by
    rw [List.forIn_cons]
    refine same_bind (hf x b) fun r => ?_
    cases r with
    | done b' => exact same_pure b'
    | yield b' => exact same_list hf l b'
theorem same_for {a c : Nat} {f : Nat → β → StateT SortSt Sem (ForInStep β)} {b : β} (hf : ∀ x b, SameSort M A kd s₁ s₂ (f x b)) : SameSort M A kd s₁ s₂ (forIn [a:c] b f) := by
  rw [Std.Legacy.Range.forIn_eq_forIn_range']
  exact same_list hf _ _
theorem same_lt (hC : CmpLike M A kd s₁ s₂) (x y : Keyed) : SameSort M A kd s₁ s₂ (lt' x y) := by
  rw [lt'_eq]
  refine same_get fun st hst => same_bind ?_ fun r => ?_
  · intro Γ p q st' Q hΓ hk h
    have e : (liftM (keyLt' (kindOf st) x.1 y.1).attempt : StateT SortSt Sem (Except Value Bool)).run st' = (keyLt' (kindOf st) x.1 y.1).attempt >>= fun a => pure (a, st') := rfl
    have h2 : wp M Γ ((liftM (keyLt' (kindOf st) x.1 y.1).attempt : StateT SortSt Sem (Except Value Bool)).run st') (fun r p' s => Q r.1 r.2 p' s) (fun _ _ _ => False) p s₁ := h
    rw [e, wp_bind', wp_attempt, hst] at h2
    obtain ⟨c, ⟨p', hp'⟩, hc⟩ := hC Γ p x.1 y.1 _ _ hΓ h2
    show wp M Γ ((liftM (keyLt' (kindOf st) x.1 y.1).attempt : StateT SortSt Sem (Except Value Bool)).run st') _ _ q s₂
    rw [e, wp_bind', wp_attempt, hst]
    exact hc q _ _ fun p'' => ⟨rfl, hk, p', hp'⟩
  · cases r with
    | ok b => exact same_pure _
    | error e => exact same_bind (same_modify fun _ => rfl) fun _ => same_pure _
theorem same_elem (arr : Array Keyed) (i : Nat) : SameSort M A kd s₁ s₂ (elem' arr i) := by
  rw [elem'_eq]
  split
  · exact same_pure _
  · exact same_uns _
theorem same_ltAt (hC : CmpLike M A kd s₁ s₂) (i j : Nat) : SameSort M A kd s₁ s₂ (ltAt' i j) := by
  rw [ltAt'_eq]
  exact same_get fun st _ => same_bind (same_elem _ _) fun x => same_bind (same_elem _ _) fun y => same_lt hC x y
theorem same_reverse (i j : Nat) : SameSort M A kd s₁ s₂ (reverseSlice' i j) := by rw [reverseSlice'_eq]; exact same_modify fun _ => rfl
theorem same_moveDown (i j : Nat) : SameSort M A kd s₁ s₂ (moveDown' i j) := by rw [moveDown'_eq]; exact same_modify fun _ => rfl
theorem same_gallopSet (g : Nat) : SameSort M A kd s₁ s₂ (setMinGallop' g) := by rw [setMinGallop'_eq]; exact same_modify fun _ => rfl
theorem same_beyond (hC : CmpLike M A kd s₁ s₂) (left : Bool) (key : Keyed) (arr : Array Keyed) (base i : Nat) : SameSort M A kd s₁ s₂ (beyond' left key arr base i) := by
  unfold beyond'
  refine same_bind (same_elem _ _) fun x => ?_
  split
  · exact same_lt hC _ _
  · exact same_bind (same_lt hC _ _) fun _ => same_pure _
theorem same_countRun (hC : CmpLike M A kd s₁ s₂) (lo nrem : Nat) : SameSort M A kd s₁ s₂ (countRun' lo nrem) := by
  rw [countRun'_eq]
  repeat' (with_reducible first
    | exact same_pure _ | (refine same_get fun _ _ => ?_) | exact same_ltAt (by assumption) _ _ | exact same_elem _ _ | exact same_lt (by assumption) _ _ | exact same_beyond (by assumption) _ _ _ _ _ | exact same_reverse _ _ | exact same_moveDown _ _ | exact same_gallopSet _
    | exact same_rule _ | exact same_uns _ | exact same_modify fun _ => rfl | (refine same_for fun _ _ => ?_) | (refine same_bind ?_ fun _ => ?_) | (refine same_ite ?_ ?_) | split | (intro _) | (dsimp only))
theorem same_binary (hC : CmpLike M A kd s₁ s₂) (lo n ok : Nat) : SameSort M A kd s₁ s₂ (binarySort' lo n ok) := by
  rw [binarySort'_eq]
  repeat' (with_reducible first
    | exact same_pure _ | (refine same_get fun _ _ => ?_) | exact same_ltAt (by assumption) _ _ | exact same_elem _ _ | exact same_lt (by assumption) _ _ | exact same_beyond (by assumption) _ _ _ _ _ | exact same_reverse _ _ | exact same_moveDown _ _ | exact same_gallopSet _
    | exact same_rule _ | exact same_uns _ | exact same_modify fun _ => rfl | (refine same_for fun _ _ => ?_) | (refine same_bind ?_ fun _ => ?_) | (refine same_ite ?_ ?_) | split | (intro _) | (dsimp only))
theorem same_gallop (hC : CmpLike M A kd s₁ s₂) (left : Bool) (key : Keyed) (arr : Array Keyed) (base n hint : Nat) : SameSort M A kd s₁ s₂ (gallop' left key arr base n hint) := by
  rw [gallop'_eq]
  repeat' (with_reducible first
    | exact same_pure _ | (refine same_get fun _ _ => ?_) | exact same_ltAt (by assumption) _ _ | exact same_elem _ _ | exact same_lt (by assumption) _ _ | exact same_beyond (by assumption) _ _ _ _ _ | exact same_reverse _ _ | exact same_moveDown _ _ | exact same_gallopSet _
    | exact same_rule _ | exact same_uns _ | exact same_modify fun _ => rfl | (refine same_for fun _ _ => ?_) | (refine same_bind ?_ fun _ => ?_) | (refine same_ite ?_ ?_) | split | (intro _) | (dsimp only))
theorem same_mergeLo (hC : CmpLike M A kd s₁ s₂) (a b : Array Keyed) : SameSort M A kd s₁ s₂ (mergeLo' a b) := by
  rw [mergeLo'_eq]
  repeat' (with_reducible first
    | exact same_pure _ | (refine same_get fun _ _ => ?_) | exact same_elem _ _ | exact same_lt (by assumption) _ _ | exact same_gallop (by assumption) _ _ _ _ _ _ | exact same_gallopSet _
    | exact same_rule _ | exact same_uns _ | exact same_modify fun _ => rfl | (refine same_for fun _ _ => ?_) | (refine same_bind ?_ fun _ => ?_) | (refine same_ite ?_ ?_) | split | (intro _) | (dsimp only))
theorem same_mergeHi (hC : CmpLike M A kd s₁ s₂) (a b : Array Keyed) : SameSort M A kd s₁ s₂ (mergeHi' a b) := by
  rw [mergeHi'_eq]
  repeat' (with_reducible first
    | exact same_pure _ | (refine same_get fun _ _ => ?_) | exact same_elem _ _ | exact same_lt (by assumption) _ _ | exact same_gallop (by assumption) _ _ _ _ _ _ | exact same_gallopSet _
    | exact same_rule _ | exact same_uns _ | exact same_modify fun _ => rfl | (refine same_for fun _ _ => ?_) | (refine same_bind ?_ fun _ => ?_) | (refine same_ite ?_ ?_) | split | (intro _) | (dsimp only))
theorem same_setP {st : SortSt} {p : Array (Nat × Nat × Nat)} (h : kindOf st = kd) : SameSort M A kd s₁ s₂ (set (setPending st p) : StateT SortSt Sem PUnit) := same_set h
theorem same_mergeAt (hC : CmpLike M A kd s₁ s₂) (i : Nat) : SameSort M A kd s₁ s₂ (mergeAt' i) := by
  rw [mergeAt'_eq]
  refine same_get fun st hst => ?_
  repeat' (with_reducible first
    | exact same_pure _ | exact same_setP hst | (refine same_get fun _ _ => ?_) | exact same_elem _ _ | exact same_gallop hC _ _ _ _ _ _ | exact same_mergeLo hC _ _ | exact same_mergeHi hC _ _
    | exact same_uns _ | exact same_modify fun _ => rfl | (refine same_bind ?_ fun _ => ?_) | (refine same_ite ?_ ?_) | split | (intro _) | (dsimp only))
theorem same_sortRuns (hC : CmpLike M A kd s₁ s₂) : SameSort M A kd s₁ s₂ sortRuns' := by
  rw [sortRuns'_eq]
  repeat' (with_reducible first
    | exact same_pure _ | (refine same_get fun _ _ => ?_) | exact same_countRun hC _ _ | exact same_binary hC _ _ _ | exact same_mergeAt hC _
    | exact same_rule _ | exact same_uns _ | exact same_modify fun _ => rfl | (refine same_for fun _ _ => ?_) | (refine same_bind ?_ fun _ => ?_) | (refine same_ite ?_ ?_) | split | (intro _) | (dsimp only))
end
end PySem
/-! A state in which each key is a tuple of so many Nones: there a comparison tells numbers, whatever runs around it. -/
namespace PySem
open Sem (wp wp_bind' wp_mono wp_pure' wp_holding)
open PyProof.Rows PySem.W
def standTup (r : Nat) : Obj := { cls := .type "tuple", data := .seq (List.replicate r Value.none).toArray }
def standObj (rk : Addr → Option Nat) (a : Addr) : Obj := match rk a with
  | some r => standTup r
  | none => { cls := .none, data := .freed }
def standHeap (rk : Addr → Option Nat) (h : Heap) : Heap := { h with objs := ((List.range h.objs.size).map (standObj rk)).toArray }
theorem standHeap_get {rk : Addr → Option Nat} {h : Heap} {a : Addr} {o : Obj} (e : (standHeap rk h).get? a = some o) : ∃ r, rk a = some r ∧ o = standTup r := by
  obtain ⟨e1, e2⟩ := (Heap.get?_eq_some _ _ _).mp e
  have e3 : (((List.range h.objs.size).map (standObj rk)).toArray)[a]? = some o := e1
  rw [List.getElem?_toArray, List.getElem?_map] at e3
  obtain ⟨b, hb, eb⟩ := Option.map_eq_some_iff.mp e3
  have hba : b = a := by
    have hl := (List.getElem?_eq_some_iff.mp hb).1
    rw [List.length_range] at hl
    rw [List.getElem?_range hl] at hb
    exact (Option.some.inj hb).symm
  subst hba
  unfold standObj at eb
  cases q : rk b with
  | none => rw [q] at eb; subst eb; cases e2
  | some r => rw [q] at eb; exact ⟨r, rfl, eb.symm⟩
theorem standHeap_at {rk : Addr → Option Nat} {h : Heap} {a : Addr} {r : Nat} (hr : rk a = some r) (ha : a < h.objs.size) : (standHeap rk h).get? a = some (standTup r) := by
  refine (Heap.get?_eq_some _ _ _).mpr ⟨?_, rfl⟩
  show (((List.range h.objs.size).map (standObj rk)).toArray)[a]? = some (standTup r)
  rw [List.getElem?_toArray, List.getElem?_map, List.getElem?_range ha]
  show some (standObj rk a) = _
  unfold standObj
  rw [hr]
section
variable {M : Model} {Γ : Ctx} {s : Shared}
theorem items_inv {x : Value} {Q : Array Value → Pos → Shared → Prop} {E : Value → Pos → Shared → Prop} {p : Pos} (h : wp M Γ (Builtin.List.listItems x) Q E p s) :
    ∃ a o xs n, x = .ref a ∧ s.heap.get? a = some o ∧ o.data = .seq xs n ∧ Q xs p s := by
  unfold Builtin.List.listItems seqItems? at h
  rw [wp_bind'] at h
  cases x with
  | ref a =>
    dsimp only at h
    rw [wp_bind'] at h
    obtain ⟨o, ho, h⟩ := h
    have h' : wp M Γ (match o.data with | .seq xs _ => pure (some xs) | _ => pure none) (fun r p' s' => wp M Γ (match r with | some xs => pure xs | none => unsupported "internal:list-without-items") Q E p' s') E p s := h
    cases hd : o.data with
    | seq xs n => rw [hd] at h'; exact ⟨a, o, xs, n, rfl, ho, hd, h'⟩
    | _ => rw [hd] at h'; exact False.elim h'
  | builtin id =>
    dsimp only at h
    rw [wp_bind'] at h
    have h' : wp M Γ (notAStandIn (.builtin id)) (fun _ p' s' => False) E p s := h
    unfold notAStandIn at h'
    dsimp only at h'
    split at h'
    · exact False.elim h'
    · exact False.elim h'
  | _ => exact False.elim h
theorem none_inv {Q : Bool → Pos → Shared → Prop} {E : Value → Pos → Shared → Prop} {p : Pos} (h : wp M Γ (eqBool Value.none Value.none) Q E p s) : Q true p s := by
  unfold eqBool at h
  rw [wp_holding] at h
  have h' : wp M Γ (rule "eq-bool.same-object" >>= fun _ => pure true) Q E p s := h
  exact h'
theorem stand_loop {body : (Value × Value) × Nat → Option Bool × Unit → Sem (ForInStep (Option Bool × Unit))}
    (hb : ∀ (i : Nat) (Q : ForInStep (Option Bool × Unit) → Pos → Shared → Prop) (E : Value → Pos → Shared → Prop) (p : Pos), wp M Γ (body ((Value.none, Value.none), i) (none, ())) Q E p s → Q (.yield (none, ())) p s) :
    ∀ (l : List (Value × Value)) (i : Nat) (Q : Option Bool × Unit → Pos → Shared → Prop) (E : Value → Pos → Shared → Prop) (p : Pos), (∀ x ∈ l, x = (Value.none, Value.none)) → wp M Γ (forIn (l.zipIdx i) (none, ()) body) Q E p s → Q (none, ()) p s
  | [], i, Q, E, p, _, h => by
    rw [List.zipIdx_nil, List.forIn_nil] at h
    exact h
  | x :: l, i, Q, E, p, hl, h => by
    rw [List.zipIdx_cons, List.forIn_cons, hl x List.mem_cons_self, wp_bind'] at h
    have h2 := hb i _ E p h
    exact stand_loop hb l (i + 1) Q E p (fun y hy => hl y (List.mem_cons_of_mem _ hy)) h2
theorem zip_nones {m n : Nat} : ∀ x ∈ (List.replicate m Value.none).zip (List.replicate n Value.none), x = (Value.none, Value.none) := fun x hx => by
  obtain ⟨u, v⟩ := x
  obtain ⟨h1, h2⟩ := List.of_mem_zip hx
  rw [List.eq_of_mem_replicate h1, List.eq_of_mem_replicate h2]
theorem stand_inv {rk : Addr → Option Nat} {h₀ : Heap} (hs : s.heap = standHeap rk h₀) {b : Bool} {x y : Value} {Q : Bool → Pos → Shared → Prop} {E : Value → Pos → Shared → Prop} {p : Pos} (h : wp M Γ (keyLt' (tuples' b) x y) Q E p s) :
    ∃ a c ra rc, x = .ref a ∧ y = .ref c ∧ rk a = some ra ∧ rk c = some rc ∧ Q (decide (ra < rc)) p s := by
  rw [kat_lt_eq, wp_bind'] at h
  obtain ⟨a, o, xs, n, rfl, ho, hd, h⟩ := items_inv h
  rw [wp_bind'] at h
  obtain ⟨c, o2, ys, n2, rfl, ho2, hd2, h⟩ := items_inv h
  rw [hs] at ho ho2
  obtain ⟨ra, hra, rfl⟩ := standHeap_get ho
  obtain ⟨rc, hrc, rfl⟩ := standHeap_get ho2
  have ex : xs = (List.replicate ra Value.none).toArray := by unfold standTup at hd; injection hd with hd; exact hd.symm
  have ey : ys = (List.replicate rc Value.none).toArray := by unfold standTup at hd2; injection hd2 with hd2; exact hd2.symm
  subst ex ey
  rw [wp_bind'] at h
  have h2 := stand_loop (fun i Q E p hq => ?_) _ _ _ _ _ (by rw [List.toList_toArray, List.toList_toArray]; exact zip_nones) h
  · refine ⟨a, c, ra, rc, rfl, rfl, hra, hrc, ?_⟩
    have h3 : Q (decide ((List.replicate ra Value.none).toArray.size < (List.replicate rc Value.none).toArray.size)) p s := h2
    rw [List.size_toArray, List.size_toArray, List.length_replicate, List.length_replicate] at h3
    exact h3
  · dsimp only at hq
    rw [wp_bind'] at hq
    exact none_inv hq
end
section
variable {prog : Program} {w : World} {s : Shared}
theorem stand_lex {A : Around} {b fin : Bool} {Q : Bool → Shared → Prop} (h : Q fin s) : ∀ (l : List (Value × Value)) (i : Nat), (∀ x ∈ l, x = (Value.none, Value.none)) → KatLex prog w A b fin Q l i s
  | [], i, _ => kat_nil h
  | x :: l, i, hl => by
    rw [hl x List.mem_cons_self]
    exact kat_cons ((PySem.SeqAt.EqAt.same Value.none) prog w _ _ (kat_yes (stand_lex h l (i + 1) fun y hy => hl y (List.mem_cons_of_mem _ hy))))
/-- keys by numbers -/
@[reducible] def standKind (rk : Addr → Option Nat) : PyProof.Rows.KeyKind where
  toKeyOrd := PyProof.Rows.intKind.toKeyOrd
  keyOf := fun v => match v with
    | .ref a => (rk a).map fun (r : Nat) => (r : Int)
    | _ => none
  dflt := 0
theorem stand_ltAt {rk : Addr → Option Nat} {h₀ : Heap} (hs : s.heap = standHeap rk h₀) (hrk : ∀ a r, rk a = some r → a < h₀.objs.size) (b : Bool) : PyProof.Rows.G.LtAt prog w s (standKind rk) (tuples' b) := by
  intro A E x y u v Q hx hy h
  cases x with
  | ref a =>
    cases y with
    | ref c =>
      obtain ⟨ra, hra, rfl⟩ := Option.map_eq_some_iff.mp (show (rk a).map (fun (r : Nat) => (r : Int)) = some u from hx)
      obtain ⟨rc, hrc, rfl⟩ := Option.map_eq_some_iff.mp (show (rk c).map (fun (r : Nat) => (r : Int)) = some v from hy)
      refine kat_lt (by rw [hs]; exact standHeap_at hra (hrk a ra hra)) rfl (by rw [hs]; exact standHeap_at hrc (hrk c rc hrc)) rfl ?_
      rw [List.toList_toArray, List.toList_toArray]
      refine stand_lex ?_ _ _ zip_nones
      have h' : Q (decide ((ra : Int) < (rc : Int))) s := h
      have e : decide ((List.replicate ra Value.none).toArray.size < (List.replicate rc Value.none).toArray.size) = decide ((ra : Int) < (rc : Int)) := by
        rw [List.size_toArray, List.size_toArray, List.length_replicate, List.length_replicate, decide_eq_decide]; omega
      rw [e]; exact h'
    | _ => cases hy
  | _ => cases hx
end
end PySem
/-! Words sorted by their length and themselves. -/
namespace PySem
open Sem (wp wp_bind' wp_mono wp_pure')
open PyProof.Rows PySem.W
abbrev intO : PyProof.Rows.KeyOrd := PyProof.Rows.intKind.toKeyOrd
/-- shorter words first; of equally long ones, item by item -/
def wordLt (a b : List Int) : Bool := PyProof.Rows.lexLt intO ((a.length : Int) :: a) ((b.length : Int) :: b)
theorem lex_two : ∀ a b : List Int, PyProof.Rows.lexLt intO a b = HT.lexLt a b
  | [], [] => rfl
  | [], _ :: _ => rfl
  | _ :: _, [] => rfl
  | x :: a, y :: b => by
    by_cases e : x = y
    · subst e
      rw [PyProof.Rows.lex_self, HT.lexLt_cons, if_pos rfl, lex_two a b]
    · rw [PyProof.Rows.lex_diff (O := intO) e, HT.lexLt_cons, if_neg e]
theorem wordLt_same {a b : List Int} (h : (a.length : Int) = (b.length : Int)) : wordLt a b = HT.lexLt a b := by
  unfold wordLt
  rw [h, PyProof.Rows.lex_self, lex_two]
theorem wordLt_diff {a b : List Int} (h : ¬ (a.length : Int) = (b.length : Int)) : wordLt a b = decide ((a.length : Int) < (b.length : Int)) := PyProof.Rows.lex_diff (O := intO) h
theorem wordLt_irrefl (a : List Int) : wordLt a a = false := PyProof.Rows.lex_irrefl _
theorem wordLt_neg {a b c : List Int} (h : wordLt a c = true) : wordLt a b = true ∨ wordLt b c = true := PyProof.Rows.lex_negTrans _ _ _ h
theorem wordLt_total {a b : List Int} (h1 : wordLt a b = false) (h2 : wordLt b a = false) : a = b := by
  have := PyProof.Rows.lex_total _ _ h1 h2
  injection this
theorem filt_le {p q : List Int → Bool} : ∀ {l : List (List Int)}, (∀ u ∈ l, p u = true → q u = true) → (l.filter p).length ≤ (l.filter q).length
  | [], _ => Nat.le_refl _
  | x :: l, h => by
    have ih := filt_le (l := l) fun u hu => h u (List.mem_cons_of_mem _ hu)
    have hx := h x List.mem_cons_self
    rw [List.filter_cons, List.filter_cons]
    by_cases c : p x = true
    · rw [if_pos c, if_pos (hx c), List.length_cons, List.length_cons]; omega
    · rw [if_neg c]
      by_cases d : q x = true
      · rw [if_pos d, List.length_cons]; omega
      · rw [if_neg d]; exact ih
theorem filt_lt {p q : List Int → Bool} {x : List Int} : ∀ {l : List (List Int)}, (∀ u ∈ l, p u = true → q u = true) → x ∈ l → p x = false → q x = true → (l.filter p).length < (l.filter q).length
  | [], _, hx, _, _ => by cases hx
  | y :: l, h, hx, hp, hq => by
    have hy := h y List.mem_cons_self
    have hl : ∀ u ∈ l, p u = true → q u = true := fun u hu => h u (List.mem_cons_of_mem _ hu)
    rw [List.filter_cons, List.filter_cons]
    rcases List.mem_cons.mp hx with e | hx
    · subst e
      have := filt_le hl
      rw [hp, if_neg Bool.false_ne_true, if_pos hq, List.length_cons]; omega
    · have ih := filt_lt hl hx hp hq
      by_cases c : p y = true
      · rw [if_pos c, if_pos (hy c), List.length_cons, List.length_cons]; omega
      · rw [if_neg c]
        by_cases d : q y = true
        · rw [if_pos d, List.length_cons]; omega
        · rw [if_neg d]; exact ih
/-- how many words are less -/
def rank (ws : List (List Int)) (a : List Int) : Nat := (ws.filter fun v => wordLt v a).length
theorem rank_iff {ws : List (List Int)} {a b : List Int} (ha : a ∈ ws) : decide (rank ws a < rank ws b) = wordLt a b := by
  cases h : wordLt a b with
  | true =>
    refine decide_eq_true (filt_lt (x := a) (fun u _ hu => ?_) ha (wordLt_irrefl a) h)
    rcases wordLt_neg (b := b) hu with z | z
    · exact z
    · have := wordLt_neg (b := a) z
      rcases this with q | q
      · cases hub : wordLt u b with
        | true => rfl
        | false =>
          have e := PyProof.Rows.lex_trans (O := intO) _ _ _ (show PyProof.Rows.lexLt intO _ _ = true from hu) (show PyProof.Rows.lexLt intO _ _ = true from h)
          have e' : wordLt u b = true := e
          rw [e'] at hub; cases hub
      · rw [wordLt_irrefl] at q; cases q
  | false =>
    refine decide_eq_false (Nat.not_lt.mpr (filt_le fun u _ hu => ?_))
    rcases wordLt_neg (b := a) hu with z | z
    · exact z
    · rw [h] at z; cases z
/-- a key: a word's length and the word -/
def KeyAt (h : Heap) (k b : Addr) (a : List Int) : Prop := (∃ t : Tok, IsTup h k #[.int (a.length : Int) t, .ref b]) ∧ ∃ items : Array Value, IsTup h b items ∧ IntsAre items.toList a
theorem isTup_inj {h : Heap} {k : Addr} {xs ys : Array Value} (h1 : IsTup h k xs) (h2 : IsTup h k ys) : xs = ys := by
  obtain ⟨o, e, _, n, d⟩ := h1
  obtain ⟨o', e', _, n', d'⟩ := h2
  rw [e] at e'; cases e'
  rw [d] at d'
  injection d'
theorem intsAre_inj : ∀ {vs : List Value} {xs ys : List Int}, IntsAre vs xs → IntsAre vs ys → xs = ys
  | _, _, _, .nil, .nil => rfl
  | _, _, _, .cons n t h, .cons _ _ h' => by rw [intsAre_inj h h']
theorem KeyAt.inj {h : Heap} {k b b' : Addr} {a a' : List Int} (x : KeyAt h k b a) (y : KeyAt h k b' a') : a = a' := by
  obtain ⟨⟨t, x1⟩, its, x2, x3⟩ := x
  obtain ⟨⟨t', y1⟩, its', y2, y3⟩ := y
  have e := isTup_inj x1 y1
  have e2 : b = b' := by
    have := congrArg (fun z => z.toList[1]?) e
    simpa using this
  subst e2
  rw [isTup_inj x2 y2] at x3
  exact intsAre_inj x3 y3
section
variable {prog : Program} {w : World} {A : Around} {E : Value → Shared → Prop} {s : Shared}
theorem items_of : ∀ {vs : List Value} {xs : List Int}, IntsAre vs xs → ItemsAre (PySem.intKind prog w) xs vs
  | _, _, .nil => .nil
  | _, _, .cons n t h => .cons (by show decide (n = n) = true; simp) (items_of h)
theorem key_lt {x y b c : Addr} {u v : List Int} {Q : Bool → Shared → Prop} (hu : A.units < cLine) (hx : KeyAt s.heap x b u) (hy : KeyAt s.heap y c v) (h : Q (wordLt u v) s) : wpAny (model prog w) A (keyLt' (tuples' true) (.ref x) (.ref y)) Q E s := by
  obtain ⟨⟨t, ox, ex, _, nx, dx⟩, its, tb, ib⟩ := hx
  obtain ⟨⟨t', oy, ey, _, ny, dy⟩, its', tc, ic⟩ := hy
  refine kat_lt ex dx ey dy ?_
  show KatLex prog w A true (decide (2 < 2)) Q [(.int (u.length : Int) t, .int (v.length : Int) t'), (.ref b, .ref c)] 0 s
  refine kat_cons (wpAny_eqBool_int ?_)
  refine kat_go (fun e => kat_yes ?_) (fun e => kat_no ?_)
  · have el : (u.length : Int) = (v.length : Int) := by simpa using e
    rw [wordLt_same el] at h
    obtain ⟨ob, eb, cb, nb, db⟩ := tb
    obtain ⟨oc, ec, cc, nc, dc⟩ := tc
    refine kat_cons (wpAny_eqBool_tuple (knd := PySem.intKind prog w) (x := u) (y := v) hu ⟨ob, its, nb, eb, cb, db, items_of ib⟩ ⟨oc, its', nc, ec, cc, dc, items_of ic⟩ ?_)
    refine kat_go (fun e => kat_yes (kat_nil ?_)) (fun e => kat_no ?_)
    · have euv : u = v := of_decide_eq_true e
      subst euv
      have z := wordLt_irrefl u
      rw [wordLt_same rfl] at z
      rw [z] at h
      exact h
    · exact kat_one _ _ (HT.lt_tupInts ⟨ob, eb, cb, nb, db⟩ ⟨oc, ec, cc, nc, dc⟩ ib ic hu h)
  · have el : ¬ (u.length : Int) = (v.length : Int) := by simpa using e
    rw [wordLt_diff el] at h
    exact oneLt_int h
end
theorem perm_map {α β : Type} {f : α → β} {l m : List β} (h : l.Perm m) : ∀ {l₂ : List α}, m = l₂.map f → ∃ l' : List α, l'.Perm l₂ ∧ l = l'.map f := by
  induction h with
  | nil => intro l₂ e; cases l₂ with
    | nil => exact ⟨[], .nil, rfl⟩
    | cons _ _ => cases e
  | cons x _ ih =>
    intro l₂ e
    cases l₂ with
    | nil => cases e
    | cons a l₂ =>
      rw [List.map_cons] at e
      injection e with e1 e2
      obtain ⟨l', p, rfl⟩ := ih e2
      exact ⟨a :: l', p.cons a, by rw [List.map_cons, e1]⟩
  | swap x y l =>
    intro l₂ e
    cases l₂ with
    | nil => cases e
    | cons a l₂ =>
      cases l₂ with
      | nil => cases e
      | cons b l₂ =>
        rw [List.map_cons, List.map_cons] at e
        injection e with e1 e2
        injection e2 with e2 e3
        exact ⟨b :: a :: l₂, .swap a b l₂, by rw [List.map_cons, List.map_cons, e1, e2, e3]⟩
  | trans _ _ ih1 ih2 =>
    intro l₂ e
    obtain ⟨l1, p1, e1⟩ := ih2 e
    obtain ⟨l2, p2, e2⟩ := ih1 e1
    exact ⟨l2, p2.trans p1, e2⟩
abbrev Trip := Addr × Addr × List Int
def keyed (t : Trip) : Keyed := (Value.ref t.1, Value.ref t.2.1)
open Classical in
noncomputable def rankOf (trip : List Trip) (a : Addr) : Option Nat := if h : ∃ t, t ∈ trip ∧ t.1 = a then some (rank (trip.map (·.2.2)) (Classical.choose h).2.2) else none
theorem rankOf_some {h : Heap} {trip : List Trip} (hk : ∀ t ∈ trip, KeyAt h t.1 t.2.1 t.2.2) {t : Trip} (ht : t ∈ trip) : rankOf trip t.1 = some (rank (trip.map (·.2.2)) t.2.2) := by
  have hx : ∃ t', t' ∈ trip ∧ t'.1 = t.1 := ⟨t, ht, rfl⟩
  unfold rankOf
  rw [dif_pos hx]
  obtain ⟨h1, h2⟩ := Classical.choose_spec hx
  have k1 := hk _ h1
  rw [h2] at k1
  rw [k1.inj (hk t ht)]
theorem rankOf_inv {trip : List Trip} {a : Addr} {r : Nat} (h : rankOf trip a = some r) : ∃ t ∈ trip, t.1 = a := by
  unfold rankOf at h
  split at h
  · rename_i hx; obtain ⟨t, h1, h2⟩ := hx; exact ⟨t, h1, h2⟩
  · cases h
section
variable {prog : Program} {w : World} {A : Around} {E : Value → Shared → Prop} {s : Shared}
theorem sort_run {trip : List Trip} (hu : A.units < cLine) (hk : ∀ t ∈ trip, KeyAt s.heap t.1 t.2.1 t.2.2) (h2 : 2 ≤ trip.length) {P : Unit × SortSt → Shared → Prop}
    (h : ∀ (st' : SortSt) (trip' : List Trip), trip'.Perm trip → (arrOf st').toList = trip'.map keyed → failedOf st' = none → trip'.Pairwise (fun a b => wordLt b.2.2 a.2.2 = false) → P ((), st') s) :
    wpAny (model prog w) A (sortRuns'.run (SortSt.mk' (tuples' true) (trip.map keyed).toArray #[] 7 none)) P E s := by
  have hin : ∀ t ∈ trip, rankOf trip t.1 = some (rank (trip.map (·.2.2)) t.2.2) := fun t ht => rankOf_some hk ht
  have hlt : ∀ a r, rankOf trip a = some r → a < s.heap.objs.size := fun a r e => by
    obtain ⟨t, ht, rfl⟩ := rankOf_inv e
    obtain ⟨⟨_, o, eo, _⟩, _⟩ := hk t ht
    exact Heap.lt_size eo
  have hC : CmpLike (model prog w) A (tuples' true) { s with heap := standHeap (rankOf trip) s.heap } s := by
    intro Γ p x y Q E hΓ hq
    obtain ⟨a, c, ra, rc, rfl, rfl, hra, hrc, hq⟩ := stand_inv (rk := rankOf trip) (h₀ := s.heap) rfl hq
    refine ⟨_, ⟨p, hq⟩, fun q Q' E' hQ' => ?_⟩
    obtain ⟨t, ht, rfl⟩ := rankOf_inv hra
    obtain ⟨t', ht', rfl⟩ := rankOf_inv hrc
    rw [hin t ht] at hra
    rw [hin t' ht'] at hrc
    cases hra
    cases hrc
    rw [rank_iff (List.mem_map_of_mem ht)] at hQ'
    have := key_lt (prog := prog) (w := w) (E := fun _ _ => False) (Q := fun b s' => b = wordLt t.2.2 t'.2.2 ∧ s' = s) hu (hk t ht) (hk t' ht') ⟨rfl, rfl⟩ Γ q hΓ
    refine wp_mono _ _ _ (fun b p' s' hb => ?_) (fun _ _ _ z => z.elim) q s this
    obtain ⟨rfl, rfl⟩ := hb
    exact hQ' p'
  have hkey : PyProof.Rows.KeysOf (standKind (rankOf trip)) (trip.map keyed).toArray := by
    intro p hp
    rw [List.toList_toArray] at hp
    obtain ⟨t, ht, rfl⟩ := List.mem_map.mp hp
    exact ⟨_, by show (rankOf trip t.1).map _ = _; rw [hin t ht]; rfl⟩
  intro Γ p hΓ
  have lib : wpS (model prog w) A (fun _ _ => False) { s with heap := standHeap (rankOf trip) s.heap } sortRuns' (fun _ st' => (arrOf st').Perm (trip.map keyed).toArray ∧ failedOf st' = none ∧ SortedToK (standKind (rankOf trip)) (arrOf st') (trip.map keyed).toArray.size)
      (SortSt.mk' (tuples' true) (trip.map keyed).toArray #[] 7 none) :=
    PyProof.Rows.G.wpS_sortRunsSt (κ := standKind (rankOf trip)) (kd := tuples' true) (a₀ := (trip.map keyed).toArray) (stand_ltAt (rk := rankOf trip) (h₀ := s.heap) rfl hlt true) hkey ⟨Array.Perm.refl _, rfl, rfl⟩ rfl (PyProof.Rows.Stable.refl _)
      (by rw [List.size_toArray, List.length_map]; exact h2) fun st' a1 a2 a3 _ => ⟨a1, a2, a3⟩
  have l1 := lib Γ p hΓ
  have l2 := same_sortRuns hC Γ p p _ (fun a st' _ s' => s' = { s with heap := standHeap (rankOf trip) s.heap } ∧ (arrOf st').Perm (trip.map keyed).toArray ∧ failedOf st' = none ∧ SortedToK (standKind (rankOf trip)) (arrOf st') (trip.map keyed).toArray.size) hΓ rfl l1
  refine wp_mono _ _ _ (fun r _ s' hr => ?_) (fun _ _ _ z => z.elim) p s l2
  obtain ⟨rfl, _, _, _, a1, a2, a3⟩ := hr
  obtain ⟨trip', hp, e⟩ := perm_map (f := keyed) (Array.perm_iff_toList_perm.mp a1) (List.toList_toArray ..)
  refine h r.2 trip' hp e a2 ?_
  rw [List.pairwise_iff_getElem]
  intro i j hi hj hij
  have hsz : (trip.map keyed).toArray.size = trip'.length := by rw [List.size_toArray, List.length_map, hp.length_eq]
  have q := a3 i j (Nat.le_of_lt hij) (by rw [hsz]; exact hj)
  have kk : ∀ (i : Nat) (hi : i < trip'.length), KK (standKind (rankOf trip)) (arrOf r.2) i = ((rank (trip.map (·.2.2)) (trip'[i]).2.2 : Nat) : Int) := fun i hi => by
    unfold KK
    have e1 : (arrOf r.2)[i]? = some (keyed trip'[i]) := by
      rw [← Array.getElem?_toList, e, List.getElem?_map, List.getElem?_eq_getElem hi]; rfl
    rw [e1]
    show ((rankOf trip (trip'[i]).1).map fun (r : Nat) => (r : Int)).getD 0 = _
    rw [hin _ (hp.mem_iff.mp (List.getElem_mem hi))]
    rfl
  rw [kk i hi, kk j hj] at q
  have q' : decide (((rank (trip.map (·.2.2)) (trip'[j]).2.2 : Nat) : Int) < ((rank (trip.map (·.2.2)) (trip'[i]).2.2 : Nat) : Int)) = false := q
  rw [← rank_iff (ws := trip.map (·.2.2)) (List.mem_map_of_mem (hp.mem_iff.mp (List.getElem_mem hj)))]
  refine decide_eq_false fun z => ?_
  have := of_decide_eq_false q'
  omega
end
end PySem
/-! sorted(d, key = f), and list(d), of a dict whose keys stand in the heap. -/
namespace PySem
open PyProof.Rows PySem.W
section
variable {prog : Program} {w : World} {A : Around} {E : Value → Shared → Prop} {s : Shared} {d : Addr} {o : Obj} {es : Array DictEntry} {ep : Nat}
theorem walks_ents (hh : A.handled = none) (I : Addr) (hne : d ≠ I) (hod : o.data = .dict es ep) :
    Walks prog w A I [I, d] [I] es.size (fun i v => ∃ en, es[i]? = some en ∧ v = en.key) (fun i h => h.IsKeyIter I d i es.size ep ∧ h.get? d = some o) where
  sub := fun b hb => by simp at hb; simp [hb]
  frame := fun _ _ _ st hk => ⟨st.1.at fun o' e => hk I (by simp) o' e, hk d (by simp) _ st.2⟩
  item := fun i s Q E hi st hQ => by
    obtain ⟨en, hen⟩ : ∃ en, es[i]? = some en := ⟨es[i], Array.getElem?_eq_getElem hi⟩
    refine L2.next_key_item st.1 st.2 hod rfl hen fun h' hit' hs' => ?_
    exact hQ en.key h' s.toks ⟨en, hen, rfl⟩ ⟨hit', (hs'.2 d hne).trans st.2⟩ fun b o' hb e => (hs'.2 b fun h => hb (by simp [h])).trans e
  done := fun s Q E st hQ => L2.next_key_end hh st.1 st.2 hod rfl (Nat.le_refl _) fun h' he' => hQ h' s.toks fun b o' hb e => he' b o' (fun h => hb (by simp [h])) e
  self := fun _ _ _ _ st hQ => wpAny_pyIter_keyiter st.1 hQ
theorem src_ents (lo : (d == sysModules) = false) (hx : o.ExactDict) (hod : o.data = .dict es ep) : KdlSrc prog w "dict" d d es.size (fun i v => ∃ en, es[i]? = some en ∧ v = en.key) (fun h => h.get? d = some o) where
  type := fun _ hm => ⟨o, hm, hx.1⟩
  there := fun _ hm => ⟨Heap.lt_size hm, Heap.lt_size hm⟩
  keep := fun _ _ hm hk => hk d (.inl rfl) _ hm
  notList := by decide
  notTuple := by decide
  hint := fun _ _ _ _ hm hq => kdl_hint_dict ⟨o, hm, hx.1⟩ hq
  iter := fun _ _ hh hm => ⟨_, _, (fun _ _ hq => L2.iter_keys lo hm hx hod hq), walks_ents hh _ (Nat.ne_of_lt (Heap.lt_size hm)) hod, ⟨⟨_, Heap.get?_push_size _ rfl, rfl, rfl⟩, Heap.get?_push_of_some _ hm⟩⟩
end
section
variable {prog : Program} {w : World} {A : Around} {E : Value → Shared → Prop} {s : Shared} {T : String} {r d : Addr} {n : Nat} {P : Nat → Value → Prop} {OK : Heap → Prop}
theorem collect_src {R : List Value → Shared → Prop} (K : KdlSrc prog w T r d n P OK) (hh : A.handled = none) (hok : OK s.heap) (hn : n ≤ sizeLine)
    (h : ∀ (h' : Heap) (tk : Nat) (acc : Array Value), (∀ b o, s.heap.get? b = some o → h'.get? b = some o) → ItemsOf P acc n → R acc.toList { s with heap := h', toks := tk }) : wpAny (model prog w) A (collect (.ref r)) R E s := by
  have hlt := K.there _ hok
  unfold collect
  refine wpAny_bind (wpAny_runValue (codeAny_builtin F.entry_proto_collect ?_))
  rw [Around.under_plainId F.plain_proto_collect _]
  show wpAny _ A.in1 (newList [] >>= fun l => again (.builtin "list.__iadd__" ⟨[l, .ref r], []⟩)) _ _ s
  refine wpAny_bind (wpAny_newObj_type ?_)
  refine wpAny_pure ⟨plainId_quiet F.plain_list_iadd _, codeAny_builtin F.entry_list_iadd ?_⟩
  rw [Around.under_plainId F.plain_list_iadd _]
  have hS : (s.heap.push { cls := .type "list", data := .seq ([] : List Value).toArray }).get? s.heap.objs.size = some { cls := .type "list", data := .seq #[] } := Heap.get?_push_size _ rfl
  show wpAny _ A.in1 (Builtin.List.listExtendWith (.ref s.heap.objs.size) (.ref r) (.ref s.heap.objs.size)) _ _ _
  have key := kdl_extend (A := A) (s := { s with heap := s.heap.push { cls := .type "list", data := .seq ([] : List Value).toArray } }) K
    (R := fun (q : Result) (s' : Shared) => ∃ (h' : Heap) (tk : Nat) (acc : Array Value) (c : Nat), q = .ok (.ret (.ref s.heap.objs.size)) ∧ s' = { s with heap := h', toks := tk } ∧ (∀ b o, s.heap.get? b = some o → h'.get? b = some o) ∧
      h'.get? s.heap.objs.size = some { cls := .type "list", dict := none, data := .seq acc c, slots := #[] } ∧ ItemsOf P acc n)
    hh (K.keep _ _ hok fun b _ o e => Heap.get?_push_of_some _ e) s.heap.objs.size (Nat.ne_of_gt hlt.1) (Nat.ne_of_gt hlt.2) (.ref s.heap.objs.size) 0 hS
    (fun h' tk acc c hk hS' hacc => ⟨h', tk, acc, c, rfl, rfl, fun b o e => hk b o (Nat.ne_of_lt (Heap.lt_size e)) (Heap.get?_push_of_some _ e), hS', hacc⟩) hn
  have fin : ∀ (h' : Heap) (tk : Nat) (acc : Array Value) (c : Nat), (∀ b o, s.heap.get? b = some o → h'.get? b = some o) → h'.get? s.heap.objs.size = some { cls := .type "list", dict := none, data := .seq acc c, slots := #[] } → ItemsOf P acc n →
      wpAny (model prog w) A (load s.heap.objs.size >>= fun o => match o.data with | .seq xs _ => pure xs.toList | _ => unsupported "internal:collect") R E { s with heap := h', toks := tk } := fun h' tk acc c hk hS' hacc =>
    wpAny_bind (wpAny_load hS' (wpAny_pure (h h' tk acc hk hacc)))
  refine wpAny_mono key (fun f s' x => ?_) fun e s' x => ?_
  · cases f with
    | done f =>
      obtain ⟨h', tk, acc, c, e, rfl, hk, hS', hacc⟩ := x
      cases e
      exact fin h' tk acc c hk hS' hacc
    | again c₁ =>
      refine ⟨x.1, codeAny_mono x.2 fun q s₂ y => ?_⟩
      obtain ⟨h', tk, acc, c, rfl, rfl, hk, hS', hacc⟩ := y
      exact fin h' tk acc c hk hS' hacc
  · obtain ⟨_, _, _, _, e', _⟩ := x
    cases e'
end
section
variable {prog : Program} {w : World} {A : Around} {E : Value → Shared → Prop} {s : Shared} {a kS : Addr} {P : PySem.Fin → Shared → Prop} {e e1 : Nat}
abbrev outOf (trip : List Trip) : Array Value := (trip.map fun t => Value.ref t.2.1).toArray
abbrev keysOf (trip : List Trip) : Array Value := (trip.map fun t => Value.ref t.1).toArray
theorem sort_tail {st : SortSt} {ks : Array Value} {trip : List Trip} (hout : (arrOf st).toList = trip.map keyed) (hf : failedOf st = none) (hk : s.heap.get? kS = some (seqObj "list" ks e)) (ha : s.heap.get? a = some (seqObj "list" #[] e1)) (hne : kS ≠ a)
    (hz : ks.size ≤ sizeLine) (hZ : trip.length ≤ sizeLine) (h : P (.done (.ret .none)) { s with heap := (s.heap.update kS (Obj.mapSeq fun _ => #[])).update a (Obj.mapSeq fun _ => outOf trip) }) :
    wpAny (model prog w) A (ksk_tail a false e1 (.ref kS) st) P E s := by
  have e2 : (arrOf st).map (·.2) = outOf trip := by
    apply Array.ext'
    rw [Array.toList_map, hout, List.map_map, List.toList_toArray]
    rfl
  have ha1 : (s.heap.update kS (Obj.mapSeq fun _ => (#[] : Array Value))).get? a = some (seqObj "list" #[] e1) := (Heap.get?_update_other _ _ hne).trans ha
  have h1 := hz
  have h2 := hZ
  rw [sizeLine_eq] at h1 h2
  unfold ksk_tail
  dsimp only
  refine wpAny_bind (listUpdate_at hk rfl ?_ (by rw [sizeLine_eq]; omega) (Nat.zero_le _))
  refine wpAny_bind (wpAny_letGo ?_)
  refine wpAny_bind (seqEpoch_at ha1 rfl ?_)
  simp only [Bool.false_eq_true, if_false]
  rw [e2]
  refine wpAny_bind (listUpdate_at ha1 rfl ?_ (Nat.zero_le _) (by show (outOf trip).size ≤ _; rw [List.size_toArray, List.length_map, sizeLine_eq]; omega))
  rw [hf]
  simp only [bne_self_eq_false, Bool.false_eq_true, if_false]
  exact wpAny_pure h
theorem keyTups {h : Heap} : ∀ {trip : List Trip}, (∀ t ∈ trip, KeyAt h t.1 t.2.1 t.2.2) → ∃ fs : List Value, KatTups h (trip.map fun t => Value.ref t.1) fs ∧ fs.length = trip.length ∧ ∀ v ∈ fs, ∃ (n : Int) (t : Tok), v = .int n t
  | [], _ => ⟨[], KatTups.nil, rfl, fun v hv => by cases hv⟩
  | t :: trip, h => by
    obtain ⟨fs, k, l, q⟩ := keyTups (trip := trip) fun t' ht' => h t' (List.mem_cons_of_mem _ ht')
    obtain ⟨⟨tk, o, ho, hc, n, hd⟩, _⟩ := h t List.mem_cons_self
    refine ⟨.int (t.2.2.length : Int) tk :: fs, KatTups.cons ho hc hd rfl k, by rw [List.length_cons, List.length_cons, l], fun v hv => ?_⟩
    rcases List.mem_cons.mp hv with rfl | hv
    · exact ⟨_, _, rfl⟩
    · exact q v hv
theorem zip_keyed (trip : List Trip) : (keysOf trip).zip (outOf trip) = (trip.map keyed).toArray := by
  apply Array.ext'
  rw [Array.toList_zip, List.toList_toArray, List.toList_toArray, List.toList_toArray, List.zip_map']
  rfl
theorem sort_end {trip : List Trip} (hu : A.units < cLine) (hk : s.heap.get? kS = some (seqObj "list" (keysOf trip) e)) (ha : s.heap.get? a = some (seqObj "list" #[] e1)) (hne : kS ≠ a) (hK : ∀ t ∈ trip, KeyAt s.heap t.1 t.2.1 t.2.2) (hZ : trip.length ≤ sizeLine)
    (h : ∀ trip' : List Trip, trip'.Perm trip → trip'.Pairwise (fun a b => wordLt b.2.2 a.2.2 = false) → P (.done (.ret .none)) { s with heap := (s.heap.update kS (Obj.mapSeq fun _ => #[])).update a (Obj.mapSeq fun _ => outOf trip') }) :
    wpAny (model prog w) A (ksk_end a false (outOf trip) e1 (.ref kS) (keysOf trip)) P E s := by
  have hks : (keysOf trip).size ≤ sizeLine := by rw [List.size_toArray, List.length_map]; exact hZ
  have hsz : (outOf trip).size = trip.length := by rw [List.size_toArray, List.length_map]
  unfold ksk_end
  dsimp only
  simp only [Bool.false_eq_true, if_false]
  rw [zip_keyed]
  by_cases h2 : (outOf trip).size < 2
  · rw [if_pos h2, if_pos h2]
    refine wpAny_bind (wpAny_pure ?_)
    rw [StateT.run_pure]
    refine wpAny_bind (wpAny_pure ?_)
    dsimp only
    refine sort_tail (trip := trip) (List.toList_toArray ..) rfl hk ha hne hks hZ (h trip (.refl _) ?_)
    rw [hsz] at h2
    match trip, h2 with
    | [], _ => exact .nil
    | [_], _ => exact List.pairwise_singleton _ _
  · rw [if_neg h2, if_neg h2]
    rw [hsz] at h2
    obtain ⟨fs, kt, lf, qf⟩ := keyTups hK
    refine wpAny_bind (kat_kind (T := Value.type "int") kt (by omega) (fun v hv => ?_) rfl ?_)
    · obtain ⟨n, t, rfl⟩ := qf v hv
      exact Looks.of_pure rfl
    show wpAny _ A (sortRuns'.run (SortSt.mk' (tuples' true) (trip.map keyed).toArray #[] 7 none) >>= _) _ _ _
    refine wpAny_bind (sort_run hu hK (by omega) fun st' trip' hp he hf hs => ?_)
    dsimp only
    exact sort_tail (trip := trip') he hf hk ha hne hks (by rw [hp.length_eq]; exact hZ) (h trip' hp hs)
theorem sort_rest {f : Value} {vs : List Value} {J : Nat → Shared → Prop} (h0 : J 0 s)
    (turn : ∀ (i : Nat) (x : Value) (s' : Shared), vs[i]? = some x → J i s' → wpAny (model prog w) A (call f [x]) (fun k s'' => ∃ keys n, s''.heap.get? kS = some (seqObj "list" keys n) ∧ keys.size < sizeLine ∧ J (i + 1) { s'' with heap := s''.heap.update kS (Obj.mapSeq (·.push k)) }) (fun _ _ => False) s')
    (fin : ∀ s', J vs.length s' → ∃ keys n, s'.heap.get? kS = some (seqObj "list" keys n) ∧ wpAny (model prog w) A (ksk_end a false vs.toArray e1 (.ref kS) keys) P E s') :
    wpAny (model prog w) A (ksk_rest a f false vs.toArray e1 (.ref kS)) P E s := by
  unfold ksk_rest
  refine wpAny_bind (wpAny_rule ?_)
  first
    | rw [List.forIn_toArray]
    | (rw [← Array.forIn_toList]; simp only [List.toList_toArray])
    | rw [← Array.forIn_toList]
  refine wpAny_bind (ksk_fold J vs 0 s h0 (fun j x s' hx hJ => ?_) fun s' hJ => ?_)
  · rw [Nat.zero_add] at hJ ⊢
    refine wpAny_bind (wpAny_attempt (wpAny_mono (turn j x s' hx hJ) (fun k s'' he => ?_) fun _ _ hF => hF.elim))
    obtain ⟨keys, n, hk, hz, hJ'⟩ := he
    dsimp only
    refine wpAny_bind (listUpdate_at hk rfl ?_ (Nat.le_of_lt hz) (by show (keys.push k).size ≤ sizeLine + 1; rw [Array.size_push]; omega))
    exact wpAny_pure ⟨rfl, hJ'⟩
  · rw [Nat.zero_add] at hJ
    obtain ⟨keys, n, hk, hw⟩ := fin s' hJ
    refine wpAny_bind (listItems_at hk rfl ?_)
    exact hw
theorem sort_tree {f : Value} {vs : List Value} {n : Nat} (ho : s.heap.get? a = some (seqObj "list" vs.toArray n)) (hZ : vs.length ≤ sizeLine)
    (h : ∀ e1, (s.heap.update a (Obj.mapSeq fun _ => (#[] : Array Value))).get? a = some (seqObj "list" #[] e1) → wpAny (model prog w) A (ksk_rest a f false vs.toArray e1 (.ref ((s.heap.update a (Obj.mapSeq fun _ => (#[] : Array Value))).push (seqObj "tuple" vs.toArray 0)).objs.size)) P E
      { s with heap := ((s.heap.update a (Obj.mapSeq fun _ => (#[] : Array Value))).push (seqObj "tuple" vs.toArray 0)).push (seqObj "list" #[] 0) }) :
    wpAny (model prog w) A (ksk_tree a f false) P E s := by
  have h1 := hZ
  rw [sizeLine_eq] at h1
  obtain ⟨e1, ho1⟩ : ∃ e1, (s.heap.update a (Obj.mapSeq fun _ => (#[] : Array Value))).get? a = some (seqObj "list" #[] e1) := ⟨_, get?_update_seq ho fun _ => #[]⟩
  unfold ksk_tree
  refine wpAny_bind (listItems_at ho rfl ?_)
  refine wpAny_bind (listUpdate_at ho rfl ?_ (by rw [List.size_toArray]; exact hZ) (Nat.zero_le _))
  refine wpAny_bind (seqEpoch_at ho1 rfl ?_)
  refine wpAny_bind (wpAny_newTuple ?_ (by show vs.length ≤ _; rw [sizeLine_eq]; omega))
  refine wpAny_bind (wpAny_newList ?_ (Nat.zero_le _))
  exact wpAny_holding (h e1 ho1)
/-- sorted(d, key = f): the keys of d in a new list, which is then sorted in place -/
theorem sorted_src {T : String} {r d f : Addr} {n : Nat} {PI : Nat → Value → Prop} {OK : Heap → Prop} {Q : Value → Shared → Prop} (K : KdlSrc prog w T r d n PI OK) (hh : A.handled = none) (hok : OK s.heap) (hn : n ≤ sizeLine)
    (body : ∀ (L : Addr) (vs : List Value) (h' : Heap) (tk : Nat), (∀ b o, s.heap.get? b = some o → h'.get? b = some o) → (∀ b o, s.heap.get? b = some o → b < L) → h'.get? L = some (seqObj "list" vs.toArray 0) → vs.length = n → (∀ j v, vs[j]? = some v → PI j v) →
      wpAny (model prog w) A.in1.in1 (ksk_tree L (.ref f) false) (fun fin s' => ∃ v, fin = .done (.ret v) ∧ Q (.ref L) s') E { s with heap := h', toks := tk }) :
    wpAny (model prog w) A (call (.builtin "sorted") [.ref r] [(Str.ofString "key", .ref f)]) Q E s := by
  refine call_function_entry_kw kind_sorted plain_sorted entry_sorted (ksk_s1 _ _) ?_
  unfold Builtin.«sorted»
  refine wpAny_bind (m := checkCount "sorted" 1 1 _) (wpAny_pure ?_)
  refine wpAny_bind (collect_src (A := A.in1) K hh hok hn fun h' tk acc hk hacc => ?_)
  have hl : acc.toList.length = n := by rw [Array.length_toList]; exact hacc.1
  refine wpAny_bind (wpAny_newList ?_ (by rw [hl]; exact hn))
  have hoL : (h'.push (seqObj "list" acc.toList.toArray 0)).get? h'.objs.size = some (seqObj "list" acc.toList.toArray 0) := Heap.get?_push_size _ rfl
  show wpAny _ A.in1 _ _ _ { s with heap := h'.push (seqObj "list" acc.toList.toArray 0), toks := tk }
  refine wpAny_bind (wpAny_holding (wpAny_call_entry_kw (s := { s with heap := h'.push (seqObj "list" acc.toList.toArray 0), toks := tk }) slot_list_sort ⟨_, hoL, rfl⟩ entry_list_sort ?body (ksk_l1 _ _)))
  case body =>
    show wpAny (model prog w) A.in1.in1 (Builtin.«list.sort» ⟨[.ref h'.objs.size], [(Str.ofString "key", .ref f)]⟩) _ _ _
    rw [ksk_t1]
    refine wpAny_mono (body h'.objs.size acc.toList _ tk (fun b o e => Heap.get?_push_of_some _ (hk b o e)) (fun b o e => Heap.lt_size (hk b o e)) hoL hl fun j v e => hacc.2 j v (by rw [← Array.getElem?_toList]; exact e)) (fun fin s' hq => ?_) fun _ _ z => z
    obtain ⟨v, rfl, hq⟩ := hq
    exact ⟨v, rfl, wpAny_pure ⟨_, rfl, hq⟩⟩
end
end PySem
/-! sorted(d, key = lambda x: (len(x), x)) of a dict whose keys are tuples of numbers. -/
namespace L2
open PySem PySem.Spec PyProof.Rows
/-- a lambda of one parameter, by its body -/
theorem lam_run {P : Program} {w : World} {K : PySem.W.Frag} {mg : Str → Option Value} {base : Heap} {k : Nat} {f : Addr} {name qual x : Str} {params : Arguments} {body : Expr} {scope : Scope} {pm cdv ct : Value} {t : TE}
    {A : Around} {outer : List Env} {s : Shared} {H : Hp} {u : Value} {v : V} {Q : VK} {E : XK}
    (S : FnScope [x] [x] scope) (ho : s.heap.get? f = some { cls := .type "function", data := .func (PySem.W.kla_fn name qual params body scope [] pm cdv ct) }) (hcd : s.heap.CodeRec cdv qual)
    (hb : bindArgs (PySem.W.kla_fn name qual params body scope [] pm cdv ct) ⟨[u], []⟩ = pure [(x, u)]) (hr : Room (k + 1) A) (e0 : Env0 P w K mg base A outer s H) (r : RelV v u)
    (hp : PE (cxOf CX0 P w K mg base [x] qual scope f cdv A outer s H E) body t) (hq : t (start [x] [v]) H Q) :
    codeAny (model P w) A (.call (.ref f) ⟨[u], []⟩) (CR CX0 outer P w H s Q E) s := by
  have lim : s.heap.NoLimit := e0.mod.nolimit.keeps fun b o e => (e0.bs b o e).1
  have hkind : ∀ y ∈ [(x, u)], scope.names.lookup y.1 = some .local ∨ (scope.names.lookup y.1 = some .cell ∧ ((cellsFrom (s.heap.objs.size + 1) scope.names []).lookup y.1).isSome = true) := fun y hy => by
    rw [List.mem_singleton] at hy
    subst hy
    rcases S.par x (List.mem_singleton.mpr rfl) with q | q
    · exact .inl q
    · exact .inr ⟨q, PySem.W.cellsFrom_some _ _ _ (.inl q)⟩
  refine PySem.W.kla_callFunE hr.depth ho rfl S.co S.gen rfl hcd ?_
  rw [hb]
  refine wpAny_pure (wpAny_newFunctionEnv_cells S.kind hkind fun env he s1 xx => ?_)
  subst he
  refine ⟨lim.keeps xx.toInCall.keep, PySem.W.kla_codeExpr ?_⟩
  have I : Inv (cxOf CX0 P w K mg base [x] qual scope f cdv A outer s H E) [] (start [x] [v]) H s1 := inv_start S hr.hd e0 (us := [u]) rfl (.cons r .nil) xx
  refine wpAny_mono (hp [] s1 (start [x] [v]) H _ I hq) (fun u' s' hs => ?_) fun e s' hs => hs
  obtain ⟨v', H', J, rv, q⟩ := hs
  exact ⟨v', H', J.os, J.bare, J.base, J.hok, rv, q⟩
section
variable {X : Cx} {pins : List (Addr × Obj)} {σ : St} {H : Hp} {s : Shared} {h' : Heap}
/-- a new object that was not told is told from here on -/
theorem Inv.take {L : Addr} {o : HO} {t' : Nat} (I : Inv X pins σ H s) (h0 : X.s₀.heap.objs.size ≤ L) (hL : L ≠ X.env.locals) (hc : ∀ x c, X.env.cells.lookup x = some c → c ≠ L) (hp : ∀ p ∈ X.pn ++ pins, p.1 ≠ L) (hn : H L = none)
    (k : ∀ b u, b ≠ L → s.heap.get? b = some u → h'.get? b = some u) (new : ObjOk X.prog X.w (upd H L o) h' L o) : Inv X pins σ (upd H L o) { s with heap := h', toks := t' } := by
  have ne : ∀ b u, H b = some u → b ≠ L := fun b u e => ne_of_none e hn
  refine I.step (g' := s.gens) (d' := s.drawn) (ch := [L]) (fun b hb => ?_) (fun b u _ _ hb e _ => k b u (fun z => hb (by simp [z])) e) (fun b u _ _ hb e _ => ⟨u.slots, k b u (fun z => hb (by simp [z])) e⟩)
    (fun b u hb e n => by rw [upd_ne (fun z => hb (by simp [z]))]; exact n) (fun b u hb e => ⟨u, k b u (fun z => hb (by simp [z])) e⟩) (fun b xs e => by rw [upd_ne (ne b _ e)]; exact e) (fun b u v e => by rw [upd_ne (ne b _ e)]; exact e)
    (fun b ps e => ⟨#[], by rw [upd_ne (ne b _ e), e]; simp⟩) (fun m hm => ?_) (fun b u e => ?_) I.bare
  · have e : b = L := by simpa using hb
    subst e
    exact ⟨.inr h0, hL, hc, hp⟩
  · obtain ⟨ob, es, ep, ho, r⟩ := hm
    exact ⟨ob, es, ep, k _ ob (Ne.symm hL) ho, r⟩
  · by_cases hb : b = L
    · subst hb; rw [upd_same] at e; cases e; exact new
    · rw [upd_ne hb] at e
      refine (I.hok b u e).stay (fun c v hc q => k c v ?_ q) (fun c q => by rw [upd_ne (ne c _ q)]; exact q) fun c xs q => by rw [upd_ne (ne c _ q)]; exact q
      rcases hc with z | z
      · rw [z]; exact hb
      · exact ne c _ z
/-- a table of a def's own codes has grown -/
theorem Inv.grown {Pt : Addr} {ps more : Array Value} {t' : Nat} (I : Inv X pins σ H s) (e : H Pt = some (.tbl ps)) (k : Heap.ExtBut Pt s.heap h') (ht : h'.get? Pt = some { cls := .none, data := .fields (ps ++ more) }) :
    Inv X pins σ (upd H Pt (.tbl (ps ++ more))) { s with heap := h', toks := t' } := by
  have nn : ∀ b, H b = none → b ≠ Pt := fun b n z => by rw [z, e] at n; cases n
  have nt : ∀ b xs, H b = some (.tup xs) → b ≠ Pt := fun b xs q z => by rw [z, e] at q; cases q
  refine I.un ⟨fun b u q n _ _ => k b u (nn b n) q, fun b u q n _ _ => ⟨u.slots, k b u (nn b n) q⟩, fun b u q n _ => by rw [upd_ne (nn b n)]; exact n, fun b u q _ => ?_, fun b xs q => by rw [upd_ne (nt b xs q)]; exact q,
    fun b u v q => by rw [upd_ne (fun z => by rw [z, e] at q; cases q)]; exact q, fun b qs q => ?_⟩ fun b u q => ?_
  · by_cases hb : b = Pt
    · exact ⟨_, by rw [hb]; exact ht⟩
    · exact ⟨u, k b u hb q⟩
  · by_cases hb : b = Pt
    · subst hb
      rw [e] at q
      cases q
      exact ⟨more, upd_same⟩
    · exact ⟨#[], by rw [upd_ne hb, q]; simp⟩
  · by_cases hb : b = Pt
    · subst hb
      rw [upd_same] at q
      cases q
      exact ht
    · rw [upd_ne hb] at q
      refine (I.hok b u q).stay (fun c v hc r => k c v ?_ r) (fun c r => by rw [upd_ne (fun z => by rw [z, e] at r; cases r)]; exact r) fun c xs r => by rw [upd_ne (nt c xs r)]; exact r
      rcases hc with z | z
      · rw [z]; exact hb
      · exact fun y => by rw [y, e] at z; cases z
end
theorem ok_there {P : Program} {w : World} {H : Hp} {h : Heap} {a : Addr} {o : HO} (x : ObjOk P w H h a o) : ∃ ob, h.get? a = some ob := by
  cases o with
  | lst xs => obtain ⟨_, _, _, _, e⟩ := x; exact ⟨_, e⟩
  | tup xs => obtain ⟨_, _, _, ob, e, _⟩ := x; exact ⟨ob, e⟩
  | dK kvs => obtain ⟨_, _, _, _, ob, _, _, e, _⟩ := x; exact ⟨ob, e⟩
  | dT kvs => obtain ⟨_, _, _, _, ob, _, _, e, _⟩ := x; exact ⟨ob, e⟩
  | dN kvs => obtain ⟨_, _, _, _, ob, _, _, e, _⟩ := x; exact ⟨ob, e⟩
  | set S n => obtain ⟨ob, _, _, _, e, _⟩ := x; exact ⟨ob, e⟩
  | ins C dx fs => obtain ⟨_, _, _, e, _⟩ := x; exact ⟨_, e⟩
  | own y => exact x
  | xd fs => obtain ⟨_, ⟨od, _, _, e, _⟩, _⟩ := x; exact ⟨od, e⟩
  | rng lo hi => obtain ⟨_, _, _, e⟩ := x; exact ⟨_, e⟩
  | frz ob u => obtain ⟨e, _⟩ := x; exact ⟨ob, e⟩
  | tbl ps => exact ⟨_, x⟩
  | met f y => exact ⟨_, x⟩
  | ext φ => obtain ⟨_, ⟨ob, e⟩, _⟩ := x; exact ⟨ob, e⟩
theorem refs_of : ∀ {vs : List Value}, (∀ v ∈ vs, ∃ q : Addr, v = .ref q) → ∃ bs : List Addr, vs = bs.map Value.ref
  | [], _ => ⟨[], rfl⟩
  | v :: vs, h => by
    obtain ⟨q, rfl⟩ := h v List.mem_cons_self
    obtain ⟨bs, rfl⟩ := refs_of (vs := vs) fun v hv => h v (List.mem_cons_of_mem _ hv)
    exact ⟨q :: bs, rfl⟩
theorem refs_inj : ∀ {as : List Addr} {vs : List Value}, Vals (as.map V.ref) vs → vs = as.map Value.ref
  | [], _, .nil => rfl
  | a :: as, _, .cons r t => by
    rw [List.map_cons, ← refs_inj t]
    cases r
    rfl
/-- the words as keys -/
abbrev keysI (ws : List (List Int)) : List (List Key) := ws.map fun a => a.map fun n => (Sum.inl n : Key)
/-- sorted(d, key = lambda x: (len(x), x)); Pt: the table of the codes of the def that this stands in -/
def tSorted (Pt : Addr) (pos : Pos) (td : TA) : TE := fun σ H Q => td σ H fun xs H1 => ∃ (d : Addr) (kvs : List (List Key × V)) (ws : List (List Int)) (ps : Array Value), xs = [.ref d] ∧ H1 d = some (.dT kvs) ∧ kvs.map (·.1) = keysI ws ∧
  H1 Pt = some (.tbl ps) ∧ TriplesOk ps.toList ∧ codeAmong pos ps.toList = none ∧
  ∀ (l : Addr) (H2 : Hp) (bs : List Addr) (ws' : List (List Int)) (more : Array Value), H1 l = none → (∀ b u, b ≠ Pt → H1 b = some u → H2 b = some u) → H2 Pt = some (.tbl (ps ++ more)) → ws'.Perm ws → ws'.Pairwise (fun a b => wordLt b a = false) →
    bs.length = ws'.length → (∀ (j : Nat) (a : List Int), ws'[j]? = some a → ∃ b, bs[j]? = some b ∧ H2 b = some (.tup (a.map V.int))) → H2 l = some (.lst (bs.map V.ref)) → Q (.ref l) H2
end L2
namespace L2
open PySem PySem.Spec PyProof.Rows
section
variable {X : Cx} {pins : List (Addr × Obj)} {σ : St}
theorem list_at {H : Hp} {s : Shared} {l : Addr} {as : List Addr} (I : Inv X pins σ H s) (e : H l = some (.lst (as.map V.ref))) : ∃ n, s.heap.get? l = some (seqObj "list" (as.map Value.ref).toArray n) ∧ as.length ≤ sizeLine := by
  obtain ⟨z, its, n, r, he⟩ := (show ObjOk X.prog X.w H s.heap l (.lst (as.map V.ref)) from I.hok l _ e)
  rw [refs_inj r] at he
  exact ⟨n, he, by rw [List.length_map] at z; exact z⟩
theorem word_at {H : Hp} {s : Shared} {b : Addr} {a : List Int} (I : Inv X pins σ H s) (e : H b = some (.tup (a.map V.int))) : ∃ items : Array Value, IsTup s.heap b items ∧ IntsAre items.toList a := by
  obtain ⟨z, its, r, ht⟩ := (show ObjOk X.prog X.w H s.heap b (.tup (a.map V.int)) from I.hok b _ e)
  exact ⟨its.toArray, ht, by simpa using intsAre_of r⟩
theorem key_at {H : Hp} {s : Shared} {k b : Addr} {a : List Int} (I : Inv X pins σ H s) (e : H k = some (.tup [.int (a.length : Int), .ref b])) (e2 : H b = some (.tup (a.map V.int))) : KeyAt s.heap k b a := by
  obtain ⟨z, its, r, ht⟩ := (show ObjOk X.prog X.w H s.heap k (.tup [.int (a.length : Int), .ref b]) from I.hok k _ e)
  refine ⟨?_, word_at I e2⟩
  cases r with
  | cons r1 r =>
    cases r with
    | cons r2 r =>
      cases r
      obtain ⟨t, rfl⟩ := r1
      cases r2
      exact ⟨t, ht⟩
end
/-- what the key function's body must do, whatever it runs in -/
abbrev KeyBody (X : Cx) (x : Str) (sc : Scope) (body : Expr) : Prop := ∀ (f : Addr) (qual : Str) (cdv : Value) (A : Around) (outer : List Env) (s : Shared) (H : Hp) (E : XK), ∃ t, PE (cxOf CX0 X.prog X.w X.K X.mg X.base [x] qual sc f cdv A outer s H E) body t ∧
  ∀ (b : Addr) (a : List Int) (H' : Hp) (Q : VK), H' b = some (.tup (a.map V.int)) → (∀ q, H' q = none → Q (.ref q) (upd H' q (.tup [.int (a.length : Int), .ref b]))) → t [some (.ref b)] H' Q
theorem pe_sorted {X : Cx} {e : Expr} {ta : TA} {p pos kpos lpos : Pos} {x : Str} {lp : Arguments} {body : Expr} {sc : Scope} {c Pt : Addr}
    (hg : Gl X "sorted") (hm : X.mg "sorted" = none) (ha : PA X [e] ta) (hcode : X.env.code = .ref c) (C : PySem.W.CodeHd X.base c Pt) (hbm : X.base.BuiltinsAt X.mg Pt) (hc : X.calm = true) (hr : Room 3 X.A)
    (S : FnScope [x] [x] sc) (hdef : defaultsOf lp X.env = ([], [])) (hcl : closureFor sc X.env = pure [])
    (hbind : ∀ (qual : Str) (pm cdv ct u : Value), bindArgs (PySem.W.kla_fn "<lambda>" qual lp body sc [] pm cdv ct) ⟨[u], []⟩ = pure [(x, u)]) (hbody : KeyBody X x sc body)
    (hk : backToKw pos (keywordEach [⟨some (Str.ofString "key"), .Lambda lp body sc lpos, kpos⟩] X.env) = [(some (Str.ofString "key"), do let v ← eval (.Lambda lp body sc lpos) X.env; standAt pos; pure v)] := by rfl)
    (he : backTo pos (starEach [e] X.env) = (false, eval e X.env) :: backTo pos (starEach [] X.env) := by rfl) (hpl : (backTo pos (starEach [e] X.env)).any (·.1) = false := by rfl) :
    PE X (.Call (.Name "sorted" p) [e] [⟨some (Str.ofString "key"), .Lambda lp body sc lpos, kpos⟩] pos) (tSorted Pt lpos ta) := by
  intro pins s σ H Q I h
  refine wpAny_Call_Name_kw (ld_blt I hg hm PyProof.Rows.boot_sorted ?_)
  refine PyProof.Rows.callWith_kw (thn (ha pos pins s σ H _ I h) fun us s1 ⟨vs, H1, I1, r1, q1⟩ => ?_) he hpl (by rw [hk]; rfl) (by rw [hk]; rfl)
  obtain ⟨d, kvs, ws, ps, rfl, hd, hkw, hP, htr, hnf, q⟩ := q1
  obtain ⟨u, rfl, ru⟩ := vals1 r1
  cases ru
  rw [hk]
  show wpAny _ _ (evalAll [do let v ← eval (.Lambda lp body sc lpos) X.env; standAt pos; pure v]) _ _ s1
  have hgs : s1.heap.Ns mainGlobals X.mg := I1.mod.glob.keeps I1.bk
  have htab : s1.heap.get? Pt = some (PySem.W.tabObj ps) := (show ObjOk X.prog X.w H1 s1.heap Pt (.tbl ps) from I1.hok Pt _ hP)
  have hgP : mainGlobals ≠ Pt := fun z => by
    obtain ⟨o, es, ep, eo, ed, _⟩ := hgs
    rw [z, htab] at eo
    cases eo
    cases ed
  have hb2 : s1.heap.BuiltinsAt X.mg Pt := let ⟨bm, ob, b1, b2, b3, b4, b5, b6⟩ := hbm; ⟨bm, ob, b1, b2, b3, b4, I1.bk _ _ b5, b6⟩
  refine wpAny_evalAll_cons (wpAny_bind (PySem.W.kla_eval hdef ?_))
  refine PySem.W.kla_makeFunction (mg := X.mg) hcl I1.ok.glob hgs hcode (C.keeps I1.bk) htab htr hnf hgP hb2 fun c' ctv h1 tk hx hge hlt hrec htb => ?_
  refine wpAny_bind (wpAny_standAt (wpAny_pure (wpAny_evalAll_nil ?_)))
  obtain ⟨c₂, oc, vsc, tq, ec, hoc, hdc, hvc⟩ := hrec
  cases ec
  generalize hmore : (#[rawInt lpos.line, rawInt lpos.col, .ref c'] : Array Value) = more at htb
  generalize hfo : PySem.W.kla_obj "<lambda>" (X.env.qual ++ "<lambda>") lp body sc [] ((X.mg "__name__").getD .none) c' ctv = fo
  have I2 : Inv X pins σ (upd H1 Pt (.tbl (ps ++ more))) { s1 with heap := h1.push fo, toks := tk } :=
    I1.grown (t' := tk) hP (fun b o nb eb => Heap.get?_push_of_some _ (hx b o nb eb)) (Heap.get?_push_of_some _ htb)
  have hfo2 : (h1.push fo).get? h1.objs.size = some fo := Heap.get?_push_size _ (by rw [← hfo]; rfl)
  have hoc2 : (h1.push fo).get? c' = some oc := Heap.get?_push_of_some _ hoc
  have new1 : ∀ b o, s1.heap.get? b = some o → b < c' := fun b o eb => Nat.lt_of_lt_of_le (Heap.lt_size eb) hge
  have nPt : Pt < c' := new1 _ _ htab
  have H2same : ∀ b u, b ≠ Pt → H1 b = some u → (upd H1 Pt (.tbl (ps ++ more))) b = some u := fun b u nb eb => by rw [upd_ne nb]; exact eb
  have H2P : (upd H1 Pt (.tbl (ps ++ more))) Pt = some (.tbl (ps ++ more)) := upd_same
  have fresh1 : ∀ b, s1.heap.objs.size ≤ b → (upd H1 Pt (.tbl (ps ++ more))) b = none := fun b hb => by
    rw [upd_ne (Nat.ne_of_gt (Nat.lt_of_lt_of_le (Heap.lt_size htab) hb))]
    exact I1.hok.fresh hb
  have H2free : ∀ b, (upd H1 Pt (.tbl (ps ++ more))) b = none → H1 b = none := fun b e => by
    by_cases hb : b = Pt
    · rw [hb, upd_same] at e; cases e
    · rw [upd_ne hb] at e; exact e
  have hd2 : (upd H1 Pt (.tbl (ps ++ more))) d = some (.dT kvs) := H2same d _ (fun z => by rw [z, hP] at hd; cases hd) hd
  generalize upd H1 Pt (.tbl (ps ++ more)) = H2 at I2 H2same H2P fresh1 H2free hd2
  generalize hf : h1.objs.size = f at hfo2 hlt
  generalize hs2 : ({ s1 with heap := h1.push fo, toks := tk } : Shared) = s2 at I2
  have hh2 : s2.heap = h1.push fo := by rw [← hs2]
  rw [← hh2] at hfo2 hoc2
  show wpAny (model X.prog X.w) X.A (call (.builtin "sorted") [.ref d] [(Str.ofString "key", .ref f)]) (EP X pins σ Q) X.xe s2
  obtain ⟨zk, lo, xs, pr, o, es, ep, ho, hxd, hdt, hes, _⟩ := (show ObjOk X.prog X.w H2 s2.heap d (.dT kvs) from I2.hok d _ hd2)
  have hsz : es.size = kvs.length := by rw [size_of_entries hes, Paired.length pr]
  have hwl : kvs.length = ws.length := by have := congrArg List.length hkw; rwa [List.length_map, List.length_map] at this
  have ent : ∀ (i : Nat) (a : List Int), ws[i]? = some a → ∃ (en : DictEntry) (b : Addr), es[i]? = some en ∧ en.key = .ref b ∧ H2 b = some (.tup (a.map V.int)) := fun i a ei => by
    have e1 : (kvs.map (·.1))[i]? = some (a.map fun n => (Sum.inl n : Key)) := by rw [hkw, List.getElem?_map, ei]; rfl
    rw [List.getElem?_map] at e1
    obtain ⟨⟨kk, v⟩, ek, ek2⟩ := Option.map_eq_some_iff.mp e1
    obtain ⟨b, hb, e2, e3, _⟩ := paired_get pr ek
    have q1 := entry_at hes i
    rw [hb] at q1
    have ek3 : kk = a.map fun n => (Sum.inl n : Key) := ek2
    subst ek3
    refine ⟨_, b.2.1, q1, rfl, ?_⟩
    rw [List.map_map] at e3
    exact e3
  refine sorted_src (src_ents lo hxd hdt) (I.ok.hd hc) ho (by rw [hsz]; exact zk) fun L vs h3 tk3 hk3 hL hoL hl hvs => ?_
  have hall : ∀ v ∈ vs, ∃ b : Addr, v = .ref b := fun v hv => by
    obtain ⟨j, hj⟩ := List.mem_iff_getElem?.mp hv
    obtain ⟨en, he1, he2⟩ := hvs j v hj
    have hjw : j < ws.length := by have := (Array.getElem?_eq_some_iff.mp he1).1; omega
    obtain ⟨en', b, e1, e2, _⟩ := ent j _ (List.getElem?_eq_getElem hjw)
    rw [he1] at e1
    cases e1
    exact ⟨b, he2.trans e2⟩
  obtain ⟨bs, rfl⟩ := refs_of hall
  rw [List.length_map, hsz, hwl] at hl
  have bw : ∀ (i : Nat) (a : List Int), ws[i]? = some a → ∃ b, bs[i]? = some b ∧ H2 b = some (.tup (a.map V.int)) := fun i a ei => by
    obtain ⟨en, b, e1, e2, e3⟩ := ent i a ei
    have hib : i < bs.length := by have := (List.getElem?_eq_some_iff.mp ei).1; omega
    obtain ⟨en', f1, f2⟩ := hvs i (.ref bs[i]) (by rw [List.getElem?_map, List.getElem?_eq_getElem hib]; rfl)
    rw [e1] at f1
    cases f1
    rw [e2] at f2
    have : bs[i] = b := by injection f2
    exact ⟨b, by rw [List.getElem?_eq_getElem hib, this], e3⟩
  have hnw : bs.length ≤ sizeLine := by rw [hl, ← hwl]; exact zk
  refine sort_tree hoL (by rw [List.length_map]; exact hnw) fun e1 ho1 => ?_
  -- the state in which the keys are made
  have keep2 : ∀ b u, s2.heap.get? b = some u → ((h3.update L (Obj.mapSeq fun _ => (#[] : Array Value))).push (seqObj "tuple" (bs.map Value.ref).toArray 0)).get? b = some u := fun b u eb =>
    Heap.get?_push_of_some _ ((Heap.get?_update_other _ _ (Nat.ne_of_gt (hL b u eb))).trans (hk3 b u eb))
  have I3 : Inv X pins σ H2 { s2 with heap := (h3.update L (Obj.mapSeq fun _ => (#[] : Array Value))).push (seqObj "tuple" (bs.map Value.ref).toArray 0), toks := tk3 } := I2.kept (t' := tk3) keep2
  generalize hh4 : (h3.update L (Obj.mapSeq fun _ => (#[] : Array Value))).push (seqObj "tuple" (bs.map Value.ref).toArray 0) = h4 at keep2 I3
  have hL4 : h4.get? L = some (seqObj "list" #[] e1) := by rw [← hh4]; exact Heap.get?_push_of_some _ ho1
  have ltL : L < h4.objs.size := Heap.lt_size hL4
  have new : ObjOk X.prog X.w (upd H2 h4.objs.size (.lst [])) (h4.push (seqObj "list" #[] 0)) h4.objs.size (.lst []) := ⟨Nat.zero_le _, [], 0, .nil, Heap.get?_push_size _ rfl⟩
  have I4 : Inv X pins σ (upd H2 h4.objs.size (.lst [])) { s2 with heap := h4.push (seqObj "list" #[] 0), toks := tk3 } := Inv.laid (s := { s2 with heap := h4, toks := tk3 }) (t' := tk3) I3 (fun b u eb => Heap.get?_push_of_some _ eb) (Nat.le_refl _) new
  have hkS0 : H2 h4.objs.size = none := I3.hok.fresh (Nat.le_refl _)
  generalize hkS : h4.objs.size = kS at I4 hkS0 ltL
  have hLn : H2 L = none := by
    cases z : H2 L with
    | none => rfl
    | some u =>
      obtain ⟨ob, eb⟩ := (show ∃ ob, s2.heap.get? L = some ob from ok_there (I2.hok L u z))
      exact absurd (hL L ob eb) (Nat.lt_irrefl _)
  obtain ⟨mL, ⟨oL, _, _, hoLoc, _⟩, _⟩ := I2.loc
  have nLoc : L ≠ X.env.locals := Nat.ne_of_gt (hL _ _ hoLoc)
  have fsL : ∀ b ∈ X.fs, ∃ ob, s2.heap.get? b = some ob := fun b hb => by
    obtain ⟨_, ob, eb, _⟩ := I2.ok.funs.mem hb
    obtain ⟨sl, e2⟩ := I2.base.slot b ob eb (I2.ok.frf b hb) hb fun z => I2.ok.exfs b z hb
    exact ⟨_, e2⟩
  have cellL : ∀ y cc, X.env.cells.lookup y = some cc → cc ≠ L := fun y cc ey => by
    obtain ⟨v, ob, eb, _⟩ := I2.cell y cc ey
    exact Nat.ne_of_lt (hL _ _ eb)
  have pinL : ∀ pp ∈ X.pn ++ pins, pp.1 ≠ L := fun pp hp => Nat.ne_of_lt (hL _ _ (I2.pin pp hp).1)
  have s0L : X.s₀.heap.objs.size ≤ L := Nat.le_of_lt (Nat.lt_of_le_of_lt I2.ok.above (hL _ _ hoLoc))
  have locLt : ∀ b o, s1.heap.get? b = some o → b ≠ f ∧ b ≠ c' := fun b o eb => ⟨Nat.ne_of_lt (Nat.lt_trans (new1 b o eb) (by rw [← hf]; exact Heap.lt_size hoc)), Nat.ne_of_lt (new1 b o eb)⟩
  obtain ⟨m1, ⟨o1, _, _, hoLoc1, _⟩, _⟩ := I1.loc
  have fs1 : ∀ b ∈ X.fs, ∃ ob, s1.heap.get? b = some ob := fun b hb => by
    obtain ⟨_, ob, eb, _⟩ := I1.ok.funs.mem hb
    obtain ⟨sl, e2⟩ := I1.base.slot b ob eb (I1.ok.frf b hb) hb fun z => I1.ok.exfs b z hb
    exact ⟨_, e2⟩
  have updN : ∀ b, b ≠ kS → H2 b = none → (upd H2 kS (.lst [])) b = none := fun b nb eb => by rw [upd_ne nb]; exact eb
  have nLk : L ≠ kS := Nat.ne_of_lt ltL
  have ltf : f < kS := by rw [← hkS]; exact Heap.lt_size (keep2 _ _ hfo2)
  have ltc : c' < kS := by rw [← hkS]; exact Heap.lt_size (keep2 _ _ hoc2)
  have I5 : Inv X ((L, seqObj "list" #[] e1) :: (f, fo) :: (c', oc) :: pins) σ (upd H2 kS (.lst [])) { s2 with heap := h4.push (seqObj "list" #[] 0), toks := tk3 } := by
    refine I4.pins_of fun pp hp => ?_
    rcases List.mem_cons.mp hp with rfl | hp
    · exact ⟨Heap.get?_push_of_some _ hL4, updN _ nLk hLn, nLoc, fun hb => by obtain ⟨ob, eb⟩ := fsL _ hb; exact absurd (hL _ _ eb) (Nat.lt_irrefl _), fun v z => nomatch z⟩
    · rcases List.mem_cons.mp hp with rfl | hp
      · refine ⟨Heap.get?_push_of_some _ (keep2 _ _ hfo2), updN _ (Nat.ne_of_lt ltf) (fresh1 _ (Nat.le_of_lt (Nat.lt_of_le_of_lt hge (by rw [← hf]; exact Heap.lt_size hoc)))), fun z => (locLt _ _ hoLoc1).1 z.symm, fun hb => ?_, fun v z => ?_⟩
        · obtain ⟨ob, eb⟩ := fs1 _ hb
          exact (locLt _ _ eb).1 rfl
        · rw [← hfo] at z; cases z
      · rcases List.mem_cons.mp hp with rfl | hp
        · refine ⟨Heap.get?_push_of_some _ (keep2 _ _ hoc2), updN _ (Nat.ne_of_lt ltc) (fresh1 _ hge), fun z => (locLt _ _ hoLoc1).2 z.symm, fun hb => ?_, fun v z => ?_⟩
          · obtain ⟨ob, eb⟩ := fs1 _ hb
            exact (locLt _ _ eb).2 rfl
          · rw [hdc] at z; cases z
        · exact I4.pin pp (List.mem_append_right _ hp)
  have hr2 : Room 1 X.A.in1.in1 := (hr.in1).in1
  refine sort_rest (kS := kS) (J := fun i s' => ∃ (H' : Hp) (ks : List Addr), Inv X ((L, seqObj "list" #[] e1) :: (f, fo) :: (c', oc) :: pins) σ H' s' ∧ Same H2 H' ∧ H' kS = some (.lst (ks.map V.ref)) ∧ ks.length = i ∧
      ∀ (j : Nat) (kk b : Addr) (a : List Int), ks[j]? = some kk → bs[j]? = some b → ws[j]? = some a → H' kk = some (.tup [.int (a.length : Int), .ref b]))
    ⟨_, [], I5, fun b u eb => (by rw [upd_ne (ne_of_none eb hkS0)]; exact eb), upd_same, rfl, fun j kk b a ej => by simp at ej⟩ (fun i xx s' hxi hJ => ?_) fun s' hJ => ?_
  · obtain ⟨H', ks, J, g, ek, hkl, hks⟩ := hJ
    rw [List.getElem?_map] at hxi
    obtain ⟨b, hb, rfl⟩ := Option.map_eq_some_iff.mp hxi
    have hib : i < bs.length := (List.getElem?_eq_some_iff.mp hb).1
    have hiw : i < ws.length := by omega
    obtain ⟨b', hb', eb'⟩ := bw i _ (List.getElem?_eq_getElem hiw)
    rw [hb] at hb'
    cases hb'
    have ew : ws[i]? = some ws[i] := List.getElem?_eq_getElem hiw
    generalize ws[i] = a at eb' ew
    have pf := J.pin (f, fo) (List.mem_append_right _ (.tail _ (.head _)))
    have pc := J.pin (c', oc) (List.mem_append_right _ (.tail _ (.tail _ (.head _))))
    obtain ⟨t, hpe, hpt⟩ := hbody f (X.env.qual ++ "<lambda>") (.ref c') X.A.in1.in1 X.stack s' H' E0
    refine wpAny_call (codeAny_mono (lam_run (k := 0) (name := "<lambda>") (pm := (X.mg "__name__").getD .none) (ct := ctv) (Q := fun v H'' => ∃ q, H' q = none ∧ v = .ref q ∧ H'' = upd H' q (.tup [.int (a.length : Int), .ref b])) S (by rw [pf.1, ← hfo]) ⟨c', oc, vsc, tq, rfl, pc.1, hdc, hvc⟩ (hbind _ _ _ _ _) hr2 J.env0.in1.in1 (v := .ref b) rfl hpe
      (hpt b a H' _ (g _ _ eb') fun q hq => ⟨q, hq, rfl, rfl⟩)) fun r s'' hr' => ?_)
    cases r with
    | error e => exact hr'.elim
    | ok fl =>
      cases fl with
      | next => exact False.elim hr'
      | brk => exact False.elim hr'
      | cont => exact False.elim hr'
      | ret u =>
        obtain ⟨v, H'', J2, rv, q, hq, rfl, rfl⟩ := J.after hr'
        cases rv
        have nkq : kS ≠ q := ne_of_none ek hq
        have ek2 : (upd H' q (.tup [.int (a.length : Int), .ref b])) kS = some (.lst (ks.map V.ref)) := by rw [upd_ne nkq]; exact ek
        have hq2 : (upd H' q (.tup [.int (a.length : Int), .ref b])) q = some (.tup [.int (a.length : Int), .ref b]) := upd_same
        obtain ⟨n, hn, hz⟩ := list_at J2 ek2
        refine ⟨_, n, hn, by rw [List.size_toArray, List.length_map]; omega, upd (upd H' q (.tup [.int (a.length : Int), .ref b])) kS (.lst ((ks ++ [q]).map V.ref)), ks ++ [q], ?_, ?_, upd_same, by rw [List.length_append, hkl]; rfl, fun j kk bb aa e1 e2 e3 => ?_⟩
        · have e6 := get?_update_seq hn (fun z => z.push (Value.ref q))
          have e7 : ((ks.map Value.ref).toArray).push (Value.ref q) = ((ks ++ [q]).map Value.ref).toArray := by simp
          rw [e7] at e6
          exact J2.write (t' := s''.toks) (by rw [ek2]; exact True.intro) (.inl rfl) (fun bb u nb eb => (Heap.get?_update_other _ _ (Ne.symm nb)).trans eb) ⟨_, e6⟩ ⟨by rw [List.length_map, List.length_append]; show ks.length + 1 ≤ sizeLine; omega, (ks ++ [q]).map Value.ref, _, vals_refs _, e6⟩
        · intro bb u eb
          rw [upd_ne (ne_of_none eb hkS0), upd_ne (ne_of_none (g _ _ eb) hq)]
          exact g _ _ eb
        · have hjl : j < ks.length + 1 := by have := (List.getElem?_eq_some_iff.mp e1).1; rwa [List.length_append] at this
          have nk : kk ≠ kS := by
            by_cases hj : j < ks.length
            · rw [List.getElem?_append_left hj] at e1
              have := hks j kk bb aa e1 e2 e3
              exact ne_of this ek (by intro z; cases z)
            · have hj2 : j = ks.length := by omega
              subst hj2
              rw [List.getElem?_append_right (Nat.le_refl _), Nat.sub_self] at e1
              have : q = kk := by simpa using e1
              rw [← this]; exact nkq.symm
          rw [upd_ne nk]
          by_cases hj : j < ks.length
          · rw [List.getElem?_append_left hj] at e1
            have h5 := hks j kk bb aa e1 e2 e3
            rw [upd_ne (ne_of_none h5 hq)]
            exact h5
          · have hj2 : j = ks.length := by omega
            subst hj2
            rw [List.getElem?_append_right (Nat.le_refl _), Nat.sub_self] at e1
            have e4 : q = kk := by simpa using e1
            subst e4
            rw [hkl] at e2 e3
            rw [hb] at e2
            rw [ew] at e3
            cases e2
            cases e3
            exact upd_same
  · obtain ⟨H', ks, J, g, ek, hkl, hks⟩ := hJ
    rw [List.length_map] at hkl
    obtain ⟨n, hn, hz⟩ := list_at J ek
    have pL := J.pin (L, seqObj "list" #[] e1) (List.mem_append_right _ (.head _))
    refine ⟨_, n, hn, ?_⟩
    -- keys, words, and both
    have hkb : ks.length = bs.length := hkl
    have trip : ∃ trip : List Trip, trip.map (·.1) = ks ∧ trip.map (·.2.1) = bs ∧ trip.map (·.2.2) = ws := ⟨(ks.zip (bs.zip ws)), by rw [List.map_fst_zip (by rw [List.length_zip]; omega)], by
      rw [show ((ks.zip (bs.zip ws)).map fun t => t.2.1) = ((ks.zip (bs.zip ws)).map (·.2)).map (·.1) from (List.map_map ..).symm, List.map_snd_zip (by rw [List.length_zip]; omega), List.map_fst_zip (by omega)], by
      rw [show ((ks.zip (bs.zip ws)).map fun t => t.2.2) = ((ks.zip (bs.zip ws)).map (·.2)).map (·.2) from (List.map_map ..).symm, List.map_snd_zip (by rw [List.length_zip]; omega), List.map_snd_zip (by omega)]⟩
    obtain ⟨trip, t1, t2, t3⟩ := trip
    have tl : trip.length = bs.length := by have := congrArg List.length t2; rwa [List.length_map] at this
    have tK : ∀ t ∈ trip, KeyAt s'.heap t.1 t.2.1 t.2.2 ∧ H' t.2.1 = some (.tup (t.2.2.map V.int)) := fun t ht => by
      obtain ⟨j, hj⟩ := List.mem_iff_getElem?.mp ht
      have j1 : ks[j]? = some t.1 := by rw [← t1, List.getElem?_map, hj]; rfl
      have j2 : bs[j]? = some t.2.1 := by rw [← t2, List.getElem?_map, hj]; rfl
      have j3 : ws[j]? = some t.2.2 := by rw [← t3, List.getElem?_map, hj]; rfl
      obtain ⟨b, e1, e2⟩ := bw j _ j3
      rw [j2] at e1
      cases e1
      exact ⟨key_at J (hks j _ _ _ j1 j2 j3) (g _ _ e2), g _ _ e2⟩
    have eks : (ks.map Value.ref).toArray = keysOf trip := by rw [← t1, List.map_map]; rfl
    have ebs : (bs.map Value.ref).toArray = outOf trip := by rw [← t2, List.map_map]; rfl
    rw [eks] at hn ⊢
    rw [ebs]
    refine sort_end hr2.units0 hn pL.1 (fun z => by rw [z, pL.2.1] at ek; cases ek) (fun t ht => (tK t ht).1) (by rw [tl]; exact hnw) fun trip' hp hs => ⟨_, rfl, ?_⟩
    have nkL : kS ≠ L := fun z => by rw [z, pL.2.1] at ek; cases ek
    have J1 : Inv X ((L, seqObj "list" #[] e1) :: (f, fo) :: (c', oc) :: pins) σ (upd H' kS (.lst [])) { s' with heap := s'.heap.update kS (Obj.mapSeq fun _ => #[]) } :=
      J.write (t' := s'.toks) (by rw [ek]; exact True.intro) (.inl rfl) (fun bb u nb eb => (Heap.get?_update_other _ _ (Ne.symm nb)).trans eb) ⟨_, get?_update_seq hn _⟩ ⟨Nat.zero_le _, [], _, .nil, get?_update_seq hn _⟩
    have pL1 := J1.pin (L, seqObj "list" #[] e1) (List.mem_append_right _ (.head _))
    have J2 : Inv X pins σ (upd H' kS (.lst [])) { s' with heap := s'.heap.update kS (Obj.mapSeq fun _ => #[]) } := J1.pins_of fun pp hp => J1.pin pp (List.mem_append_right _ (.tail _ (.tail _ (.tail _ hp))))
    have hpl : trip'.length ≤ sizeLine := by rw [hp.length_eq, tl]; exact hnw
    have J3 : Inv X pins σ (upd (upd H' kS (.lst [])) L (.lst ((trip'.map (·.2.1)).map V.ref))) { s' with heap := (s'.heap.update kS (Obj.mapSeq fun _ => #[])).update L (Obj.mapSeq fun _ => outOf trip') } := by
      have e6 := get?_update_seq pL1.1 (fun _ => outOf trip')
      have e7 : outOf trip' = ((trip'.map (·.2.1)).map Value.ref).toArray := by rw [List.map_map]; rfl
      rw [e7] at e6 ⊢
      exact Inv.take (s := { s' with heap := s'.heap.update kS (Obj.mapSeq fun _ => #[]) }) (t' := s'.toks) J2 s0L nLoc cellL pinL pL1.2.1 (fun bb u nb eb => (Heap.get?_update_other _ _ (Ne.symm nb)).trans eb) ⟨by rw [List.length_map, List.length_map]; exact hpl, (trip'.map (·.2.1)).map Value.ref, _, vals_refs _, e6⟩
    refine ⟨.ref L, _, J3, rfl, q L _ (trip'.map (·.2.1)) (trip'.map (·.2.2)) more (H2free L hLn) (fun b u nb eb => ?_) ?_ ?_ ?_ ?_ (fun j a ej => ?_) upd_same⟩
    · have z := g _ _ (H2same b u nb eb)
      rw [upd_ne (fun y => by have z2 := H2same b u nb eb; rw [y, hLn] at z2; cases z2), upd_ne (fun y => by have z2 := H2same b u nb eb; rw [y, hkS0] at z2; cases z2)]
      exact z
    · have z := g _ _ H2P
      rw [upd_ne (fun y => by rw [← y, H2P] at hLn; cases hLn), upd_ne (fun y => by rw [← y, H2P] at hkS0; cases hkS0)]
      exact z
    · rw [← t3]; exact hp.map _
    · exact List.pairwise_map.mpr hs
    · rw [List.length_map, List.length_map]
    · rw [List.getElem?_map] at ej
      obtain ⟨t, et, rfl⟩ := Option.map_eq_some_iff.mp ej
      have z := (tK t (hp.mem_iff.mp (List.mem_of_getElem? et))).2
      refine ⟨t.2.1, by rw [List.getElem?_map, et]; rfl, ?_⟩
      rw [upd_ne (fun y => by rw [y, pL.2.1] at z; cases z), upd_ne (fun y => by rw [y, ek] at z; cases z)]
      exact z
end L2
/-! Rules for words: tuples of numbers put together, lists that were handed in put together, compared, a list lengthened by a tuple, list(d). -/
namespace L2
open PySem PySem.Spec PyProof.Rows
section
variable {X : Cx}
/-- xs + ys, lists that may be handed in -/
def rCatL (K : PySem.W.Frag) : R2 := fun x y H Q => ∃ l b xs zs, x = .ref l ∧ y = .ref b ∧ SqL K H l xs ∧ SqL K H b zs ∧ xs.length + zs.length ≤ sizeLine ∧ ∀ p, H p = none → Q (.ref p) (upd H p (.lst (xs ++ zs)))
theorem op_catL : OpR X (binaryOp .Add) (rCatL X.K) := by
  intro pins s σ H x y v u Q I rx ry h
  obtain ⟨l, b, xs, zs, rfl, rfl, hH, hB, hz, q⟩ := h
  cases rx
  cases ry
  obtain ⟨its, r, p1, z1⟩ := I.list hH
  obtain ⟨its2, r2, p2, z2⟩ := I.list hB
  obtain ⟨⟨cls, dd, data, sl⟩, ho, hc, n, hd⟩ := p1.isList
  obtain ⟨⟨cls2, dd2, data2, sl2⟩, ho2, hc2, n2, hd2⟩ := p2.isList
  simp only at hc hd hc2 hd2
  subst hc hd hc2 hd2
  have e1 := r.length
  have e2 := r2.length
  refine concat_meets ⟨_, ho, rfl⟩ ⟨_, ho2, rfl⟩ noFill_list_add seq_list_add F.slot_list_add F.entry_list_add (F.args_list_add_2 _ _) (list_addW l b its.toArray its2.toArray n n2 dd dd2 sl sl2 (by rw [List.size_toArray, List.size_toArray]; omega)) ⟨ho, ho2, ?_⟩
  have ea : its.toArray ++ its2.toArray = (its ++ its2).toArray := by simp
  rw [ea]
  exact ⟨.ref _, _, I.lnew (t' := s.toks) (r.append r2) (by rw [List.length_append]; omega), rfl, q _ I.fresh⟩
/-- t + u: where one is empty, the other itself -/
def rCatW : R2 := fun x y H Q => ∃ a b xs ys, x = .ref a ∧ y = .ref b ∧ H a = some (.tup xs) ∧ H b = some (.tup ys) ∧ xs.length + ys.length ≤ sizeLine ∧ ∀ p H', Same H H' → H' p = some (.tup (xs ++ ys)) → Q (.ref p) H'
theorem op_catW : OpR X (binaryOp .Add) rCatW := by
  intro pins s σ H x y v u Q I rx ry h
  obtain ⟨a, b, xs, ys, rfl, rfl, ha, hb, hz, q⟩ := h
  by_cases hx : xs = []
  · subst hx
    cases rx
    cases ry
    obtain ⟨its, r1, p1, _⟩ := I.tuple (SqT.of ha)
    obtain ⟨its2, r2, p2, _⟩ := I.tuple (SqT.of hb)
    cases r1
    obtain ⟨⟨cls, dd, data, sl⟩, ho, hc, n, hd⟩ := p1
    obtain ⟨⟨cls2, dd2, data2, sl2⟩, ho2, hc2, n2, hd2⟩ := p2
    simp only at hc hd hc2 hd2
    subst hc hd hc2 hd2
    exact concat_meets ⟨_, ho, rfl⟩ ⟨_, ho2, rfl⟩ noFill_tuple_add seq_tuple_add F.slot_tuple_add F.entry_tuple_add (F.args_tuple_add_2 _ _) (tuple_addW0 a b #[] its2.toArray n n2 dd dd2 sl sl2 rfl) ⟨ho, ho2, ⟨.ref b, H, I, rfl, q b H (Same.refl H) hb⟩⟩
  · exact op_catT pins s σ H _ _ v u Q I rx ry ⟨a, b, xs, ys, rfl, rfl, SqT.of ha, SqT.of hb, hx, hz, fun e => q a H (Same.refl H) (by rw [e, List.append_nil]; exact ha),
      fun _ p hp => q p _ (fun b' o e => by rw [upd_ne (ne_of_none e hp)]; exact e) upd_same⟩
/-- xs.extend(t) -/
def rExtendT : V → List V → Hp → VK → Prop := fun x vs H Q => ∃ l b xs zs, x = .ref l ∧ vs = [.ref b] ∧ H l = some (.lst xs) ∧ H b = some (.tup zs) ∧ xs.length + zs.length ≤ sizeLine ∧ Q .non (upd H l (.lst (xs ++ zs)))
theorem mt_extendT : MtM X "list.extend" rExtendT := by
  intro pins s σ H x vs v us Q I rx rv h
  obtain ⟨l, b, xs, zs, rfl, rfl, hH, hB, hz, q⟩ := h
  cases rx
  obtain ⟨u, rfl, ru⟩ := rv.one
  cases ru
  obtain ⟨z, its, n, r, hl, e⟩ := I.lstM hH
  obtain ⟨its2, r2, p2, z2⟩ := I.tuple (SqT.of hB)
  obtain ⟨o2, ho2, hc2, n2, hd2⟩ := p2
  have hl2 := r2.length
  have hsz : its.toArray.size + its2.toArray.size ≤ sizeLine := by rw [List.size_toArray, List.size_toArray]; omega
  have hlong : ¬ (!its.toArray.isEmpty && Builtin.List.listTooLong (its.toArray.size + its2.toArray.size)) = true := by
    rw [notLongL hsz, Bool.and_false]
    exact Bool.false_ne_true
  refine wpAny_call_entry F.slot_list_extend ⟨_, e, rfl⟩ F.entry_list_extend ?_ (F.args_list_extend_2 _ _)
  show wpAny _ _ (Builtin.List.listExtendWith (.ref l) (.ref b) .none) _ _ s
  unfold Builtin.List.listExtendWith
  refine wpAny_bind (wpAny_typeOf (T := "tuple") ⟨o2, ho2, hc2⟩ ?_)
  have ht : (Value.type "tuple" == Value.type "tuple") = true := by rfl
  rw [if_pos (by rw [ht]; simp)]
  refine wpAny_bind (listItems_at ho2 hd2 ?_)
  refine wpAny_bind (listItems_at e rfl ?_)
  rw [if_neg hlong]
  refine wpAny_bind (listUpdate_at e rfl ?_ (by rw [List.size_toArray]; omega) (by show (its.toArray ++ its2.toArray).size ≤ _; rw [Array.size_append]; omega))
  refine wpAny_pure ⟨_, rfl, ⟨.non, _, I.lset (its' := its ++ its2) (t' := s.toks) hH e (by simp) (r.append r2) ?_, rfl, q⟩⟩
  rw [List.length_append]
  omega
theorem dp_ints {K : PySem.W.Frag} {H : Hp} : ∀ ns : List Int, DpAll K H (ns.map V.int) (ns.map PyData.int)
  | [] => .nil
  | n :: ns => .cons (.int n) (dp_ints ns)
theorem eqv_ints : ∀ ns ms : List Int, PyData.eqvAll (ns.map PyData.int) (ms.map PyData.int) = decide (ns = ms)
  | [], [] => by simp [PyData.eqvAll]
  | [], _ :: _ => by simp [PyData.eqvAll]
  | _ :: _, [] => by simp [PyData.eqvAll]
  | n :: ns, m :: ms => by
    rw [List.map_cons, List.map_cons]
    simp only [PyData.eqvAll, PyData.eqv, eqv_ints ns ms]
    by_cases e : n = m <;> by_cases e2 : ns = ms <;> simp [e, e2]
/-- xs == ys of lists of numbers -/
def rEqL (K : PySem.W.Frag) : R2 := fun x y H Q => ∃ (l b : Addr) (ns ms : List Int), x = .ref l ∧ y = .ref b ∧ SqL K H l (ns.map V.int) ∧ SqL K H b (ms.map V.int) ∧ Q (.bl (decide (ns = ms))) H
theorem op_eqL (hu : X.A.units + 64 < cLine) : OpR X (compareOp .Eq) (rEqL X.K) := by
  intro pins s σ H x y v u Q I rx ry h
  obtain ⟨l, b, ns, ms, rfl, rfl, hl, hb, q⟩ := h
  refine op_eqD hu pins s σ H _ _ v u Q I rx ry ⟨_, _, .lst hl (dp_ints ns), .lst hb (dp_ints ms), PySem.W.ke_shaped_ints ns, PySem.W.ke_shaped_ints ms, ?_⟩
  show Q (.bl (PyData.eqv (.list _) (.list _))) H
  simp only [PyData.eqv, eqv_ints]
  exact q
/-- list(d) of a dict whose keys are tuples: these tuples, in their order -/
theorem call_listD (hc : X.calm = true) : CallR X (.type "list") (fun xs H Q => ∃ d kvs, xs = [.ref d] ∧ H d = some (.dT kvs) ∧ ∀ (l : Addr) (bs : List Addr), H l = none → bs.length = kvs.length →
    (∀ (j : Nat) (k : List Key) (v : V), kvs[j]? = some (k, v) → ∃ b, bs[j]? = some b ∧ H b = some (.tup (k.map kV))) → Q (.ref l) (upd H l (.lst (bs.map V.ref)))) := by
  intro pins s σ H xs us Q I r h
  obtain ⟨d, kvs, rfl, hd, q⟩ := h
  obtain ⟨u, rfl, rx⟩ := vals1 r
  cases rx
  obtain ⟨zk, lo, xs, pr, o, es, ep, ho, hxd, hdt, hes, _⟩ := (show ObjOk X.prog X.w H s.heap d (.dT kvs) from I.hok d _ hd)
  have hsz : es.size = kvs.length := by rw [size_of_entries hes, Paired.length pr]
  have ent : ∀ (i : Nat) (k : List Key) (v : V), kvs[i]? = some (k, v) → ∃ (en : DictEntry) (b : Addr), es[i]? = some en ∧ en.key = .ref b ∧ H b = some (.tup (k.map kV)) := fun i k v ek => by
    obtain ⟨b, hb, e2, e3, _⟩ := paired_get pr ek
    have q1 := entry_at hes i
    rw [hb] at q1
    exact ⟨_, b.2.1, q1, rfl, e3⟩
  refine PySem.W.kdl_call (PySem.src_ents lo hxd hdt) (I.ok.hd hc) ho (by rw [hsz]; exact zk) fun h' tk acc c hk hS hacc => ?_
  have hall : ∀ v ∈ acc.toList, ∃ b : Addr, v = .ref b := fun v hv => by
    obtain ⟨j, hj⟩ := List.mem_iff_getElem?.mp hv
    obtain ⟨en, he1, he2⟩ := hacc.2 j v (by rw [← Array.getElem?_toList]; exact hj)
    have hjw : j < kvs.length := by have := (Array.getElem?_eq_some_iff.mp he1).1; omega
    obtain ⟨en', b, e1, e2, _⟩ := ent j (kvs[j]).1 (kvs[j]).2 (List.getElem?_eq_getElem hjw)
    rw [he1] at e1
    cases e1
    exact ⟨b, he2.trans e2⟩
  obtain ⟨bs, ebs⟩ := refs_of hall
  have hl : bs.length = kvs.length := by
    have := congrArg List.length ebs
    rw [Array.length_toList, List.length_map, hacc.1] at this
    omega
  have hS' : h'.get? s.heap.objs.size = some { cls := .type "list", data := .seq (bs.map Value.ref).toArray c } := by
    rw [hS]
    have : acc = (bs.map Value.ref).toArray := by apply Array.ext'; rw [ebs, List.toList_toArray]
    rw [this]
  refine ⟨.ref s.heap.objs.size, _, I.laid (o := .lst (bs.map V.ref)) (t' := tk) hk (Nat.le_refl _) ⟨by rw [List.length_map, hl]; exact zk, bs.map Value.ref, c, vals_refs bs, hS'⟩, rfl, q _ bs I.fresh hl fun j k v ek => ?_⟩
  obtain ⟨en, b, e1, e2, e3⟩ := ent j k v ek
  have hjb : j < bs.length := by have := (List.getElem?_eq_some_iff.mp ek).1; omega
  obtain ⟨en', f1, f2⟩ := hacc.2 j (.ref bs[j]) (by rw [← Array.getElem?_toList, ebs, List.getElem?_map, List.getElem?_eq_getElem hjb]; rfl)
  rw [e1] at f1
  cases f1
  rw [e2] at f2
  have : bs[j] = b := by injection f2
  exact ⟨b, by rw [List.getElem?_eq_getElem hjb, this], e3⟩
end
end L2
set_option maxHeartbeats 1000000
namespace Lm
/-! ### pushing what is new -/
section
variable {α β : Type} [DecidableEq α] [DecidableEq β]
def push (l : List α) (x : α) : List α := if x ∈ l then l else l ++ [x]
def ext (l xs : List α) : List α := xs.foldl push l
abbrev dd (xs : List α) : List α := ext [] xs
theorem ext_nil (l : List α) : ext l [] = l := rfl
theorem ext_cons (l : List α) (x : α) (xs : List α) : ext l (x :: xs) = ext (push l x) xs := rfl
theorem ext_app (l xs ys : List α) : ext l (xs ++ ys) = ext (ext l xs) ys := List.foldl_append
theorem ext_snoc (l xs : List α) (x : α) : ext l (xs ++ [x]) = push (ext l xs) x := by rw [ext_app]; rfl
theorem push_in {l : List α} {x : α} (h : x ∈ l) : push l x = l := if_pos h
theorem push_out {l : List α} {x : α} (h : x ∉ l) : push l x = l ++ [x] := if_neg h
theorem mem_push {l : List α} {x a : α} : a ∈ push l x ↔ a ∈ l ∨ a = x := by
  by_cases h : x ∈ l
  · rw [push_in h]
    constructor
    · exact .inl
    · rintro (q | rfl)
      · exact q
      · exact h
  · rw [push_out h]; simp
theorem mem_ext {a : α} : ∀ {xs l : List α}, a ∈ ext l xs ↔ a ∈ l ∨ a ∈ xs
  | [], l => by simp [ext_nil]
  | x :: xs, l => by rw [ext_cons, mem_ext, mem_push, List.mem_cons, or_assoc]
theorem mem_dd {a : α} {xs : List α} : a ∈ dd xs ↔ a ∈ xs := by rw [dd, mem_ext]; simp
theorem nodup_push {l : List α} (h : l.Nodup) (x : α) : (push l x).Nodup := by
  by_cases q : x ∈ l
  · rw [push_in q]; exact h
  · rw [push_out q]
    refine List.nodup_append.mpr ⟨h, by simp, ?_⟩
    intro a ha b hb e
    rw [List.mem_singleton] at hb
    subst hb e
    exact q ha
theorem nodup_ext : ∀ {xs l : List α}, l.Nodup → (ext l xs).Nodup
  | [], _, h => h
  | x :: xs, l, h => by rw [ext_cons]; exact nodup_ext (nodup_push h x)
theorem nodup_dd (xs : List α) : (dd xs).Nodup := nodup_ext List.nodup_nil
theorem ext_pre : ∀ (xs l : List α), ∃ m, ext l xs = l ++ m
  | [], l => ⟨[], by simp [ext_nil]⟩
  | x :: xs, l => by
    obtain ⟨m, h⟩ := ext_pre xs (push l x)
    rw [ext_cons, h]
    by_cases q : x ∈ l
    · rw [push_in q]; exact ⟨m, rfl⟩
    · rw [push_out q]; exact ⟨x :: m, by simp⟩
theorem ext_sub : ∀ {xs l : List α}, (∀ x ∈ xs, x ∈ l) → ext l xs = l
  | [], _, _ => rfl
  | x :: xs, l, h => by
    rw [ext_cons, push_in (h x List.mem_cons_self)]
    exact ext_sub fun y hy => h y (List.mem_cons_of_mem _ hy)
theorem dd_map_ext (c : α → β) : ∀ (xs l : List α), dd ((ext l xs).map c) = ext (dd (l.map c)) (xs.map c)
  | [], l => rfl
  | x :: xs, l => by
    rw [ext_cons, dd_map_ext c xs, List.map_cons, ext_cons]
    congr 1
    by_cases q : x ∈ l
    · rw [push_in q, push_in (mem_dd.mpr (List.mem_map_of_mem q))]
    · rw [push_out q, List.map_append, List.map_singleton, dd, ext_snoc]
theorem ext_filter (l : List α) : ∀ (xs m : List α), l ++ (ext m xs).filter (fun x => decide (x ∉ l)) = ext (l ++ m.filter fun x => decide (x ∉ l)) xs
  | [], m => rfl
  | x :: xs, m => by
    rw [ext_cons, ext_filter l xs, ext_cons]
    congr 1
    by_cases q : x ∈ m
    · rw [push_in q]
      by_cases r : x ∈ l
      · rw [push_in (by simp [r])]
      · rw [push_in (by simp [r, q])]
    · rw [push_out q, List.filter_append]
      by_cases r : x ∈ l
      · rw [push_in (by simp [r])]
        simp [r]
      · rw [push_out (by simp [r, q])]
        simp [r]
theorem ext_eq (l xs : List α) : ext l xs = l ++ (dd xs).filter (fun x => decide (x ∉ l)) := by
  rw [dd, ext_filter]; simp
theorem loop_eq : ∀ (xs acc : List α), List.eraseDupsBy.loop (fun x y => x == y) xs acc = ext acc.reverse xs
  | [], acc => by rw [List.eraseDupsBy.loop]; rfl
  | x :: xs, acc => by
    rw [List.eraseDupsBy.loop, ext_cons]
    by_cases h : x ∈ acc
    · have e : acc.any (fun y => x == y) = true := List.any_eq_true.mpr ⟨x, h, by simp⟩
      rw [e]
      dsimp only
      rw [loop_eq xs acc, push_in (by simpa using h)]
    · have e : acc.any (fun y => x == y) = false := by
        rw [Bool.eq_false_iff]
        intro q
        obtain ⟨y, hy, e⟩ := List.any_eq_true.mp q
        rw [beq_iff_eq] at e
        subst e
        exact h hy
      rw [e]
      dsimp only
      rw [loop_eq xs (x :: acc), push_out (by simpa using h), List.reverse_cons]
theorem eraseDups_eq (xs : List α) : xs.eraseDups = dd xs := by
  unfold List.eraseDups List.eraseDupsBy
  rw [loop_eq]; rfl
theorem dd_len : ∀ (xs l : List α), (ext l xs).length ≤ l.length + xs.length
  | [], l => by simp [ext_nil]
  | x :: xs, l => by
    have h := dd_len xs (push l x)
    rw [ext_cons, List.length_cons]
    by_cases q : x ∈ l
    · rw [push_in q] at h ⊢; omega
    · rw [push_out q] at h ⊢; rw [List.length_append, List.length_singleton] at h; omega
theorem dd_full : ∀ (xs l : List α), l.Nodup → (ext l xs).length = l.length + xs.length → (l ++ xs).Nodup
  | [], l, hl, _ => by simpa using hl
  | x :: xs, l, hl, h => by
    rw [ext_cons, List.length_cons] at h
    have z := dd_len xs (push l x)
    by_cases q : x ∈ l
    · rw [push_in q] at h z; omega
    · have e := dd_full xs (push l x) (nodup_push hl x) (by rw [h, push_out q, List.length_append, List.length_singleton]; omega)
      rw [push_out q] at e
      simpa using e
theorem len_sub : ∀ {A B : List α}, A.Nodup → (∀ x ∈ A, x ∈ B) → A.length ≤ B.length
  | [], _, _, _ => Nat.zero_le _
  | a :: A, B, hn, h => by
    have ha := h a List.mem_cons_self
    obtain ⟨hx, hn'⟩ := List.nodup_cons.mp hn
    have q := len_sub (A := A) (B := B.erase a) hn' fun x hxA => by
      have : x ≠ a := fun e => hx (e ▸ hxA)
      exact (List.mem_erase_of_ne this).mpr (h x (List.mem_cons_of_mem _ hxA))
    rw [List.length_erase_of_mem ha] at q
    have : 0 < B.length := List.length_pos_of_mem ha
    rw [List.length_cons]; omega
theorem nodup_of_sub {A B : List α} (hn : A.Nodup) (h : ∀ x ∈ A, x ∈ B) (hl : B.length ≤ A.length) : B.Nodup := by
  have q := len_sub hn (B := dd B) fun x hx => mem_dd.mpr (h x hx)
  have z := dd_len B []
  have := dd_full B [] List.nodup_nil (by rw [List.length_nil, Nat.zero_add] at z ⊢; show (dd B).length = B.length; have : (dd B).length ≤ B.length := z; omega)
  simpa using this
end

/-! ### first states of each class -/
section
variable {α β : Type} [DecidableEq α] [DecidableEq β]
def repP (m : Nat → α) (P : List Nat) (s : Nat) : List Nat := if m s ∈ P.map m then P else P ++ [s]
def reps (m : Nat → α) (L : List Nat) : List Nat := L.foldl (repP m) []
theorem reps_snoc (m : Nat → α) (L : List Nat) (s : Nat) : reps m (L ++ [s]) = repP m (reps m L) s := by
  unfold reps; rw [List.foldl_append]; rfl
theorem snoc_ind {P : List Nat → Prop} (h0 : P []) (h1 : ∀ L s, P L → P (L ++ [s])) : ∀ L, P L := by
  intro L
  have : ∀ n, ∀ L : List Nat, L.length = n → P L := by
    intro n
    induction n with
    | zero => intro L h; rw [List.length_eq_zero_iff.mp h]; exact h0
    | succ n ih =>
      intro L h
      have hne : L ≠ [] := fun e => by rw [e] at h; cases h
      rw [← List.dropLast_concat_getLast hne]
      exact h1 _ _ (ih _ (by rw [List.length_dropLast, h]; rfl))
  exact this _ L rfl
theorem reps_map (m : Nat → α) (L : List Nat) : (reps m L).map m = dd (L.map m) := by
  induction L using snoc_ind with
  | h0 => rfl
  | h1 L s ih =>
    rw [reps_snoc, List.map_append, List.map_singleton, dd, ext_snoc, ← dd, ← ih]
    unfold repP push
    split
    · rfl
    · rw [List.map_append]; rfl
theorem reps_mem (m : Nat → α) {p : Nat} (L : List Nat) : p ∈ reps m L → p ∈ L := by
  induction L using snoc_ind with
  | h0 => intro h; cases h
  | h1 L s ih =>
    rw [reps_snoc]
    unfold repP
    split
    · intro h; exact List.mem_append_left _ (ih h)
    · intro h
      rcases List.mem_append.mp h with h | h
      · exact List.mem_append_left _ (ih h)
      · exact List.mem_append_right _ h
theorem reps_has (m : Nat → α) {L : List Nat} {s : Nat} (h : s ∈ L) : ∃ p, p ∈ reps m L ∧ m p = m s := by
  have : m s ∈ (reps m L).map m := by rw [reps_map]; exact mem_dd.mpr (List.mem_map_of_mem h)
  obtain ⟨p, hp, e⟩ := List.mem_map.mp this
  exact ⟨p, hp, e⟩
theorem reps_congr {m : Nat → α} {c : Nat → β} (L : List Nat) : (∀ s ∈ L, ∀ t ∈ L, m s = m t ↔ c s = c t) → reps m L = reps c L := by
  induction L using snoc_ind with
  | h0 => intro _; rfl
  | h1 L s ih =>
    intro h
    have e := ih fun s hs t ht => h s (List.mem_append_left _ hs) t (List.mem_append_left _ ht)
    have hs : s ∈ L ++ [s] := by simp
    rw [reps_snoc, reps_snoc, ← e]
    unfold repP
    have q : (m s ∈ (reps m L).map m) ↔ (c s ∈ (reps m L).map c) := by
      rw [List.mem_map, List.mem_map]
      constructor
      · rintro ⟨p, hp, e⟩
        exact ⟨p, hp, (h p (List.mem_append_left _ (reps_mem m L hp)) s hs).mp e⟩
      · rintro ⟨p, hp, e⟩
        exact ⟨p, hp, (h p (List.mem_append_left _ (reps_mem m L hp)) s hs).mpr e⟩
    by_cases z : m s ∈ (reps m L).map m
    · rw [if_pos z, if_pos (q.mp z)]
    · rw [if_neg z, if_neg fun y => z (q.mpr y)]
/-- the number of a state's class -/
def num (m : Nat → α) (L : List Nat) (s : Nat) : Nat := (dd (L.map m)).idxOf (m s)
theorem idx_map (m : Nat → α) (a : α) : ∀ P : List Nat, (P.map m).idxOf a = P.findIdx fun p => decide (m p = a)
  | [] => rfl
  | p :: P => by
    rw [List.map_cons, List.idxOf_cons, List.findIdx_cons, idx_map m a P]
    by_cases h : m p = a
    · simp [h]
    · have h' : (m p == a) = false := by simpa using h
      simp [h, h']
theorem findIdx_congr {p q : Nat → Bool} : ∀ {P : List Nat}, (∀ x ∈ P, p x = q x) → P.findIdx p = P.findIdx q
  | [], _ => rfl
  | x :: P, h => by
    rw [List.findIdx_cons, List.findIdx_cons, h x List.mem_cons_self, findIdx_congr fun y hy => h y (List.mem_cons_of_mem _ hy)]
theorem num_congr {m : Nat → α} {c : Nat → β} {L : List Nat} (h : ∀ s ∈ L, ∀ t ∈ L, m s = m t ↔ c s = c t) {s : Nat} (hs : s ∈ L) : num m L s = num c L s := by
  unfold num
  rw [← reps_map, ← reps_map, idx_map, idx_map, reps_congr L h]
  refine findIdx_congr fun p hp => ?_
  rw [decide_eq_decide]
  exact h p (reps_mem c L hp) s hs
theorem num_lt {m : Nat → α} {L : List Nat} {s : Nat} (hs : s ∈ L) : num m L s < (dd (L.map m)).length :=
  List.idxOf_lt_length_iff.mpr (mem_dd.mpr (List.mem_map_of_mem hs))
theorem num_get {m : Nat → α} {L : List Nat} {s : Nat} (hs : s ∈ L) : (dd (L.map m))[num m L s]? = some (m s) := by
  rw [List.getElem?_eq_getElem (num_lt hs)]
  exact congrArg some (List.getElem_idxOf (num_lt hs))
theorem num_inj {m : Nat → α} {L : List Nat} {s t : Nat} (hs : s ∈ L) (ht : t ∈ L) : num m L s = num m L t ↔ m s = m t := by
  constructor
  · intro e
    have a := num_get (m := m) hs
    have b := num_get (m := m) ht
    rw [e, b] at a
    exact (Option.some.inj a).symm
  · intro e; unfold num; rw [e]
theorem num_canon (m : Nat → α) (L : List Nat) {s : Nat} (hs : s ∈ L) : num (num m L) L s = num m L s :=
  num_congr (fun s hs t ht => num_inj hs ht) hs
/-- a state met while the list is gone through: it is the first of its class just where its number is that of the classes met -/
theorem num_at {m : Nat → α} {pre post : List Nat} {s : Nat} : num m (pre ++ s :: post) s = (if m s ∈ dd (pre.map m) then (dd (pre.map m)).idxOf (m s) else (dd (pre.map m)).length) := by
  unfold num
  rw [List.map_append, List.map_cons, dd, ext_app, ext_cons]
  obtain ⟨r, e⟩ := ext_pre (post.map m) (push (ext [] (pre.map m)) (m s))
  rw [e]
  by_cases h : m s ∈ ext [] (pre.map m)
  · rw [push_in h, if_pos h, List.idxOf_append, if_pos h]
  · rw [push_out h, if_neg h, List.idxOf_append, if_pos (by simp), List.idxOf_append, if_neg h]
    simp
theorem num_pre {m : Nat → α} {pre post : List Nat} {s : Nat} (h : s ∈ pre) : num m (pre ++ post) s = num m pre s := by
  unfold num
  rw [List.map_append, dd, ext_app]
  obtain ⟨r, e⟩ := ext_pre (post.map m) (ext [] (pre.map m))
  rw [e, List.idxOf_append, if_pos (mem_dd.mpr (List.mem_map_of_mem h))]
/-- how many classes -/
def cnt (m : Nat → α) (L : List Nat) : Nat := (dd (L.map m)).length
theorem cnt_le (m : Nat → α) (L : List Nat) : cnt m L ≤ L.length := by
  have h := dd_len (L.map m) []
  rw [List.length_map, List.length_nil, Nat.zero_add] at h
  exact h
theorem cnt_reps (m : Nat → α) (L : List Nat) : cnt m L = (reps m L).length := by unfold cnt; rw [← reps_map, List.length_map]
theorem cnt_num (m : Nat → α) (L : List Nat) : cnt (num m L) L = cnt m L := by
  rw [cnt_reps, cnt_reps, reps_congr L fun s hs t ht => num_inj hs ht]
/-- a finer marking has as many classes at the least, and just as many only if it is the same -/
theorem cnt_mono {m : Nat → α} {g : Nat → β} {L : List Nat} (h : ∀ s ∈ L, ∀ t ∈ L, m s = m t → g s = g t) : cnt g L ≤ cnt m L ∧ (cnt m L ≤ cnt g L → ∀ s ∈ L, ∀ t ∈ L, g s = g t → m s = m t) := by
  have sub : ∀ x ∈ dd (L.map g), x ∈ (reps m L).map g := by
    intro x hx
    obtain ⟨s, hs, e⟩ := List.mem_map.mp (mem_dd.mp hx)
    obtain ⟨p, hp, ep⟩ := reps_has m hs
    exact List.mem_map.mpr ⟨p, hp, by rw [h p (reps_mem m L hp) s hs ep, e]⟩
  have le := len_sub (nodup_dd _) sub
  rw [List.length_map] at le
  refine ⟨by rw [cnt_reps m]; exact le, fun q s hs t ht e => ?_⟩
  have nd := nodup_of_sub (nodup_dd _) sub (by rw [List.length_map, ← cnt_reps]; exact q)
  obtain ⟨p, hp, ep⟩ := reps_has m hs
  obtain ⟨r, hr, er⟩ := reps_has m ht
  have eg : g p = g r := by rw [h p (reps_mem m L hp) s hs ep, h r (reps_mem m L hr) t ht er, e]
  obtain ⟨i, hi, ei⟩ := List.getElem_of_mem hp
  obtain ⟨j, hj, ej⟩ := List.getElem_of_mem hr
  have hij : i = j := by
    refine (List.getElem_inj (i := i) (j := j) (h₀ := by rw [List.length_map]; exact hi) (h₁ := by rw [List.length_map]; exact hj) nd).mp ?_
    rw [List.getElem_map, List.getElem_map, ei, ej]; exact eg
  subst hij
  rw [ei] at ej
  rw [← ep, ← er, ej]
end
end Lm
set_option maxHeartbeats 1000000
namespace Lm
/-! ### stable relations -/
section
variable (row : Nat → List Nat) (tk : Nat → Nat)
/-- related states take alike and lead to related states, letter by letter -/
def Stable (E : Nat → Nat → Prop) : Prop := ∀ s t, E s t → tk s = tk t ∧ (row s).length = (row t).length ∧ ∀ (i a b : Nat), (row s)[i]? = some a → (row t)[i]? = some b → E a b
def Closed (L : List Nat) : Prop := ∀ s ∈ L, ∀ a ∈ row s, a ∈ L
/-- a marking on the way: it tells takes apart, and tells apart nothing that is alike -/
structure Fine (L : List Nat) (g : Nat → Nat) : Prop where
  ta : ∀ s ∈ L, ∀ t ∈ L, g s = g t → tk s = tk t
  al : ∀ E, Stable row tk E → ∀ s ∈ L, ∀ t ∈ L, E s t → g s = g t
end
section
variable {row : Nat → List Nat} {tk : Nat → Nat} {L : List Nat} {g : Nat → Nat} {α : Type} [DecidableEq α] {m : Nat → α}
theorem map_eq_of_related {E : Nat → Nat → Prop} (hc : Closed row L) (h : ∀ s ∈ L, ∀ t ∈ L, E s t → g s = g t) {s t : Nat} (hs : s ∈ L) (ht : t ∈ L) (hl : (row s).length = (row t).length)
    (q : ∀ (i a b : Nat), (row s)[i]? = some a → (row t)[i]? = some b → E a b) : (row s).map g = (row t).map g := by
  apply List.ext_getElem?
  intro i
  rw [List.getElem?_map, List.getElem?_map]
  by_cases hi : i < (row s).length
  · have hi' : i < (row t).length := by omega
    rw [List.getElem?_eq_getElem hi, List.getElem?_eq_getElem hi']
    simp only [Option.map_some]
    congr 1
    exact h _ (hc s hs _ (List.getElem_mem hi)) _ (hc t ht _ (List.getElem_mem hi')) (q i _ _ (List.getElem?_eq_getElem hi) (List.getElem?_eq_getElem hi'))
  · rw [List.getElem?_eq_none (by omega), List.getElem?_eq_none (by omega)]
/-- the marking by takes -/
theorem fine_takes {tk' : Nat → α} (h : ∀ s ∈ L, ∀ t ∈ L, tk' s = tk' t ↔ tk s = tk t) : Fine row tk L (num tk' L) where
  ta := fun s hs t ht e => (h s hs t ht).mp ((num_inj hs ht).mp e)
  al := fun E hE s hs t ht e => (num_inj hs ht).mpr ((h s hs t ht).mpr (hE s t e).1)
/-- what a marking by a state's class and those that its letters lead to tells -/
def Sig (row : Nat → List Nat) (g : Nat → Nat) (L : List Nat) (m : Nat → α) : Prop := ∀ s ∈ L, ∀ t ∈ L, m s = m t ↔ g s = g t ∧ (row s).map g = (row t).map g
theorem fine_step (hc : Closed row L) (F : Fine row tk L g) (hm : Sig row g L m) : Fine row tk L (num m L) where
  ta := fun s hs t ht e => F.ta s hs t ht ((hm s hs t ht).mp ((num_inj hs ht).mp e)).1
  al := fun E hE s hs t ht e => (num_inj hs ht).mpr ((hm s hs t ht).mpr ⟨F.al E hE s hs t ht e, map_eq_of_related hc (F.al E hE) hs ht (hE s t e).2.1 (hE s t e).2.2⟩)
/-- no more classes came: letters lead states of one class to one class -/
theorem done_of_cnt (hm : Sig row g L m) (h : cnt m L ≤ cnt g L) : ∀ s ∈ L, ∀ t ∈ L, g s = g t → m s = m t :=
  (cnt_mono fun s hs t ht e => ((hm s hs t ht).mp e).1).2 h
theorem cnt_step (hm : Sig row g L m) : cnt g L ≤ cnt m L := (cnt_mono fun s hs t ht e => ((hm s hs t ht).mp e).1).1
/-- a marking that's done -/
structure Done (row : Nat → List Nat) (tk : Nat → Nat) (L : List Nat) (g : Nat → Nat) : Prop extends Fine row tk L g where
  go : ∀ s ∈ L, ∀ t ∈ L, g s = g t → (row s).map g = (row t).map g
theorem Done.stable (D : Done row tk L g) (hc : Closed row L) : Stable row tk fun s t => s ∈ L ∧ t ∈ L ∧ g s = g t := by
  rintro s t ⟨hs, ht, e⟩
  have em := D.go s hs t ht e
  refine ⟨D.ta s hs t ht e, by have := congrArg List.length em; simpa using this, fun i a b ha hb => ⟨hc s hs a (List.mem_of_getElem? ha), hc t ht b (List.mem_of_getElem? hb), ?_⟩⟩
  have q := congrArg (fun l => l[i]?) em
  simp only [List.getElem?_map, ha, hb, Option.map_some] at q
  exact Option.some.inj q
/-- two markings that are done tell the same apart -/
theorem done_eq {L' : List Nat} {c : Nat → Nat} (D : Done row tk L g) (C : Done row tk L' c) (hc : Closed row L) (hc' : Closed row L') (sub : ∀ s ∈ L, s ∈ L') :
    ∀ s ∈ L, ∀ t ∈ L, g s = g t ↔ c s = c t := by
  intro s hs t ht
  constructor
  · intro e; exact C.al _ (D.stable hc) s (sub s hs) t (sub t ht) ⟨hs, ht, e⟩
  · intro e; exact D.al _ (C.stable hc') s hs t ht ⟨sub s hs, sub t ht, e⟩
/-- the loop's ends: the split is as it was -/
theorem done_of_same (F : Fine row tk L g) (hm : Sig row g L m) (h : ∀ s ∈ L, num m L s = g s) : Done row tk L g where
  toFine := F
  go := fun s hs t ht e => ((hm s hs t ht).mp ((num_inj hs ht).mp (by rw [h s hs, h t ht, e]))).2
theorem more_of_other (hm : Sig row g L m) (canon : ∀ s ∈ L, num g L s = g s) (h : ¬ ∀ s ∈ L, num m L s = g s) : cnt g L < cnt (num m L) L := by
  rw [cnt_num]
  have h1 := cnt_step hm
  rcases Nat.lt_or_ge (cnt g L) (cnt m L) with q | q
  · exact q
  · refine absurd (fun s hs => ?_) h
    have z := done_of_cnt hm q
    rw [num_congr (fun s hs t ht => ⟨fun e => ((hm s hs t ht).mp e).1, z s hs t ht⟩) hs]
    exact canon s hs
end

/-! ### states in the order of first words -/
inductive Reach (row : Nat → List Nat) : Nat → List Nat → Prop where
  | start : Reach row 0 [0]
  | step {d l q} : Reach row d l → l[d]? = some q → Reach row (d + 1) (ext l (row q))
structure ReachOk (row : Nat → List Nat) (N d : Nat) (l : List Nat) : Prop where
  nd : l.Nodup
  le : d ≤ l.length
  lt : ∀ s ∈ l, s < N
  zero : l[0]? = some 0
  cl : ∀ q ∈ l.take d, ∀ x ∈ row q, x ∈ l
theorem Reach.ok {row : Nat → List Nat} {N d : Nat} {l : List Nat} (h0 : 0 < N) (hr : ∀ s, s < N → ∀ a ∈ row s, a < N) (h : Reach row d l) : ReachOk row N d l := by
  induction h with
  | start => exact ⟨by simp, by simp, by simpa using h0, rfl, by simp⟩
  | @step d l q _ hq ih =>
    have hd : d < l.length := (List.getElem?_eq_some_iff.mp hq).1
    have hqm : q ∈ l := List.mem_of_getElem? hq
    obtain ⟨m, em⟩ := ext_pre (row q) l
    refine ⟨nodup_ext ih.nd, ?_, fun s hs => ?_, ?_, fun p hp x hx => ?_⟩
    · rw [em, List.length_append]; omega
    · rcases mem_ext.mp hs with hs | hs
      · exact ih.lt s hs
      · exact hr q (ih.lt q hqm) s hs
    · rw [em, List.getElem?_append_left (by omega)]; exact ih.zero
    · rw [em, List.take_append_of_le_length (by omega)] at hp
      rw [mem_ext]
      rw [List.take_succ, hq] at hp
      rcases List.mem_append.mp hp with hp | hp
      · exact .inl (ih.cl p hp x hx)
      · simp at hp; subst hp; exact .inr hx
theorem ReachOk.few {row : Nat → List Nat} {N d : Nat} {l : List Nat} (h : ReachOk row N d l) : l.length ≤ N := by
  have q := len_sub h.nd (B := List.range N) fun x hx => List.mem_range.mpr (h.lt x hx)
  simpa using q
theorem ReachOk.closed {row : Nat → List Nat} {N : Nat} {l : List Nat} (h : ReachOk row N l.length l) : Closed row l := fun s hs a ha => h.cl s (by rw [List.take_length]; exact hs) a ha
/-- classes in turn -/
def turn (succ : Nat → List Nat) : Nat → List Nat → List Nat → List Nat
  | 0, done, _ => done
  | f + 1, done, todo => match todo with
    | [] => done
    | q :: r => turn succ f (done ++ [q]) (r ++ ((succ q).eraseDups).filter fun (x : Nat) => !(done ++ todo).contains x)
theorem turn_nil (succ : Nat → List Nat) : ∀ (f : Nat) (done : List Nat), turn succ f done [] = done
  | 0, _ => rfl
  | _ + 1, _ => rfl
theorem turn_cons (succ : Nat → List Nat) (f : Nat) (done : List Nat) (q : Nat) (r : List Nat) : ∃ new, turn succ (f + 1) done (q :: r) = turn succ f (done ++ [q]) (r ++ new) ∧ done ++ [q] ++ (r ++ new) = ext (done ++ q :: r) (succ q) := by
  refine ⟨_, rfl, ?_⟩
  rw [ext_eq, eraseDups_eq]
  have e : (fun x : Nat => !(done ++ q :: r).contains x) = fun x => decide (x ∉ done ++ q :: r) := by
    funext x
    by_cases h : x ∈ done ++ q :: r
    · simp [h]
    · simp [h]
  rw [e]
  simp
theorem reach_turn {row succ : Nat → List Nat} {c : Nat → Nat} {N : Nat} (h0 : 0 < N) (hr : ∀ s, s < N → ∀ a ∈ row s, a < N) (hs : ∀ s, s < N → succ (c s) = (row s).map c) {d : Nat} {l : List Nat} (h : Reach row d l) :
    ∃ todo, dd (l.map c) = dd ((l.take d).map c) ++ todo ∧ ∀ F, turn succ (F + (dd ((l.take d).map c)).length) [] [c 0] = turn succ F (dd ((l.take d).map c)) todo := by
  induction h with
  | start => exact ⟨[c 0], rfl, fun F => rfl⟩
  | @step d l q h hq ih =>
    obtain ⟨todo, e, ht⟩ := ih
    have ok := h.ok h0 hr
    have hd : d < l.length := (List.getElem?_eq_some_iff.mp hq).1
    have hqm : q ∈ l := List.mem_of_getElem? hq
    have hqN := ok.lt q hqm
    have et : (ext l (row q)).take (d + 1) = l.take d ++ [q] := by
      obtain ⟨m, em⟩ := ext_pre (row q) l
      rw [em, List.take_append_of_le_length (by omega), List.take_succ, hq]; rfl
    have ed : dd ((ext l (row q)).map c) = ext (dd (l.map c)) (succ (c q)) := by rw [dd_map_ext, hs q hqN]
    have ek : dd ((l.take d ++ [q]).map c) = push (dd ((l.take d).map c)) (c q) := by rw [List.map_append, List.map_singleton, dd, ext_snoc]
    rw [et, ed, ek]
    by_cases z : c q ∈ dd ((l.take d).map c)
    · rw [push_in z]
      refine ⟨todo, ?_, ht⟩
      rw [ext_sub ?_]
      · exact e
      · intro x hx
        obtain ⟨p, hp, ep⟩ := List.mem_map.mp (mem_dd.mp z)
        have hpN := ok.lt p (List.mem_of_mem_take hp)
        rw [← ep, hs p hpN] at hx
        obtain ⟨y, hy, ey⟩ := List.mem_map.mp hx
        rw [← ey]
        exact mem_dd.mpr (List.mem_map_of_mem (ok.cl p hp y hy))
    · rw [push_out z]
      have es : l = l.take d ++ q :: l.drop (d + 1) := by
        have a := List.take_append_drop d l
        rw [List.drop_eq_getElem_cons hd, (List.getElem?_eq_some_iff.mp hq).2] at a
        exact a.symm
      have er : ∃ r, todo = c q :: r := by
        have a : dd (l.map c) = ext (dd ((l.take d).map c) ++ [c q]) ((l.drop (d + 1)).map c) := by
          conv => lhs; rw [es]
          rw [List.map_append, List.map_cons, dd, ext_app, ext_cons, push_out z]
        obtain ⟨r, hr'⟩ := ext_pre ((l.drop (d + 1)).map c) (dd ((l.take d).map c) ++ [c q])
        rw [e, hr', List.append_assoc] at a
        exact ⟨r, List.append_cancel_left a⟩
      obtain ⟨r, rfl⟩ := er
      have F1 := fun F => turn_cons succ F (dd ((l.take d).map c)) (c q) r
      obtain ⟨new, _, e2⟩ := F1 0
      refine ⟨r ++ new, by rw [e2, e], fun F => ?_⟩
      have a := ht (F + 1)
      rw [List.length_append, List.length_singleton, show F + ((dd ((l.take d).map c)).length + 1) = F + 1 + (dd ((l.take d).map c)).length by omega, a]
      obtain ⟨new', e1', e2'⟩ := F1 F
      rw [e1']
      have : new' = new := by
        rw [← e2, List.append_assoc, List.append_assoc] at e2'
        exact List.append_cancel_left (List.append_cancel_left (List.append_cancel_left e2'))
      rw [this]
theorem reach_all {row succ : Nat → List Nat} {c : Nat → Nat} {N : Nat} (h0 : 0 < N) (hr : ∀ s, s < N → ∀ a ∈ row s, a < N) (hs : ∀ s, s < N → succ (c s) = (row s).map c) {l : List Nat} (h : Reach row l.length l) {f : Nat} (hf : N ≤ f) :
    turn succ f [] [c 0] = dd (l.map c) := by
  obtain ⟨todo, e, ht⟩ := reach_turn h0 hr hs h
  rw [List.take_length] at e ht
  have z : todo = [] := by
    have := congrArg List.length e
    rw [List.length_append] at this
    exact List.length_eq_zero_iff.mp (by omega)
  subst z
  have l1 := dd_len (l.map c) []
  have l2 := (h.ok h0 hr).few
  rw [List.length_map, List.length_nil] at l1
  have a := ht (f - (dd (l.map c)).length)
  have l3 : (dd (l.map c)).length ≤ l.length := by have : (dd (l.map c)).length ≤ 0 + l.length := l1; omega
  rw [turn_nil, Nat.sub_add_cancel (by omega)] at a
  exact a

/-! ### the specification's kinds -/
def cf (c : List Nat) (i : Nat) : Nat := c.getD i 0
def rowOf (rows : List (List Nat)) (i : Nat) : List Nat := rows.getD i []
theorem inTurn_eq (rows : List (List Nat)) (c : List Nat) : ∀ (f : Nat) (done todo : List Nat), Sw38.inTurn rows c f done todo = turn (fun q => (rowOf rows ((List.range rows.length).findIdx fun (i : Nat) => c.getD i 0 == q)).map (cf c)) f done todo
  | 0, _, _ => rfl
  | f + 1, done, [] => rfl
  | f + 1, done, q :: r => by
    unfold Sw38.inTurn turn
    exact inTurn_eq rows c f _ _
theorem getD_map_range {N i : Nat} (f : Nat → Nat) (h : i < N) : ((List.range N).map f).getD i 0 = f i := by
  rw [List.getD_eq_getElem?_getD, List.getElem?_map, List.getElem?_range h]; rfl
theorem range_map_cf {c : List Nat} : (List.range c.length).map (cf c) = c := by
  apply List.ext_getElem?
  intro i
  rw [List.getElem?_map]
  by_cases h : i < c.length
  · rw [List.getElem?_range h, List.getElem?_eq_getElem h]
    simp [cf, List.getD_eq_getElem?_getD, List.getElem?_eq_getElem h]
  · rw [List.getElem?_eq_none (by simpa using h), List.getElem?_eq_none (by simpa using h)]; rfl
def sg (rows : List (List Nat)) (c : List Nat) (i : Nat) : List Nat := cf c i :: (rowOf rows i).map (cf c)
theorem beq_one {α : Type} [DecidableEq α] (b : BEq α) [LawfulBEq α] : b = instBEqOfDecidableEq := by
  have h : b.beq = fun x y => decide (x = y) := by
    funext x y
    by_cases h : x = y
    · subst h
      rw [decide_eq_true rfl]; exact beq_self_eq_true x
    · rw [decide_eq_false h, Bool.eq_false_iff]
      intro q
      exact h (beq_iff_eq.mp q)
  cases b
  unfold instBEqOfDecidableEq
  congr
theorem kinds_eq {α : Type} [DecidableEq α] {b : BEq α} [LawfulBEq α] (S : List α) : S.map (fun x => (S.eraseDups).idxOf x) = S.map (fun x => @List.idxOf α instBEqOfDecidableEq x (dd S)) ∧ S.eraseDups = dd S := by
  have := beq_one b
  subst this
  rw [eraseDups_eq]
  exact ⟨rfl, rfl⟩
theorem refined_succ (rows : List (List Nat)) (f : Nat) (c : List Nat) : Sw38.refined rows (f + 1) c =
    (if cnt (sg rows c) (List.range rows.length) = (c.eraseDups).length then (List.range rows.length).map (num (sg rows c) (List.range rows.length)) else Sw38.refined rows f ((List.range rows.length).map (num (sg rows c) (List.range rows.length)))) := by
  have k : ((List.range rows.length).map (sg rows c)).map (fun x => (((List.range rows.length).map (sg rows c)).eraseDups).idxOf x) = (List.range rows.length).map (num (sg rows c) (List.range rows.length)) := by
    rw [(kinds_eq _).1, List.map_map]; rfl
  rw [← k]
  unfold cnt
  rw [← (kinds_eq _).2]
  rfl
theorem sig_sg (rows : List (List Nat)) (c : List Nat) (L : List Nat) : Sig (rowOf rows) (cf c) L (sg rows c) := by
  intro s _ t _
  unfold sg
  rw [List.cons.injEq]
theorem refined_done {rows : List (List Nat)} {tk : Nat → Nat} (hc : Closed (rowOf rows) (List.range rows.length)) : ∀ (f : Nat) (c : List Nat), c.length = rows.length → Fine (rowOf rows) tk (List.range rows.length) (cf c) → rows.length < f + cnt (cf c) (List.range rows.length) →
    (Sw38.refined rows f c).length = rows.length ∧ Done (rowOf rows) tk (List.range rows.length) (cf (Sw38.refined rows f c))
  | 0, c, _, _, h => by
    have := cnt_le (cf c) (List.range rows.length)
    rw [List.length_range] at this
    omega
  | f + 1, c, hl, F, h => by
    rw [refined_succ]
    have S := sig_sg rows c (List.range rows.length)
    have ec : (c.eraseDups).length = cnt (cf c) (List.range rows.length) := by unfold cnt; rw [← hl, range_map_cf, eraseDups_eq]
    have en : ∀ s ∈ List.range rows.length, cf ((List.range rows.length).map (num (sg rows c) (List.range rows.length))) s = num (sg rows c) (List.range rows.length) s := fun s hs => getD_map_range _ (List.mem_range.mp hs)
    have F' := fine_step (m := sg rows c) hc F S
    have F2 : Fine (rowOf rows) tk (List.range rows.length) (cf ((List.range rows.length).map (num (sg rows c) (List.range rows.length)))) := by
      refine ⟨fun s hs t ht e => ?_, fun E hE s hs t ht e => ?_⟩
      · rw [en s hs, en t ht] at e; exact F'.ta s hs t ht e
      · rw [en s hs, en t ht]; exact F'.al E hE s hs t ht e
    have hl2 : ((List.range rows.length).map (num (sg rows c) (List.range rows.length))).length = rows.length := by rw [List.length_map, List.length_range]
    by_cases q : cnt (sg rows c) (List.range rows.length) = (c.eraseDups).length
    · rw [if_pos q]
      refine ⟨hl2, F2, fun s hs t ht e => ?_⟩
      rw [en s hs, en t ht] at e
      have e1 := (num_inj hs ht).mp e
      have e2 := ((S s hs t ht).mp e1).2
      have st := done_of_cnt S (by rw [q, ec]; exact Nat.le_refl _)
      apply List.ext_getElem?
      intro i
      rw [List.getElem?_map, List.getElem?_map]
      have q := congrArg (fun l => l[i]?) e2
      simp only [List.getElem?_map] at q
      cases ha : (rowOf rows s)[i]? with
      | none =>
        cases hb : (rowOf rows t)[i]? with
        | none => rfl
        | some b => rw [ha, hb] at q; cases q
      | some a =>
        cases hb : (rowOf rows t)[i]? with
        | none => rw [ha, hb] at q; cases q
        | some b =>
          rw [ha, hb] at q
          simp only [Option.map_some, Option.some.injEq] at q ⊢
          have ma := hc s hs a (List.mem_of_getElem? ha)
          have mb := hc t ht b (List.mem_of_getElem? hb)
          rw [en a ma, en b mb]
          exact (num_inj ma mb).mpr (st a ma b mb q)
    · rw [if_neg q]
      refine refined_done hc f _ hl2 F2 ?_
      have c1 := cnt_step S
      have c2 : cnt (cf ((List.range rows.length).map (num (sg rows c) (List.range rows.length)))) (List.range rows.length) = cnt (sg rows c) (List.range rows.length) := by
        unfold cnt
        rw [List.map_congr_left en]
        exact cnt_num _ _
      rw [c2]
      omega
/-! ### the answer -/
/-- what the program tells: the first states of the classes, their letters, their takes -/
def told (row : Nat → List Nat) (tk g : Nat → Nat) (l : List Nat) : List Nat := (reps g l).length :: ((reps g l).flatMap (fun p => (row p).map g) ++ (reps g l).map tk)
theorem findIdx_range {N : Nat} {p : Nat → Bool} {i : Nat} (hi : i < N) (h : p i = true) : (List.range N).findIdx p < N ∧ p ((List.range N).findIdx p) = true := by
  have hlt : (List.range N).findIdx p < (List.range N).length := List.findIdx_lt_length_of_exists ⟨i, List.mem_range.mpr hi, h⟩
  have z := List.findIdx_getElem (w := hlt)
  rw [List.getElem_range] at z
  rw [List.length_range] at hlt
  exact ⟨hlt, z⟩
theorem toNat_inj {a b : Bool} (h : a.toNat = b.toNat) : a = b := by cases a <;> cases b <;> first | rfl | cases h
theorem leastOf_eq {m : Sw38.Machine} {g : Nat → Nat} {l : List Nat} (h0 : 0 < m.rows.length) (hN : m.rows.length ≤ 190) (ht : m.takes.length = m.rows.length) (hr : ∀ s, s < m.rows.length → ∀ a ∈ rowOf m.rows s, a < m.rows.length)
    (hl : Reach (rowOf m.rows) l.length l) (D : Done (rowOf m.rows) (fun i => (m.takes.getD i false).toNat) l g) (canon : ∀ s ∈ l, num g l s = g s) :
    Sw38.leastOf m = ⟨(reps g l).map fun p => (rowOf m.rows p).map g, (reps g l).map fun p => m.takes.getD p false⟩ := by
  have ok := hl.ok h0 hr
  have clo := ok.closed
  have cR : Closed (rowOf m.rows) (List.range m.rows.length) := fun s hs a ha => List.mem_range.mpr (hr s (List.mem_range.mp hs) a ha)
  have e0 : ∀ s, cf (m.takes.map fun (b : Bool) => b.toNat) s = (m.takes.getD s false).toNat := by
    intro s
    unfold cf
    rw [List.getD_eq_getElem?_getD, List.getD_eq_getElem?_getD, List.getElem?_map]
    cases m.takes[s]? <;> rfl
  have F0 : Fine (rowOf m.rows) (fun i => (m.takes.getD i false).toNat) (List.range m.rows.length) (cf (m.takes.map fun (b : Bool) => b.toNat)) := by
    refine ⟨fun s _ t _ e => ?_, fun E hE s _ t _ e => ?_⟩
    · rw [e0, e0] at e; exact e
    · rw [e0, e0]; exact (hE s t e).1
  obtain ⟨hcl, C⟩ := refined_done (tk := fun i => (m.takes.getD i false).toNat) cR 200 (m.takes.map fun (b : Bool) => b.toNat) (by rw [List.length_map, ht]) F0 (by omega)
  generalize hc : Sw38.refined m.rows 200 (m.takes.map fun (b : Bool) => b.toNat) = c at hcl C
  have one : ∀ s, s < m.rows.length → ((List.range m.rows.length).findIdx fun (i : Nat) => c.getD i 0 == cf c s) < m.rows.length ∧ cf c ((List.range m.rows.length).findIdx fun (i : Nat) => c.getD i 0 == cf c s) = cf c s := by
    intro s hs
    have z := findIdx_range (p := fun (i : Nat) => c.getD i 0 == cf c s) hs (by show (c.getD s 0 == cf c s) = true; unfold cf; simp)
    exact ⟨z.1, by have := z.2; simpa [cf] using this⟩
  have hsucc : ∀ s, s < m.rows.length → (fun q => (rowOf m.rows ((List.range m.rows.length).findIdx fun (i : Nat) => c.getD i 0 == q)).map (cf c)) (cf c s) = (rowOf m.rows s).map (cf c) := by
    intro s hs
    have z := one s hs
    exact C.go _ (List.mem_range.mpr z.1) s (List.mem_range.mpr hs) z.2
  have ho : Sw38.inTurn m.rows c 200 [] [c.getD 0 0] = dd (l.map (cf c)) := by
    rw [inTurn_eq]
    exact reach_all (c := cf c) (succ := fun q => (rowOf m.rows ((List.range m.rows.length).findIdx fun (i : Nat) => c.getD i 0 == q)).map (cf c)) h0 hr hsucc hl (by omega)
  have par := done_eq D C clo cR fun s hs => List.mem_range.mpr (ok.lt s hs)
  have er := reps_congr l par
  have eo : dd (l.map (cf c)) = (reps g l).map (cf c) := by rw [er, reps_map]
  have eg : ∀ s ∈ l, (dd (l.map (cf c))).idxOf (cf c s) = g s := by
    intro s hs
    have : num g l s = num (cf c) l s := num_congr par hs
    rw [canon s hs] at this
    exact this.symm
  have el : Sw38.leastOf m = ⟨(dd (l.map (cf c))).map fun (q : Nat) => (m.rows.getD ((List.range m.rows.length).findIdx fun (i : Nat) => c.getD i 0 == q) []).map fun (j : Nat) => (dd (l.map (cf c))).idxOf (c.getD j 0),
      (dd (l.map (cf c))).map fun (q : Nat) => m.takes.getD ((List.range m.rows.length).findIdx fun (i : Nat) => c.getD i 0 == q) false⟩ := by
    unfold Sw38.leastOf
    dsimp only
    rw [hc, ho]
  have rows_eq : ((dd (l.map (cf c))).map fun (q : Nat) => (m.rows.getD ((List.range m.rows.length).findIdx fun (i : Nat) => c.getD i 0 == q) []).map fun (j : Nat) => (dd (l.map (cf c))).idxOf (c.getD j 0)) = (reps g l).map fun p => (rowOf m.rows p).map g := by
    conv => lhs; arg 2; rw [eo]
    rw [List.map_map]
    refine List.map_congr_left fun p hp => ?_
    have hpl := reps_mem g l hp
    have z := hsucc p (ok.lt p hpl)
    have z' := congrArg (List.map fun q => (dd (l.map (cf c))).idxOf q) z
    simp only [List.map_map] at z'
    refine Eq.trans ?_ (Eq.trans z' ?_)
    · rfl
    · refine List.map_congr_left fun a ha => ?_
      exact eg a (clo p hpl a ha)
  have takes_eq : ((dd (l.map (cf c))).map fun (q : Nat) => m.takes.getD ((List.range m.rows.length).findIdx fun (i : Nat) => c.getD i 0 == q) false) = (reps g l).map fun i => m.takes.getD i false := by
    conv => lhs; arg 2; rw [eo]
    rw [List.map_map]
    refine List.map_congr_left fun p hp => ?_
    have hpl := reps_mem g l hp
    have z := one p (ok.lt p hpl)
    have q := C.ta _ (List.mem_range.mpr z.1) p (List.mem_range.mpr (ok.lt p hpl)) z.2
    exact toNat_inj q
  rw [el, takes_eq, rows_eq]
theorem leastOf_told {m : Sw38.Machine} {g : Nat → Nat} {l : List Nat} (h0 : 0 < m.rows.length) (hN : m.rows.length ≤ 190) (ht : m.takes.length = m.rows.length) (hr : ∀ s, s < m.rows.length → ∀ a ∈ rowOf m.rows s, a < m.rows.length)
    (hl : Reach (rowOf m.rows) l.length l) (D : Done (rowOf m.rows) (fun i => (m.takes.getD i false).toNat) l g) (canon : ∀ s ∈ l, num g l s = g s) :
    ((Sw38.leastOf m).size : Nat) :: ((Sw38.leastOf m).rows.flatten ++ (Sw38.leastOf m).takes.map Bool.toNat) = told (rowOf m.rows) (fun i => (m.takes.getD i false).toNat) g l := by
  rw [leastOf_eq h0 hN ht hr hl D canon]
  unfold told Sw38.Machine.size
  dsimp only
  rw [List.length_map, List.flatMap_def, List.map_map]
  rfl
end Lm
set_option maxHeartbeats 1000000
namespace Lm
def rowA (k : Nat) (R : List Nat) (s : Nat) : List Nat := (R.drop (k * s)).take k
def natsOf (l : List Int) : List Nat := l.map Int.toNat
theorem asked_facts {k n : Int} {ns ts : List Int} (h : PySw38.least_asked k n ns ts = true) (hr : (1 ≤ k ∧ k ≤ 16) ∧ (1 ≤ n ∧ n ≤ 64)) :
    (ns.length : Int) = k * n ∧ (ts.length : Int) = n ∧ (∀ x ∈ ns, 0 ≤ x) ∧ (∀ x ∈ ts, 0 ≤ x) := by
  unfold PySw38.least_asked Sw38Neutral.asked at h
  rw [Bool.and_eq_true, List.all_cons, Bool.and_eq_true] at h
  have h1 := h.1.1
  unfold Sw38Neutral.asked1 at h1
  simp only [Bool.and_eq_true, decide_eq_true_eq, List.all_eq_true, if_pos hr] at h1
  obtain ⟨_, _, ⟨ha, hb⟩, hc, hd⟩ := h1
  refine ⟨hb, hd, fun x hx => ?_, fun x hx => ?_⟩
  · have := ha x hx
    unfold Sw38Neutral.natural at this
    simp only [Bool.and_eq_true, decide_eq_true_eq] at this
    exact this.1
  · have := hc x hx
    unfold Sw38Neutral.natural at this
    simp only [Bool.and_eq_true, decide_eq_true_eq] at this
    exact this.1
theorem within_iff {z : Int} {a b : Nat} : Sw38.within z a b = true ↔ (a : Int) ≤ z ∧ z ≤ (b : Int) := by
  unfold Sw38.within
  simp only [Bool.and_eq_true, decide_eq_true_eq]
def ansL (y : Sw38.Ans) : List Int := y.code :: (Sw38Neutral.ints y.rows ++ (Sw38Neutral.ints y.takes ++ Sw38Neutral.ints y.out))
theorem least_f (k n : Int) (ns ts : List Int) : PySw38.least k n ns ts = ansL (if (Sw38.within k 1 16 && Sw38.within n 1 64) = false then Sw38.says (-2) else match Sw38.machineOf k.toNat n.toNat (natsOf ns) (natsOf ts) with
    | some m => Sw38.shows (Sw38.leastOf m)
    | none => Sw38.says (-3)) := rfl
theorem least_out {k n : Int} {ns ts : List Int} (hr : ¬ ((1 ≤ k ∧ k ≤ 16) ∧ (1 ≤ n ∧ n ≤ 64))) : PySw38.least k n ns ts = [-2] := by
  have e : (Sw38.within k 1 16 && Sw38.within n 1 64) = false := by
    rw [Bool.eq_false_iff]
    intro q
    rw [Bool.and_eq_true, within_iff, within_iff] at q
    exact hr ⟨⟨by omega, by omega⟩, by omega, by omega⟩
  rw [least_f, if_pos e]
  rfl
def okS (n x : Int) : Bool := decide (0 ≤ x) && decide (x < n)
def okT (t : Int) : Bool := decide (t = 0) || decide (t = 1)
def okM (n : Int) (ns ts : List Int) : Bool := ns.all (okS n) && ts.all okT
theorem machine_ok {k n : Nat} {ns ts : List Int} (h1 : ns.length = k * n) (h2 : ts.length = n) (p1 : ∀ x ∈ ns, 0 ≤ x) (p2 : ∀ x ∈ ts, 0 ≤ x) :
    ((((natsOf ns).take (n * k)).all fun q => decide (q < n)) && (((natsOf ts).take n).all fun t => decide (t ≤ 1))) = okM n ns ts := by
  have l1 : (natsOf ns).length = n * k := by unfold natsOf; rw [List.length_map, h1, Nat.mul_comm]
  have l2 : (natsOf ts).length = n := by unfold natsOf; rw [List.length_map, h2]
  rw [← l1, List.take_length]
  conv => lhs; arg 2; rw [← l2]
  rw [List.take_length]
  unfold okM
  congr 1
  · unfold natsOf
    rw [List.all_map]
    rw [Bool.eq_iff_iff, List.all_eq_true, List.all_eq_true]
    constructor
    · intro h x hx
      have a := h x hx
      have b := p1 x hx
      simp only [Function.comp, decide_eq_true_eq] at a
      unfold okS
      simp only [Bool.and_eq_true, decide_eq_true_eq]
      omega
    · intro h x hx
      have a := h x hx
      unfold okS at a
      simp only [Bool.and_eq_true, decide_eq_true_eq] at a
      simp only [Function.comp, decide_eq_true_eq]
      omega
  · unfold natsOf
    rw [List.all_map, Bool.eq_iff_iff, List.all_eq_true, List.all_eq_true]
    constructor
    · intro h x hx
      have a := h x hx
      have b := p2 x hx
      simp only [Function.comp, decide_eq_true_eq] at a
      unfold okT
      simp only [Bool.or_eq_true, decide_eq_true_eq]
      omega
    · intro h x hx
      have a := h x hx
      unfold okT at a
      simp only [Bool.or_eq_true, decide_eq_true_eq] at a
      simp only [Function.comp, decide_eq_true_eq]
      omega
theorem in_range {k n : Int} (hr : (1 ≤ k ∧ k ≤ 16) ∧ (1 ≤ n ∧ n ≤ 64)) : ¬ (Sw38.within k 1 16 && Sw38.within n 1 64) = false := by
  intro q
  have : (Sw38.within k 1 16 && Sw38.within n 1 64) = true := by
    rw [Bool.and_eq_true, within_iff, within_iff]
    exact ⟨⟨by omega, by omega⟩, by omega, by omega⟩
  rw [this] at q
  cases q
theorem nat_len {k n : Int} {ns : List Int} (hr : (1 ≤ k ∧ k ≤ 16) ∧ (1 ≤ n ∧ n ≤ 64)) (h : (ns.length : Int) = k * n) : ns.length = k.toNat * n.toNat := by
  have e : k * n = ((k.toNat * n.toNat : Nat) : Int) := by
    rw [Int.natCast_mul, Int.toNat_of_nonneg (by omega), Int.toNat_of_nonneg (by omega)]
  rw [e] at h
  exact Int.ofNat.inj h
theorem least_bad {k n : Int} {ns ts : List Int} (hr : (1 ≤ k ∧ k ≤ 16) ∧ (1 ≤ n ∧ n ≤ 64)) (ha : PySw38.least_asked k n ns ts = true) (hm : okM n ns ts = false) : PySw38.least k n ns ts = [-3] := by
  obtain ⟨h1, h2, p1, p2⟩ := asked_facts ha hr
  have e1 := nat_len hr h1
  have e2 : ts.length = n.toNat := by omega
  have en : ((n.toNat : Nat) : Int) = n := Int.toNat_of_nonneg (by omega)
  have e := machine_ok e1 e2 p1 p2
  rw [en, hm] at e
  rw [least_f, if_neg (in_range hr)]
  unfold Sw38.machineOf
  rw [if_neg (by rw [e]; exact Bool.false_ne_true)]
  rfl
theorem rowOf_machine {k n : Nat} {R : List Nat} (h : R.length = k * n) : rowOf ((List.range n).map fun i => (R.drop (i * k)).take k) = rowA k R := by
  funext s
  unfold rowOf rowA
  rw [List.getD_eq_getElem?_getD, List.getElem?_map, Nat.mul_comm k s]
  by_cases hs : s < n
  · rw [List.getElem?_range hs]; rfl
  · rw [List.getElem?_eq_none (by simpa using hs)]
    have : R.length ≤ s * k := by rw [h, Nat.mul_comm]; exact Nat.mul_le_mul_right k (by omega)
    rw [List.drop_eq_nil_of_le this]; simp
theorem takes_machine {n : Nat} {T : List Nat} (h : T.length = n) (h1 : ∀ t ∈ T, t ≤ 1) : (fun i => ((((T.take n).map fun t => t == 1)).getD i false).toNat) = fun i => T.getD i 0 := by
  funext i
  rw [← h, List.take_length, List.getD_eq_getElem?_getD, List.getD_eq_getElem?_getD, List.getElem?_map]
  cases e : T[i]? with
  | none => rfl
  | some t =>
    have := h1 t (List.mem_of_getElem? e)
    show (t == 1).toNat = t
    rcases (show t = 0 ∨ t = 1 by omega) with rfl | rfl <;> rfl
/-- **What is due, by the program's own way.** -/
theorem least_due {k n : Int} {ns ts : List Int} (hr : (1 ≤ k ∧ k ≤ 16) ∧ (1 ≤ n ∧ n ≤ 64)) (ha : PySw38.least_asked k n ns ts = true) (hm : okM n ns ts = true) {l : List Nat} {g : Nat → Nat}
    (hl : Reach (rowA k.toNat (natsOf ns)) l.length l) (D : Done (rowA k.toNat (natsOf ns)) (fun i => (natsOf ts).getD i 0) l g) (canon : ∀ s ∈ l, num g l s = g s) :
    PySw38.least k n ns ts = (told (rowA k.toNat (natsOf ns)) (fun i => (natsOf ts).getD i 0) g l).map fun (x : Nat) => (x : Int) := by
  obtain ⟨h1, h2, p1, p2⟩ := asked_facts ha hr
  have e1 := nat_len hr h1
  have e2 : ts.length = n.toNat := by omega
  have en : ((n.toNat : Nat) : Int) = n := Int.toNat_of_nonneg (by omega)
  have e := machine_ok e1 e2 p1 p2
  rw [en, hm] at e
  have l1 : (natsOf ns).length = k.toNat * n.toNat := by unfold natsOf; rw [List.length_map, e1]
  have l2 : (natsOf ts).length = n.toNat := by unfold natsOf; rw [List.length_map, e2]
  have t1 : ∀ t ∈ natsOf ts, t ≤ 1 := by
    intro t ht
    unfold natsOf at ht
    obtain ⟨x, hx, rfl⟩ := List.mem_map.mp ht
    unfold okM at hm
    rw [Bool.and_eq_true] at hm
    have := List.all_eq_true.mp hm.2 x hx
    unfold okT at this
    simp only [Bool.or_eq_true, decide_eq_true_eq] at this
    omega
  have r1 : ∀ x ∈ natsOf ns, x < n.toNat := by
    intro t ht
    unfold natsOf at ht
    obtain ⟨x, hx, rfl⟩ := List.mem_map.mp ht
    unfold okM at hm
    rw [Bool.and_eq_true] at hm
    have := List.all_eq_true.mp hm.1 x hx
    unfold okS at this
    simp only [Bool.and_eq_true, decide_eq_true_eq] at this
    omega
  have er := rowOf_machine l1
  have et := takes_machine l2 t1
  rw [least_f, if_neg (in_range hr)]
  unfold Sw38.machineOf
  rw [if_pos e]
  have key := leastOf_told (m := ⟨(List.range n.toNat).map fun i => ((natsOf ns).drop (i * k.toNat)).take k.toNat, ((natsOf ts).take n.toNat).map fun t => t == 1⟩) (g := g) (l := l)
    (by simp; omega) (by simp; omega) (by simp; omega)
    (by
      dsimp only
      rw [er]
      intro s _ a hxa
      have : a < n.toNat := r1 a (List.mem_of_mem_drop (List.mem_of_mem_take hxa))
      simpa using this)
    (by dsimp only; rw [er]; exact hl) (by dsimp only; rw [er, et]; exact D) canon
  dsimp only at key
  rw [er, et] at key
  rw [← key]
  unfold ansL Sw38.shows Sw38Neutral.ints
  dsimp only
  rw [List.map_nil, List.append_nil, List.map_cons, List.map_append]
end Lm
set_option maxHeartbeats 1000000
namespace Lm
/-! ### words and what they lead to, breadth first -/
section
variable {α : Type} [DecidableEq α]
def pushL (next : α → Nat → α) (w : List Nat) (a : α) (l : List (List Nat × α)) (c : Nat) : List (List Nat × α) := if next a c ∈ l.map (·.2) then l else l ++ [(w ++ [c], next a c)]
def pushLs (next : α → Nat → α) (w : List Nat) (a : α) (l : List (List Nat × α)) (cs : List Nat) : List (List Nat × α) := cs.foldl (pushL next w a) l
abbrev extW (next : α → Nat → α) (k : Nat) (w : List Nat) (a : α) (l : List (List Nat × α)) : List (List Nat × α) := pushLs next w a l (List.range k)
theorem pushL_in {next : α → Nat → α} {w : List Nat} {a : α} {l : List (List Nat × α)} {c : Nat} (h : next a c ∈ l.map (·.2)) : pushL next w a l c = l := if_pos h
theorem pushL_out {next : α → Nat → α} {w : List Nat} {a : α} {l : List (List Nat × α)} {c : Nat} (h : next a c ∉ l.map (·.2)) : pushL next w a l c = l ++ [(w ++ [c], next a c)] := if_neg h
theorem pushLs_cons (next : α → Nat → α) (w : List Nat) (a : α) (l : List (List Nat × α)) (c : Nat) (cs : List Nat) : pushLs next w a l (c :: cs) = pushLs next w a (pushL next w a l c) cs := rfl
theorem pushLs_snoc (next : α → Nat → α) (w : List Nat) (a : α) (l : List (List Nat × α)) (c : Nat) (cs : List Nat) : pushLs next w a l (cs ++ [c]) = pushL next w a (pushLs next w a l cs) c := by
  unfold pushLs; rw [List.foldl_append]; rfl
theorem pushLs_map (next : α → Nat → α) (w : List Nat) (a : α) : ∀ (cs : List Nat) (l : List (List Nat × α)), (pushLs next w a l cs).map (·.2) = ext (l.map (·.2)) (cs.map (next a))
  | [], l => rfl
  | c :: cs, l => by
    rw [pushLs_cons, pushLs_map next w a cs, List.map_cons, ext_cons]
    congr 1
    by_cases h : next a c ∈ l.map (·.2)
    · rw [pushL_in h, push_in h]
    · rw [pushL_out h, push_out h, List.map_append]; rfl
theorem pushLs_pre (next : α → Nat → α) (w : List Nat) (a : α) : ∀ (cs : List Nat) (l : List (List Nat × α)), ∃ m, pushLs next w a l cs = l ++ m
  | [], l => ⟨[], by simp [pushLs]⟩
  | c :: cs, l => by
    obtain ⟨m, h⟩ := pushLs_pre next w a cs (pushL next w a l c)
    rw [pushLs_cons, h]
    by_cases q : next a c ∈ l.map (·.2)
    · rw [pushL_in q]; exact ⟨m, rfl⟩
    · rw [pushL_out q]; exact ⟨(w ++ [c], next a c) :: m, by simp⟩
theorem pushLs_mem {next : α → Nat → α} {w : List Nat} {a : α} {x : List Nat × α} : ∀ {cs : List Nat} {l : List (List Nat × α)}, x ∈ pushLs next w a l cs → x ∈ l ∨ ∃ c ∈ cs, x = (w ++ [c], next a c)
  | [], l, h => .inl h
  | c :: cs, l, h => by
    rw [pushLs_cons] at h
    rcases pushLs_mem h with h | ⟨c', hc, e⟩
    · by_cases q : next a c ∈ l.map (·.2)
      · rw [pushL_in q] at h; exact .inl h
      · rw [pushL_out q] at h
        rcases List.mem_append.mp h with h | h
        · exact .inl h
        · rw [List.mem_singleton] at h; exact .inr ⟨c, List.mem_cons_self, h⟩
    · exact .inr ⟨c', List.mem_cons_of_mem _ hc, e⟩
inductive ReachW (next : α → Nat → α) (k : Nat) (a0 : α) : Nat → List (List Nat × α) → Prop where
  | start : ReachW next k a0 0 [([], a0)]
  | step {d l w a} : ReachW next k a0 d l → l[d]? = some (w, a) → ReachW next k a0 (d + 1) (extW next k w a l)
structure ReachWOk (next : α → Nat → α) (k : Nat) (a0 : α) (P : α → Prop) (d : Nat) (l : List (List Nat × α)) : Prop where
  nd : (l.map (·.2)).Nodup
  le : d ≤ l.length
  all : ∀ x ∈ l, P x.2
  zero : l[0]? = some ([], a0)
  cl : ∀ x ∈ l.take d, ∀ c, c < k → next x.2 c ∈ l.map (·.2)
  word : ∀ x ∈ l, ∀ c ∈ x.1, c < k
  long : ∀ x ∈ l, x.1.length < l.length
theorem ReachW.ok {next : α → Nat → α} {k : Nat} {a0 : α} {P : α → Prop} (h0 : P a0) (hP : ∀ a c, P a → c < k → P (next a c)) {d : Nat} {l : List (List Nat × α)} (h : ReachW next k a0 d l) : ReachWOk next k a0 P d l := by
  induction h with
  | start => exact ⟨by simp, by simp, by simpa using h0, rfl, by simp, by simp, by simp⟩
  | @step d l w a _ hq ih =>
    have hd : d < l.length := (List.getElem?_eq_some_iff.mp hq).1
    have hqm : (w, a) ∈ l := List.mem_of_getElem? hq
    obtain ⟨m, em⟩ : ∃ m, extW next k w a l = l ++ m := pushLs_pre next w a (List.range k) l
    have emap : (extW next k w a l).map (·.2) = ext (l.map (·.2)) ((List.range k).map (next a)) := pushLs_map next w a (List.range k) l
    refine ⟨?_, ?_, fun x hx => ?_, ?_, fun x hx c hc => ?_, fun x hx c hc => ?_, fun x hx => ?_⟩
    · rw [emap]; exact nodup_ext ih.nd
    · rw [em, List.length_append]; omega
    · rcases pushLs_mem hx with hx | ⟨c, hc, rfl⟩
      · exact ih.all x hx
      · exact hP a c (ih.all _ hqm) (List.mem_range.mp hc)
    · rw [em, List.getElem?_append_left (by omega)]; exact ih.zero
    · rw [em, List.take_append_of_le_length (by omega), List.take_succ, hq] at hx
      rw [emap, mem_ext]
      rcases List.mem_append.mp hx with hx | hx
      · exact .inl (ih.cl x hx c hc)
      · simp at hx; subst hx; exact .inr (List.mem_map_of_mem (List.mem_range.mpr hc))
    · rcases pushLs_mem hx with hx | ⟨c', hc', rfl⟩
      · exact ih.word x hx c hc
      · rcases List.mem_append.mp hc with hc | hc
        · exact ih.word _ hqm c hc
        · rw [List.mem_singleton] at hc; rw [hc]; exact List.mem_range.mp hc'
    · by_cases hxl : x ∈ l
      · have := ih.long x hxl
        rw [em, List.length_append]; omega
      · rcases pushLs_mem hx with hx' | ⟨c, hc, rfl⟩
        · exact absurd hx' hxl
        · have h1 := ih.long _ hqm
          have h2 : 0 < m.length := by
            have hx2 := hx
            rw [em] at hx2
            rcases List.mem_append.mp hx2 with z | z
            · exact absurd z hxl
            · exact List.length_pos_of_mem z
          rw [em, List.length_append, List.length_append, List.length_singleton]
          dsimp only at h1
          omega
theorem ReachWOk.few {next : α → Nat → α} {k : Nat} {a0 : α} {P : α → Prop} {d : Nat} {l : List (List Nat × α)} (h : ReachWOk next k a0 P d l) {U : List α} (hU : ∀ a, P a → a ∈ U) : l.length ≤ U.length := by
  have q := len_sub h.nd (B := U) fun x hx => by
    obtain ⟨y, hy, rfl⟩ := List.mem_map.mp hx
    exact hU _ (h.all y hy)
  rwa [List.length_map] at q
/-- what was gone through stays where it is -/
theorem extW_get {next : α → Nat → α} {k : Nat} {w : List Nat} {a : α} {l : List (List Nat × α)} {i : Nat} (h : i < l.length) : (extW next k w a l)[i]? = l[i]? := by
  obtain ⟨m, em⟩ : ∃ m, extW next k w a l = l ++ m := pushLs_pre next w a (List.range k) l
  rw [em, List.getElem?_append_left h]
end
/-! ### apart -/
def next2 (m n : Sw38.Machine) (p : Nat × Nat) (c : Nat) : Nat × Nat := (m.next p.1 c, n.next p.2 c)
/-- two states of a pair take alike -/
def alike2 (m n : Sw38.Machine) (p : Nat × Nat) : Bool := m.takes.getD p.1 false == n.takes.getD p.2 false
theorem apart_fold (m n : Sw38.Machine) (w : List Nat) (a b : Nat) (n0 : Nat) : ∀ (cs : List Nat) (l : List (List Nat × Nat × Nat)), n0 ≤ l.length →
    cs.foldl (fun (x : List (Nat × Nat) × List (Sw38.Word × Nat × Nat)) (c : Nat) => let p := (m.next a c, n.next b c)
        if x.1.contains p then x else (x.1 ++ [p], x.2 ++ [(w ++ [c], p.1, p.2)])) (l.map (·.2), l.drop n0)
      = ((pushLs (next2 m n) w (a, b) l cs).map (·.2), (pushLs (next2 m n) w (a, b) l cs).drop n0)
  | [], l, _ => rfl
  | c :: cs, l, hl => by
    rw [List.foldl_cons, pushLs_cons]
    by_cases h : next2 m n (a, b) c ∈ l.map (·.2)
    · rw [pushL_in h]
      have e : (l.map (·.2)).contains (m.next a c, n.next b c) = true := List.contains_iff_mem.mpr h
      dsimp only
      rw [if_pos e]
      exact apart_fold m n w a b n0 cs l hl
    · rw [pushL_out h]
      have e : ¬ (l.map (·.2)).contains (m.next a c, n.next b c) = true := fun q => h (List.contains_iff_mem.mp q)
      dsimp only
      rw [if_neg e]
      have := apart_fold m n w a b n0 cs (l ++ [(w ++ [c], next2 m n (a, b) c)]) (by rw [List.length_append]; omega)
      rw [List.map_append, List.drop_append_of_le_length hl] at this
      exact this
theorem drop_cons {β : Type} {l : List β} {d : Nat} {x : β} (h : l[d]? = some x) : l.drop d = x :: l.drop (d + 1) := by
  have hd := (List.getElem?_eq_some_iff.mp h).1
  rw [List.drop_eq_getElem_cons hd, (List.getElem?_eq_some_iff.mp h).2]
theorem apart_one {k : Nat} {m n : Sw38.Machine} {d : Nat} {l : List (List Nat × Nat × Nat)} {w : List Nat} {p : Nat × Nat} (h : l[d]? = some (w, p)) (F : Nat) :
    Sw38.apartFrom k m n (F + 1) (l.map (·.2)) (l.drop d) = if alike2 m n p = true then Sw38.apartFrom k m n F ((extW (next2 m n) k w p l).map (·.2)) ((extW (next2 m n) k w p l).drop (d + 1)) else some w := by
  obtain ⟨a, b⟩ := p
  have hd := (List.getElem?_eq_some_iff.mp h).1
  rw [drop_cons h]
  have f := apart_fold m n w a b l.length (List.range k) l (Nat.le_refl _)
  rw [List.drop_length] at f
  have e2 : (extW (next2 m n) k w (a, b) l).drop (d + 1) = l.drop (d + 1) ++ (extW (next2 m n) k w (a, b) l).drop l.length := by
    obtain ⟨x, ex⟩ : ∃ x, extW (next2 m n) k w (a, b) l = l ++ x := pushLs_pre (next2 m n) w (a, b) (List.range k) l
    rw [ex, List.drop_append_of_le_length (by omega), List.drop_append_of_le_length (Nat.le_refl _), List.drop_length, List.nil_append]
  unfold alike2
  by_cases c : (m.takes.getD a false == n.takes.getD b false) = true
  · rw [if_pos c, e2]
    have c' : ¬ (m.takes.getD a false != n.takes.getD b false) = true := by simpa using c
    show (if (m.takes.getD a false != n.takes.getD b false) = true then some w else _) = _
    rw [if_neg c']
    show (let x := (List.range k).foldl _ (l.map (·.2), []); Sw38.apartFrom k m n F x.1 (l.drop (d + 1) ++ x.2)) = _
    rw [f]
  · rw [if_neg c]
    have c' : (m.takes.getD a false != n.takes.getD b false) = true := by simpa using c
    show (if (m.takes.getD a false != n.takes.getD b false) = true then some w else _) = _
    rw [if_pos c']
theorem apart_run {k : Nat} {m n : Sw38.Machine} {a0 : Nat × Nat} {d : Nat} {l : List (List Nat × Nat × Nat)} (h : ReachW (next2 m n) k a0 d l) :
    (∀ i, i < d → ∀ w p, l[i]? = some (w, p) → alike2 m n p = true) → ∀ F, Sw38.apartFrom k m n (F + d) [a0] [([], a0)] = Sw38.apartFrom k m n F (l.map (·.2)) (l.drop d) := by
  induction h with
  | start => intro _ F; rfl
  | @step d l w a h hq ih =>
    intro hp F
    have hd := (List.getElem?_eq_some_iff.mp hq).1
    have al := hp d (Nat.lt_succ_self d) w a (by rw [extW_get hd]; exact hq)
    have := ih (fun i hi w p e => hp i (by omega) w p (by rw [extW_get (by omega)]; exact e)) (F + 1)
    rw [show F + (d + 1) = F + 1 + d by omega, this, apart_one hq, if_pos al]
theorem apart_some {k : Nat} {m n : Sw38.Machine} {a0 : Nat × Nat} {d : Nat} {l : List (List Nat × Nat × Nat)} (h : ReachW (next2 m n) k a0 d l)
    (hp : ∀ i, i < d → ∀ w p, l[i]? = some (w, p) → alike2 m n p = true) {w : List Nat} {p : Nat × Nat} (hq : l[d]? = some (w, p)) (hn : alike2 m n p = false) {F : Nat} (hF : d < F) :
    Sw38.apartFrom k m n F [a0] [([], a0)] = some w := by
  have := apart_run h hp (F - 1 - d + 1)
  rw [show F - 1 - d + 1 + d = F by omega, apart_one hq, if_neg (by rw [hn]; exact Bool.false_ne_true)] at this
  exact this
theorem apart_none {k : Nat} {m n : Sw38.Machine} {a0 : Nat × Nat} {l : List (List Nat × Nat × Nat)} (h : ReachW (next2 m n) k a0 l.length l)
    (hp : ∀ i, i < l.length → ∀ w p, l[i]? = some (w, p) → alike2 m n p = true) {F : Nat} (hF : l.length ≤ F) :
    Sw38.apartFrom k m n F [a0] [([], a0)] = none := by
  have := apart_run h hp (F - l.length)
  rw [show F - l.length + l.length = F by omega, List.drop_length] at this
  rw [this]
  cases F - l.length <;> rfl
/-! ### first words -/
theorem first_fold (m : Sw38.Machine) (w : List Nat) (a : Nat) (pre : List (List Nat × Nat)) : ∀ (cs : List Nat) (new : List (List Nat × Nat)),
    pre ++ cs.foldl (fun (l : List (Sw38.Word × Nat)) (c : Nat) => let q := m.next a c
        if (pre ++ l).any fun (x : Sw38.Word × Nat) => x.2 == q then l else l ++ [(w ++ [c], q)]) new = pushLs m.next w a (pre ++ new) cs
  | [], new => rfl
  | c :: cs, new => by
    rw [List.foldl_cons, pushLs_cons]
    have e : (pre ++ new).any (fun (x : Sw38.Word × Nat) => x.2 == m.next a c) = decide (m.next a c ∈ (pre ++ new).map (·.2)) := by
      rw [Bool.eq_iff_iff, List.any_eq_true, decide_eq_true_eq, List.mem_map]
      constructor
      · rintro ⟨x, hx, e⟩; exact ⟨x, hx, by simpa using e⟩
      · rintro ⟨x, hx, e⟩; exact ⟨x, hx, by simpa using e⟩
    dsimp only
    rw [e]
    by_cases h : m.next a c ∈ (pre ++ new).map (·.2)
    · rw [if_pos (decide_eq_true h), pushL_in h]
      exact first_fold m w a pre cs new
    · rw [if_neg (by rw [decide_eq_false h]; exact Bool.false_ne_true), pushL_out h, List.append_assoc]
      exact first_fold m w a pre cs (new ++ [(w ++ [c], m.next a c)])
theorem first_run {k : Nat} {m : Sw38.Machine} {d : Nat} {l : List (List Nat × Nat)} (h : ReachW m.next k 0 d l) : ∀ F, Sw38.firstWords k m (F + d) [] [([], 0)] = Sw38.firstWords k m F (l.take d) (l.drop d) := by
  induction h with
  | start => intro F; rfl
  | @step d l w a h hq ih =>
    intro F
    have hd := (List.getElem?_eq_some_iff.mp hq).1
    rw [show F + (d + 1) = F + 1 + d by omega, ih (F + 1), drop_cons hq]
    have f := first_fold m w a l (List.range k) []
    rw [List.append_nil] at f
    have el : l.take d ++ (w, a) :: l.drop (d + 1) = l := by rw [← drop_cons hq, List.take_append_drop]
    show (let new := (List.range k).foldl (fun (l' : List (Sw38.Word × Nat)) (c : Nat) => let q := m.next a c
        if (l.take d ++ (w, a) :: l.drop (d + 1) ++ l').any fun (x : Sw38.Word × Nat) => x.2 == q then l' else l' ++ [(w ++ [c], q)]) []
      Sw38.firstWords k m F (l.take d ++ [(w, a)]) (l.drop (d + 1) ++ new)) = _
    rw [el]
    dsimp only at f ⊢
    generalize (List.range k).foldl _ [] = new at f
    have e1 : (extW m.next k w a l).take (d + 1) = l.take d ++ [(w, a)] := by
      show (pushLs m.next w a l (List.range k)).take (d + 1) = _
      rw [← f, List.take_append_of_le_length (by omega), List.take_succ, hq]; rfl
    have e2 : (extW m.next k w a l).drop (d + 1) = l.drop (d + 1) ++ new := by
      show (pushLs m.next w a l (List.range k)).drop (d + 1) = _
      rw [← f, List.drop_append_of_le_length (by omega)]
    rw [e1, e2]
theorem first_all {k : Nat} {m : Sw38.Machine} {l : List (List Nat × Nat)} (h : ReachW m.next k 0 l.length l) {F : Nat} (hF : l.length ≤ F) : Sw38.firstWords k m F [] [([], 0)] = l := by
  have := first_run h (F - l.length)
  rw [show F - l.length + l.length = F by omega, List.drop_length, List.take_length] at this
  rw [this]
  cases F - l.length <;> rfl
/-! ### words in order -/
theorem less_irrefl : ∀ a : List Nat, Sw38.less a a = false
  | [] => rfl
  | x :: s => by unfold Sw38.less; rw [if_pos rfl]; exact less_irrefl s
theorem less_trans : ∀ {a b c : List Nat}, Sw38.less a b = true → Sw38.less b c = true → Sw38.less a c = true
  | [], b, c, h, _ => by unfold Sw38.less at h; cases h
  | x :: a, [], c, h, _ => by unfold Sw38.less at h; cases h
  | x :: a, y :: b, [], _, h => by unfold Sw38.less at h; cases h
  | x :: a, y :: b, z :: c, h1, h2 => by
    unfold Sw38.less at h1 h2 ⊢
    by_cases e1 : x = y
    · subst e1
      rw [if_pos rfl] at h1
      by_cases e2 : x = z
      · subst e2
        rw [if_pos rfl] at h2 ⊢
        exact less_trans h1 h2
      · rw [if_neg e2] at h2 ⊢; exact h2
    · rw [if_neg e1, decide_eq_true_eq] at h1
      by_cases e2 : y = z
      · subst e2
        rw [if_neg e1, decide_eq_true_eq]; exact h1
      · rw [if_neg e2, decide_eq_true_eq] at h2
        rw [if_neg (by omega), decide_eq_true_eq]; omega
theorem less_total : ∀ {a b : List Nat}, a.length = b.length → a ≠ b → Sw38.less a b = true ∨ Sw38.less b a = true
  | [], [], _, h => absurd rfl h
  | [], _ :: _, h, _ => by simp at h
  | _ :: _, [], h, _ => by simp at h
  | x :: a, y :: b, hl, hn => by
    unfold Sw38.less
    by_cases e : x = y
    · subst e
      rw [if_pos rfl, if_pos rfl]
      exact less_total (by simpa using hl) fun q => hn (by rw [q])
    · rw [if_neg e, if_neg (Ne.symm e), decide_eq_true_eq, decide_eq_true_eq]; omega
theorem before_iff {a b : List Nat} : Sw38.before a b = true ↔ a.length < b.length ∨ (a.length = b.length ∧ Sw38.less a b = true) := by
  unfold Sw38.before
  simp only [Bool.or_eq_true, Bool.and_eq_true, decide_eq_true_eq, beq_iff_eq]
theorem before_irrefl (a : List Nat) : ¬ Sw38.before a a = true := by
  rw [before_iff, less_irrefl]
  rintro (h | ⟨_, h⟩)
  · omega
  · cases h
theorem before_trans {a b c : List Nat} (h1 : Sw38.before a b = true) (h2 : Sw38.before b c = true) : Sw38.before a c = true := by
  rw [before_iff] at h1 h2 ⊢
  rcases h1 with h1 | ⟨h1, h1'⟩
  · rcases h2 with h2 | ⟨h2, _⟩ <;> (left; omega)
  · rcases h2 with h2 | ⟨h2, h2'⟩
    · left; omega
    · exact .inr ⟨by omega, less_trans h1' h2'⟩
theorem before_total {a b : List Nat} (h : a ≠ b) : Sw38.before a b = true ∨ Sw38.before b a = true := by
  rw [before_iff, before_iff]
  rcases Nat.lt_trichotomy a.length b.length with q | q | q
  · exact .inl (.inl q)
  · rcases less_total q h with z | z
    · exact .inl (.inr ⟨q, z⟩)
    · exact .inr (.inr ⟨q.symm, z⟩)
  · exact .inr (.inl q)
abbrev InOrder (l : List (List Nat)) : Prop := l.Pairwise fun v w => Sw38.before v w = true
/-- a list in order is told by its words -/
theorem order_unique : ∀ {l j : List (List Nat)}, InOrder l → InOrder j → (∀ w, w ∈ l ↔ w ∈ j) → l = j
  | [], [], _, _, _ => rfl
  | [], y :: j, _, _, h => by have := (h y).mpr List.mem_cons_self; cases this
  | x :: l, [], _, _, h => by have := (h x).mp List.mem_cons_self; cases this
  | x :: l, y :: j, hl, hj, h => by
    obtain ⟨hx, hl'⟩ := List.pairwise_cons.mp hl
    obtain ⟨hy, hj'⟩ := List.pairwise_cons.mp hj
    have e : x = y := by
      rcases List.mem_cons.mp ((h x).mp List.mem_cons_self) with e | q
      · exact e
      · rcases List.mem_cons.mp ((h y).mpr List.mem_cons_self) with e | r
        · exact e.symm
        · exact absurd (before_trans (hy x q) (hx y r)) (before_irrefl y)
    subst e
    rw [order_unique hl' hj' fun w => ?_]
    constructor
    · intro hw
      rcases List.mem_cons.mp ((h w).mp (List.mem_cons_of_mem _ hw)) with e | q
      · subst e; exact absurd (hx w hw) (before_irrefl w)
      · exact q
    · intro hw
      rcases List.mem_cons.mp ((h w).mpr (List.mem_cons_of_mem _ hw)) with e | q
      · subst e; exact absurd (hy w hw) (before_irrefl w)
      · exact q
theorem mem_insertIn {w x : List Nat} : ∀ {l : List (List Nat)}, x ∈ Sw38.insertIn w l ↔ x = w ∨ x ∈ l
  | [] => by unfold Sw38.insertIn; simp
  | v :: l => by
    unfold Sw38.insertIn
    by_cases e : v = w
    · rw [if_pos e]; subst e; simp
    · rw [if_neg e]
      by_cases b : Sw38.before w v = true
      · rw [if_pos b]; simp
      · rw [if_neg b, List.mem_cons, mem_insertIn, List.mem_cons]
        constructor
        · rintro (h | h | h)
          · exact .inr (.inl h)
          · exact .inl h
          · exact .inr (.inr h)
        · rintro (h | h | h)
          · exact .inr (.inl h)
          · exact .inl h
          · exact .inr (.inr h)
theorem order_insertIn {w : List Nat} : ∀ {l : List (List Nat)}, InOrder l → InOrder (Sw38.insertIn w l)
  | [], _ => by unfold Sw38.insertIn; simp
  | v :: l, h => by
    obtain ⟨hv, hl⟩ := List.pairwise_cons.mp h
    unfold Sw38.insertIn
    by_cases e : v = w
    · rw [if_pos e]; exact h
    · rw [if_neg e]
      by_cases b : Sw38.before w v = true
      · rw [if_pos b]
        refine List.pairwise_cons.mpr ⟨fun x hx => ?_, h⟩
        rcases List.mem_cons.mp hx with e | hx
        · rw [e]; exact b
        · exact before_trans b (hv x hx)
      · rw [if_neg b]
        refine List.pairwise_cons.mpr ⟨fun x hx => ?_, order_insertIn hl⟩
        rcases mem_insertIn.mp hx with e' | hx
        · rw [e']
          rcases before_total e with z | z
          · exact z
          · exact absurd z b
        · exact hv x hx
theorem fold_insertIn : ∀ (xs l : List (List Nat)), InOrder l → InOrder (xs.foldl (fun l w => Sw38.insertIn w l) l) ∧ ∀ x, x ∈ xs.foldl (fun l w => Sw38.insertIn w l) l ↔ x ∈ l ∨ x ∈ xs
  | [], l, h => ⟨h, fun x => by simp⟩
  | w :: xs, l, h => by
    obtain ⟨h1, h2⟩ := fold_insertIn xs (Sw38.insertIn w l) (order_insertIn h)
    refine ⟨h1, fun x => ?_⟩
    rw [List.foldl_cons, h2 x, mem_insertIn, List.mem_cons]
    constructor
    · rintro ((h | h) | h)
      · exact .inr (.inl h)
      · exact .inl h
      · exact .inr (.inr h)
    · rintro (h | h | h)
      · exact .inl (.inr h)
      · exact .inl (.inl h)
      · exact .inr h
/-! ### the words that test a machine -/
def headsOf (k : Nat) (fw : List (List Nat × Nat)) : List (List Nat) := fw.flatMap fun x => x.1 :: (List.range k).map fun c => x.1 ++ [c]
def midsOf (k more : Nat) : List (List Nat) := (List.range (more + 1)).flatMap fun n => Sw38.wordsOf k n
def tailsOf (k : Nat) (m : Sw38.Machine) : List (List Nat) := [] :: (List.range m.size).flatMap fun j => (List.range j).filterMap fun i => Sw38.apartFrom k m m 2000 [(i, j)] [([], i, j)]
theorem testOf_order (k : Nat) (m : Sw38.Machine) (more : Nat) : InOrder (Sw38.testOf k m more) := by
  unfold Sw38.testOf
  exact (fold_insertIn _ [] List.Pairwise.nil).1
theorem testOf_mem {k : Nat} {m : Sw38.Machine} {more : Nat} {w : List Nat} : w ∈ Sw38.testOf k m more ↔ ∃ p ∈ headsOf k (Sw38.firstWords k m 100 [] [([], 0)]), ∃ u ∈ midsOf k more, ∃ t ∈ tailsOf k m, w = p ++ (u ++ t) := by
  unfold Sw38.testOf
  rw [(fold_insertIn _ [] List.Pairwise.nil).2 w, (kinds_eq _).2, mem_dd]
  show (w ∈ [] ∨ w ∈ (headsOf k (Sw38.firstWords k m 100 [] [([], 0)])).flatMap fun p => (midsOf k more).flatMap fun u => (tailsOf k m).map fun t => p ++ (u ++ t)) ↔ _
  simp only [List.not_mem_nil, false_or, List.mem_flatMap, List.mem_map]
  constructor
  · rintro ⟨p, hp, u, hu, t, ht, rfl⟩; exact ⟨p, hp, u, hu, t, ht, rfl⟩
  · rintro ⟨p, hp, u, hu, t, ht, rfl⟩; exact ⟨p, hp, u, hu, t, ht, rfl⟩
theorem mem_wordsOf {k : Nat} : ∀ {n : Nat} {w : List Nat}, w ∈ Sw38.wordsOf k n ↔ w.length = n ∧ ∀ c ∈ w, c < k
  | 0, w => by
    unfold Sw38.wordsOf
    rw [List.mem_singleton]
    constructor
    · rintro rfl; simp
    · rintro ⟨h, _⟩; exact List.length_eq_zero_iff.mp h
  | n + 1, w => by
    unfold Sw38.wordsOf
    rw [List.mem_flatMap]
    constructor
    · rintro ⟨v, hv, hw⟩
      obtain ⟨c, hc, rfl⟩ := List.mem_map.mp hw
      obtain ⟨h1, h2⟩ := mem_wordsOf.mp hv
      refine ⟨by rw [List.length_append, h1]; rfl, fun x hx => ?_⟩
      rcases List.mem_append.mp hx with hx | hx
      · exact h2 x hx
      · rw [List.mem_singleton] at hx; rw [hx]; exact List.mem_range.mp hc
    · rintro ⟨h1, h2⟩
      have hne : w ≠ [] := fun e => by rw [e] at h1; cases h1
      refine ⟨w.dropLast, mem_wordsOf.mpr ⟨by rw [List.length_dropLast, h1]; rfl, fun c hc => h2 c (by rw [← List.dropLast_concat_getLast hne]; exact List.mem_append_left _ hc)⟩, List.mem_map.mpr ⟨w.getLast hne, List.mem_range.mpr (h2 _ (List.getLast_mem hne)), List.dropLast_concat_getLast hne⟩⟩
theorem mem_mids {k more : Nat} {w : List Nat} : w ∈ midsOf k more ↔ w.length ≤ more ∧ ∀ c ∈ w, c < k := by
  unfold midsOf
  rw [List.mem_flatMap]
  constructor
  · rintro ⟨n, hn, hw⟩
    obtain ⟨h1, h2⟩ := mem_wordsOf.mp hw
    have := List.mem_range.mp hn
    exact ⟨by omega, h2⟩
  · rintro ⟨h1, h2⟩
    exact ⟨w.length, List.mem_range.mpr (by omega), mem_wordsOf.mpr ⟨rfl, h2⟩⟩
/-- **A list in order of just these words is what is due.** -/
theorem testOf_due {k : Nat} {m : Sw38.Machine} {more : Nat} {fw : List (List Nat × Nat)} {l : List (List Nat)} (hf : Sw38.firstWords k m 100 [] [([], 0)] = fw) (ho : InOrder l)
    (hm : ∀ w, w ∈ l ↔ ∃ p ∈ headsOf k fw, ∃ u ∈ midsOf k more, ∃ t ∈ tailsOf k m, w = p ++ (u ++ t)) : Sw38.testOf k m more = l := by
  subst hf
  exact order_unique (testOf_order k m more) ho fun w => by rw [testOf_mem, hm]
end Lm
set_option maxHeartbeats 1000000
namespace Lm
/-! ### a machine as it is handed in -/
def mach (k n : Nat) (R T : List Nat) : Sw38.Machine := ⟨(List.range n).map fun i => (R.drop (i * k)).take k, (T.take n).map fun t => t == 1⟩
structure IsMach (k n : Nat) (R T : List Nat) : Prop where
  rl : R.length = k * n
  tl : T.length = n
  rlt : ∀ x ∈ R, x < n
  tlt : ∀ t ∈ T, t ≤ 1
theorem mach_size (k n : Nat) (R T : List Nat) : (mach k n R T).rows.length = n := by unfold mach; simp
theorem mach_row {k n : Nat} {R T : List Nat} (h : IsMach k n R T) : rowOf (mach k n R T).rows = rowA k R := rowOf_machine h.rl
theorem mach_take {k n : Nat} {R T : List Nat} (h : IsMach k n R T) (s : Nat) : (mach k n R T).takes.getD s false = (T.getD s 0 == 1) := by
  have := congrFun (takes_machine h.tl h.tlt) s
  apply toNat_inj
  refine Eq.trans this ?_
  show T.getD s 0 = (T.getD s 0 == 1).toNat
  rw [List.getD_eq_getElem?_getD]
  cases e : T[s]? with
  | none => rfl
  | some t =>
    have := h.tlt t (List.mem_of_getElem? e)
    show t = (t == 1).toNat
    rcases (show t = 0 ∨ t = 1 by omega) with rfl | rfl <;> rfl
theorem mach_next {k n : Nat} {R T : List Nat} (h : IsMach k n R T) {s c : Nat} (hc : c < k) : (mach k n R T).next s c = R.getD (k * s + c) 0 := by
  show (rowOf (mach k n R T).rows s).getD c 0 = _
  rw [mach_row h]
  unfold rowA
  rw [List.getD_eq_getElem?_getD, List.getD_eq_getElem?_getD, List.getElem?_take_of_lt hc, List.getElem?_drop]
theorem row_get {k : Nat} {R : List Nat} {s c : Nat} (hc : c < k) : (rowA k R s)[c]? = R[k * s + c]? := by
  unfold rowA
  rw [List.getElem?_take_of_lt hc, List.getElem?_drop]
theorem next_lt {k n : Nat} {R T : List Nat} (h : IsMach k n R T) {s c : Nat} (hs : s < n) (hc : c < k) : (mach k n R T).next s c < n := by
  rw [mach_next h hc]
  have hb : k * s + c < R.length := by
    rw [h.rl]
    have : k * (s + 1) ≤ k * n := Nat.mul_le_mul_left k hs
    rw [Nat.mul_succ] at this
    omega
  rw [List.getD_eq_getElem?_getD, List.getElem?_eq_getElem hb]
  exact h.rlt _ (List.getElem_mem hb)
theorem isMach_of {k n : Int} {ns ts : List Int} (hr : 1 ≤ k ∧ 1 ≤ n) (h1 : (ns.length : Int) = k * n) (h2 : (ts.length : Int) = n) (hm : okM n ns ts = true) : IsMach k.toNat n.toNat (natsOf ns) (natsOf ts) := by
  unfold okM at hm
  rw [Bool.and_eq_true] at hm
  refine ⟨?_, ?_, fun x hx => ?_, fun x hx => ?_⟩
  · unfold natsOf
    rw [List.length_map]
    have e : k * n = ((k.toNat * n.toNat : Nat) : Int) := by rw [Int.natCast_mul, Int.toNat_of_nonneg (by omega), Int.toNat_of_nonneg (by omega)]
    rw [e] at h1
    exact Int.ofNat.inj h1
  · unfold natsOf; rw [List.length_map]; omega
  · unfold natsOf at hx
    obtain ⟨z, hz, rfl⟩ := List.mem_map.mp hx
    have := List.all_eq_true.mp hm.1 z hz
    unfold okS at this
    simp only [Bool.and_eq_true, decide_eq_true_eq] at this
    omega
  · unfold natsOf at hx
    obtain ⟨z, hz, rfl⟩ := List.mem_map.mp hx
    have := List.all_eq_true.mp hm.2 z hz
    unfold okT at this
    simp only [Bool.or_eq_true, decide_eq_true_eq] at this
    omega
/-- the machine, or none -/
theorem machineOf_ok {k n : Int} {ns ts : List Int} (hr : 1 ≤ k ∧ 1 ≤ n) (h1 : (ns.length : Int) = k * n) (h2 : (ts.length : Int) = n) (p1 : ∀ x ∈ ns, 0 ≤ x) (p2 : ∀ x ∈ ts, 0 ≤ x) :
    Sw38.machineOf k.toNat n.toNat (natsOf ns) (natsOf ts) = if okM n ns ts = true then some (mach k.toNat n.toNat (natsOf ns) (natsOf ts)) else none := by
  have e1 : ns.length = k.toNat * n.toNat := by
    have e : k * n = ((k.toNat * n.toNat : Nat) : Int) := by rw [Int.natCast_mul, Int.toNat_of_nonneg (by omega), Int.toNat_of_nonneg (by omega)]
    rw [e] at h1
    exact Int.ofNat.inj h1
  have e2 : ts.length = n.toNat := by omega
  have en : ((n.toNat : Nat) : Int) = n := Int.toNat_of_nonneg (by omega)
  have e := machine_ok e1 e2 p1 p2
  rw [en] at e
  unfold Sw38.machineOf
  rw [e]
  rfl
/-! ### apart, in its cases -/
def inApart (k n m : Int) : Prop := (1 ≤ k ∧ k ≤ 16) ∧ (1 ≤ n ∧ n ≤ 64) ∧ (1 ≤ m ∧ m ≤ 64)
theorem apart_f (k n m : Int) (ns ts us vs : List Int) : PySw38.apart k n m ns ts us vs = ansL (if (Sw38.within k 1 16 && (Sw38.within n 1 64 && Sw38.within m 1 64)) = false then Sw38.says (-2) else match Sw38.machineOf k.toNat n.toNat (natsOf ns) (natsOf ts), Sw38.machineOf k.toNat m.toNat (natsOf us) (natsOf vs) with
    | some p, some q => (match Sw38.apartFrom k.toNat p q 5000 [(0, 0)] [([], 0, 0)] with
      | some w => ⟨(w.length : Nat), [], [], w⟩
      | none => Sw38.says (-1))
    | _, _ => Sw38.says (-3)) := rfl
theorem apart_in {k n m : Int} : (Sw38.within k 1 16 && (Sw38.within n 1 64 && Sw38.within m 1 64)) = true ↔ inApart k n m := by
  unfold inApart
  rw [Bool.and_eq_true, Bool.and_eq_true, within_iff, within_iff, within_iff]
  constructor
  · rintro ⟨h1, h2, h3⟩; exact ⟨⟨by omega, by omega⟩, ⟨by omega, by omega⟩, by omega, by omega⟩
  · rintro ⟨h1, h2, h3⟩; exact ⟨⟨by omega, by omega⟩, ⟨by omega, by omega⟩, by omega, by omega⟩
theorem apart_asked {k n m : Int} {ns ts us vs : List Int} (h : PySw38.apart_asked k n m ns ts us vs = true) (hr : inApart k n m) :
    (ns.length : Int) = k * n ∧ (ts.length : Int) = n ∧ (us.length : Int) = k * m ∧ (vs.length : Int) = m ∧ (∀ x ∈ ns, 0 ≤ x) ∧ (∀ x ∈ ts, 0 ≤ x) ∧ (∀ x ∈ us, 0 ≤ x) ∧ (∀ x ∈ vs, 0 ≤ x) := by
  unfold PySw38.apart_asked Sw38Neutral.asked at h
  rw [Bool.and_eq_true, List.all_cons, Bool.and_eq_true] at h
  have h1 := h.1.1
  unfold inApart at hr
  unfold Sw38Neutral.asked1 at h1
  simp only [Bool.and_eq_true, decide_eq_true_eq, List.all_eq_true, if_pos hr] at h1
  obtain ⟨_, _, _, ⟨a1, b1⟩, ⟨a2, b2⟩, ⟨a3, b3⟩, a4, b4⟩ := h1
  have nn : ∀ {l : List Int} {b : Nat}, (∀ x ∈ l, Sw38Neutral.natural x b = true) → ∀ x ∈ l, 0 ≤ x := fun h x hx => by
    have := h x hx
    unfold Sw38Neutral.natural at this
    simp only [Bool.and_eq_true, decide_eq_true_eq] at this
    exact this.1
  exact ⟨b1, b2, b3, b4, nn a1, nn a2, nn a3, nn a4⟩
theorem apart_out {k n m : Int} {ns ts us vs : List Int} (hr : ¬ inApart k n m) : PySw38.apart k n m ns ts us vs = [-2] := by
  rw [apart_f, if_pos (by rw [Bool.eq_false_iff]; exact fun q => hr (apart_in.mp q))]; rfl
theorem apart_bad {k n m : Int} {ns ts us vs : List Int} (hr : inApart k n m) (ha : PySw38.apart_asked k n m ns ts us vs = true) (hm : (okM n ns ts && okM m us vs) = false) : PySw38.apart k n m ns ts us vs = [-3] := by
  obtain ⟨l1, l2, l3, l4, p1, p2, p3, p4⟩ := apart_asked ha hr
  have hr' := hr
  unfold inApart at hr'
  rw [apart_f, if_neg (by rw [apart_in.mpr hr]; simp), machineOf_ok ⟨hr'.1.1, hr'.2.1.1⟩ l1 l2 p1 p2, machineOf_ok ⟨hr'.1.1, hr'.2.2.1⟩ l3 l4 p3 p4]
  cases h1 : okM n ns ts with
  | false => rfl
  | true =>
    cases h2 : okM m us vs with
    | false => rfl
    | true => rw [h1, h2] at hm; cases hm
theorem apart_due {k n m : Int} {ns ts us vs : List Int} (hr : inApart k n m) (ha : PySw38.apart_asked k n m ns ts us vs = true) (h1 : okM n ns ts = true) (h2 : okM m us vs = true) :
    PySw38.apart k n m ns ts us vs = match Sw38.apartFrom k.toNat (mach k.toNat n.toNat (natsOf ns) (natsOf ts)) (mach k.toNat m.toNat (natsOf us) (natsOf vs)) 5000 [(0, 0)] [([], 0, 0)] with
      | some w => (w.length : Int) :: w.map fun (x : Nat) => (x : Int)
      | none => [-1] := by
  obtain ⟨l1, l2, l3, l4, p1, p2, p3, p4⟩ := apart_asked ha hr
  have hr' := hr
  unfold inApart at hr'
  rw [apart_f, if_neg (by rw [apart_in.mpr hr]; simp), machineOf_ok ⟨hr'.1.1, hr'.2.1.1⟩ l1 l2 p1 p2, machineOf_ok ⟨hr'.1.1, hr'.2.2.1⟩ l3 l4 p3 p4, if_pos h1, if_pos h2]
  dsimp only
  cases Sw38.apartFrom k.toNat (mach k.toNat n.toNat (natsOf ns) (natsOf ts)) (mach k.toNat m.toNat (natsOf us) (natsOf vs)) 5000 [(0, 0)] [([], 0, 0)] with
  | none => rfl
  | some w => rfl
/-! ### test, in its cases -/
def inTest (k n e o : Int) : Prop := (1 ≤ k ∧ k ≤ 4) ∧ ((1 ≤ n ∧ n ≤ 12) ∧ ((0 ≤ e ∧ e ≤ 2) ∧ (0 ≤ o ∧ o ≤ 2097152)))
theorem test_f (k n e o : Int) (ns ts : List Int) : PySw38.test k n e o ns ts = ansL (if (Sw38.within k 1 4 && (Sw38.within n 1 12 && (Sw38.within e 0 2 && Sw38.within o 0 Sw38.ROOM))) = false then Sw38.says (-2) else match Sw38.machineOf k.toNat n.toNat (natsOf ns) (natsOf ts) with
    | some m => if Sw38.leastOf m = m then (let l := Sw38.spelled (Sw38.testOf k.toNat m e.toNat)
      if o < (l.length : Int) then Sw38.says (-1) else ⟨(l.length : Nat), [], [], l⟩) else Sw38.says (-3)
    | none => Sw38.says (-3)) := rfl
theorem test_in {k n e o : Int} : (Sw38.within k 1 4 && (Sw38.within n 1 12 && (Sw38.within e 0 2 && Sw38.within o 0 Sw38.ROOM))) = true ↔ inTest k n e o := by
  unfold inTest Sw38.ROOM
  rw [Bool.and_eq_true, Bool.and_eq_true, Bool.and_eq_true, within_iff, within_iff, within_iff, within_iff]
  constructor
  · rintro ⟨h1, h2, h3, h4⟩; exact ⟨⟨by omega, by omega⟩, ⟨by omega, by omega⟩, ⟨by omega, by omega⟩, by omega, by omega⟩
  · rintro ⟨h1, h2, h3, h4⟩; exact ⟨⟨by omega, by omega⟩, ⟨by omega, by omega⟩, ⟨by omega, by omega⟩, by omega, by omega⟩
theorem test_asked {k n e o : Int} {ns ts : List Int} (h : PySw38.test_asked k n e o ns ts = true) : (inTest k n e o → (ns.length : Int) = k * n ∧ (ts.length : Int) = n ∧ (∀ x ∈ ns, 0 ≤ x) ∧ (∀ x ∈ ts, 0 ≤ x)) ∧ (PySw38.test k n e o ns ts).length ≤ 1000000 := by
  unfold PySw38.test_asked Sw38Neutral.asked at h
  rw [Bool.and_eq_true, List.all_cons, Bool.and_eq_true] at h
  refine ⟨fun hr => ?_, ?_⟩
  · have h1 := h.1.1
    unfold inTest at hr
    unfold Sw38Neutral.asked1 at h1
    simp only [Bool.and_eq_true, decide_eq_true_eq, List.all_eq_true, if_pos hr] at h1
    obtain ⟨_, _, _, _, ⟨a1, b1⟩, a2, b2⟩ := h1
    have nn : ∀ {l : List Int} {b : Nat}, (∀ x ∈ l, Sw38Neutral.natural x b = true) → ∀ x ∈ l, 0 ≤ x := fun h x hx => by
      have := h x hx
      unfold Sw38Neutral.natural at this
      simp only [Bool.and_eq_true, decide_eq_true_eq] at this
      exact this.1
    exact ⟨b1, b2, nn a1, nn a2⟩
  · have h2 := of_decide_eq_true h.2
    unfold Sw38Neutral.numbersOf at h2
    rw [List.map_cons, List.map_nil, List.sum_cons, List.sum_nil, Nat.add_zero] at h2
    exact h2
theorem test_out {k n e o : Int} {ns ts : List Int} (hr : ¬ inTest k n e o) : PySw38.test k n e o ns ts = [-2] := by
  rw [test_f, if_pos (by rw [Bool.eq_false_iff]; exact fun q => hr (test_in.mp q))]; rfl
theorem test_bad {k n e o : Int} {ns ts : List Int} (hr : inTest k n e o) (ha : PySw38.test_asked k n e o ns ts = true) (hm : okM n ns ts = false) : PySw38.test k n e o ns ts = [-3] := by
  obtain ⟨l1, l2, p1, p2⟩ := (test_asked ha).1 hr
  have hr' := hr
  unfold inTest at hr'
  rw [test_f, if_neg (by rw [test_in.mpr hr]; simp), machineOf_ok ⟨hr'.1.1, hr'.2.1.1⟩ l1 l2 p1 p2, if_neg (by rw [hm]; simp)]
  rfl
theorem test_due {k n e o : Int} {ns ts : List Int} (hr : inTest k n e o) (ha : PySw38.test_asked k n e o ns ts = true) (h1 : okM n ns ts = true) :
    PySw38.test k n e o ns ts = if Sw38.leastOf (mach k.toNat n.toNat (natsOf ns) (natsOf ts)) = mach k.toNat n.toNat (natsOf ns) (natsOf ts) then
      (if o < ((Sw38.spelled (Sw38.testOf k.toNat (mach k.toNat n.toNat (natsOf ns) (natsOf ts)) e.toNat)).length : Int) then [-1]
        else ((Sw38.spelled (Sw38.testOf k.toNat (mach k.toNat n.toNat (natsOf ns) (natsOf ts)) e.toNat)).length : Int) :: (Sw38.spelled (Sw38.testOf k.toNat (mach k.toNat n.toNat (natsOf ns) (natsOf ts)) e.toNat)).map fun (x : Nat) => (x : Int)) else [-3] := by
  obtain ⟨l1, l2, p1, p2⟩ := (test_asked ha).1 hr
  have hr' := hr
  unfold inTest at hr'
  rw [test_f, if_neg (by rw [test_in.mpr hr]; simp), machineOf_ok ⟨hr'.1.1, hr'.2.1.1⟩ l1 l2 p1 p2, if_pos h1]
  dsimp only
  by_cases c : Sw38.leastOf (mach k.toNat n.toNat (natsOf ns) (natsOf ts)) = mach k.toNat n.toNat (natsOf ns) (natsOf ts)
  · rw [if_pos c, if_pos c]
    by_cases d : o < ((Sw38.spelled (Sw38.testOf k.toNat (mach k.toNat n.toNat (natsOf ns) (natsOf ts)) e.toNat)).length : Int)
    · rw [if_pos d, if_pos d]; rfl
    · rw [if_neg d, if_neg d]
      unfold ansL Sw38Neutral.ints
      dsimp only
      rw [List.map_nil, List.nil_append, List.nil_append]
  · rw [if_neg c, if_neg c]; rfl
/-! ### is it least -/
theorem flatten_inj {k : Nat} : ∀ {a b : List (List Nat)}, (∀ r ∈ a, r.length = k) → (∀ r ∈ b, r.length = k) → a.length = b.length → a.flatten = b.flatten → a = b
  | [], [], _, _, _, _ => rfl
  | [], _ :: _, _, _, h, _ => by simp at h
  | _ :: _, [], _, _, h, _ => by simp at h
  | x :: a, y :: b, ha, hb, hl, h => by
    rw [List.flatten_cons, List.flatten_cons] at h
    have hx := ha x List.mem_cons_self
    have hy := hb y List.mem_cons_self
    have e1 := congrArg (List.take k) h
    have e2 := congrArg (List.drop k) h
    rw [List.take_append_of_le_length (by omega), List.take_append_of_le_length (by omega), List.take_of_length_le (by omega), List.take_of_length_le (by omega)] at e1
    rw [List.drop_append_of_le_length (by omega), List.drop_append_of_le_length (by omega), List.drop_of_length_le (by omega), List.drop_of_length_le (by omega), List.nil_append, List.nil_append] at e2
    rw [e1, flatten_inj (fun r hr => ha r (List.mem_cons_of_mem _ hr)) (fun r hr => hb r (List.mem_cons_of_mem _ hr)) (by simpa using hl) e2]
theorem toNats_inj : ∀ {a b : List Bool}, a.map Bool.toNat = b.map Bool.toNat → a = b
  | [], [], _ => rfl
  | [], _ :: _, h => by simp at h
  | _ :: _, [], h => by simp at h
  | x :: a, y :: b, h => by
    rw [List.map_cons, List.map_cons] at h
    injection h with h1 h2
    rw [toNat_inj h1, toNats_inj h2]
theorem flatten_rows {k : Nat} : ∀ (n : Nat) {R : List Nat}, R.length = k * n → ((List.range n).map fun i => (R.drop (i * k)).take k).flatten = R
  | 0, R, h => by
    rw [Nat.mul_zero] at h
    rw [List.length_eq_zero_iff.mp h]; rfl
  | n + 1, R, h => by
    rw [List.range_succ_eq_map, List.map_cons, List.map_map, List.flatten_cons]
    have hl : (R.drop k).length = k * n := by rw [List.length_drop, h, Nat.mul_succ]; omega
    have := flatten_rows n hl
    have e : ((List.range n).map ((fun i => (R.drop (i * k)).take k) ∘ Nat.succ)) = (List.range n).map fun i => ((R.drop k).drop (i * k)).take k := by
      refine List.map_congr_left fun i _ => ?_
      show (R.drop ((i + 1) * k)).take k = ((R.drop k).drop (i * k)).take k
      rw [List.drop_drop, Nat.succ_mul, Nat.add_comm]
    rw [e, this, Nat.zero_mul, List.drop_zero, List.take_append_drop]
theorem mach_shows {k n : Nat} {R T : List Nat} (h : IsMach k n R T) : (mach k n R T).rows.flatten = R ∧ (mach k n R T).takes.map Bool.toNat = T := by
  refine ⟨flatten_rows n h.rl, ?_⟩
  unfold mach
  dsimp only
  rw [← h.tl, List.take_length, List.map_map]
  have : ∀ t ∈ T, (Bool.toNat ∘ fun t => t == 1) t = id t := fun t ht => by
    have := h.tlt t ht
    rcases (show t = 0 ∨ t = 1 by omega) with rfl | rfl <;> rfl
  rw [List.map_congr_left this, List.map_id]
/-- the least machine is the machine itself just where what is told of it is what was handed in -/
theorem least_self {k n : Nat} {R T : List Nat} (h : IsMach k n R T) (h1 : 1 ≤ n) (h64 : n ≤ 64) {l : List Nat} {g : Nat → Nat} (hl : Reach (rowA k R) l.length l) (D : Done (rowA k R) (fun i => T.getD i 0) l g) (canon : ∀ s ∈ l, num g l s = g s) :
    Sw38.leastOf (mach k n R T) = mach k n R T ↔ told (rowA k R) (fun i => T.getD i 0) g l = n :: (R ++ T) := by
  have er := mach_row h
  have et : (fun i => ((mach k n R T).takes.getD i false).toNat) = fun i => T.getD i 0 := takes_machine h.tl h.tlt
  have hs := mach_size k n R T
  have hr : ∀ s, s < (mach k n R T).rows.length → ∀ a ∈ rowOf (mach k n R T).rows s, a < (mach k n R T).rows.length := by
    rw [er, hs]
    intro s _ a ha
    exact h.rlt a (List.mem_of_mem_drop (List.mem_of_mem_take ha))
  have htl : (mach k n R T).takes.length = (mach k n R T).rows.length := by
    rw [hs]; unfold mach; dsimp only; rw [List.length_map, List.length_take, h.tl]; omega
  have a1 := leastOf_eq (m := mach k n R T) (l := l) (g := g) (by omega) (by omega) htl hr (by rw [er]; exact hl) (by rw [er, et]; exact D) canon
  have a2 := leastOf_told (m := mach k n R T) (l := l) (g := g) (by omega) (by omega) htl hr (by rw [er]; exact hl) (by rw [er, et]; exact D) canon
  rw [er, et] at a2
  rw [← a2]
  obtain ⟨f1, f2⟩ := mach_shows h
  constructor
  · intro e
    rw [e, f1, f2]
    show (mach k n R T).rows.length :: _ = _
    rw [hs]
  · intro e
    injection e with e1 e2
    have lenR : (Sw38.leastOf (mach k n R T)).rows.flatten.length = R.length := by
      have rl : ∀ r ∈ (Sw38.leastOf (mach k n R T)).rows, r.length = k := by
        intro r hr'
        rw [a1] at hr'
        obtain ⟨p, hp, rfl⟩ := List.mem_map.mp hr'
        have hpl := reps_mem g l hp
        have hpn := (hl.ok (N := n) (by omega) fun s _ a ha => h.rlt a (List.mem_of_mem_drop (List.mem_of_mem_take ha))).lt p hpl
        rw [List.length_map, er]
        unfold rowA
        rw [List.length_take, List.length_drop, h.rl]
        have : k * (p + 1) ≤ k * n := Nat.mul_le_mul_left k hpn
        rw [Nat.mul_succ] at this
        omega
      have fl : ∀ L : List (List Nat), (∀ r ∈ L, r.length = k) → L.flatten.length = k * L.length := by
        intro L
        induction L with
        | nil => intro _; rfl
        | cons x L ih =>
          intro hL
          rw [List.flatten_cons, List.length_append, ih fun r hr => hL r (List.mem_cons_of_mem _ hr), hL x List.mem_cons_self, List.length_cons, Nat.mul_succ]
          omega
      rw [fl _ rl, h.rl]
      show k * (Sw38.leastOf (mach k n R T)).size = k * n
      rw [e1]
    obtain ⟨e3, e4⟩ := List.append_inj e2 lenR
    have rl : ∀ r ∈ (Sw38.leastOf (mach k n R T)).rows, r.length = k := by
      intro r hr'
      rw [a1] at hr'
      obtain ⟨p, hp, rfl⟩ := List.mem_map.mp hr'
      have hpl := reps_mem g l hp
      have hpn := (hl.ok (N := n) (by omega) fun s _ a ha => h.rlt a (List.mem_of_mem_drop (List.mem_of_mem_take ha))).lt p hpl
      rw [List.length_map, er]
      unfold rowA
      rw [List.length_take, List.length_drop, h.rl]
      have : k * (p + 1) ≤ k * n := Nat.mul_le_mul_left k hpn
      rw [Nat.mul_succ] at this
      omega
    have rl2 : ∀ r ∈ (mach k n R T).rows, r.length = k := by
      intro r hr'
      unfold mach at hr'
      obtain ⟨i, hi, rfl⟩ := List.mem_map.mp hr'
      have hin := List.mem_range.mp hi
      rw [List.length_take, List.length_drop, h.rl]
      have : k * (i + 1) ≤ k * n := Nat.mul_le_mul_left k hin
      rw [Nat.mul_succ] at this
      rw [Nat.mul_comm i k]
      omega
    have r1 := flatten_inj rl rl2 (by rw [hs]; exact e1) (by rw [e3, f1])
    have r2 := toNats_inj (a := (Sw38.leastOf (mach k n R T)).takes) (b := (mach k n R T).takes) (by rw [e4, f2])
    generalize Sw38.leastOf (mach k n R T) = M at r1 r2
    cases M
    simp only at r1 r2
    rw [r1, r2]
end Lm
set_option maxHeartbeats 1000000
namespace Lm
/-! ### where each pair came from -/
section
variable {α : Type}
structure Back (l : List (List Nat × α)) (E C : List Nat) : Prop where
  pos : 0 < l.length
  el : E.length = l.length
  cl : C.length = l.length
  zero : ∀ w a, l[0]? = some (w, a) → w = []
  back : ∀ i, 0 < i → i < l.length → ∃ e c w a b, E[i]? = some e ∧ C[i]? = some c ∧ e < i ∧ l[e]? = some (w, a) ∧ l[i]? = some (w ++ [c], b)
theorem Back.start (a : α) : Back [([], a)] [0] [0] := by
  refine ⟨by simp, rfl, rfl, fun w b h => ?_, fun i h1 h2 => ?_⟩
  · simp at h; exact h.1
  · simp at h2; omega
theorem Back.snoc {l : List (List Nat × α)} {E C : List Nat} (h : Back l E C) {d : Nat} {w : List Nat} {a : α} (hd : l[d]? = some (w, a)) (c : Nat) (b : α) : Back (l ++ [(w ++ [c], b)]) (E ++ [d]) (C ++ [c]) := by
  have hdl : d < l.length := (List.getElem?_eq_some_iff.mp hd).1
  have hE := h.el
  have hC := h.cl
  refine ⟨by rw [List.length_append]; have := h.pos; omega, by simp [hE], by simp [hC], fun w' a' e => ?_, fun i h1 h2 => ?_⟩
  · rw [List.getElem?_append_left h.pos] at e
    exact h.zero w' a' e
  · rw [List.length_append, List.length_singleton] at h2
    by_cases hi : i < l.length
    · obtain ⟨e, c', w', a', b', q1, q2, q3, q4, q5⟩ := h.back i h1 hi
      exact ⟨e, c', w', a', b', by rw [List.getElem?_append_left (by omega)]; exact q1, by rw [List.getElem?_append_left (by omega)]; exact q2, q3, by rw [List.getElem?_append_left (by omega)]; exact q4, by rw [List.getElem?_append_left hi]; exact q5⟩
    · have e : i = l.length := by omega
      subst e
      refine ⟨d, c, w, a, b, ?_, ?_, hdl, ?_, ?_⟩
      · rw [← hE, List.getElem?_concat_length]
      · rw [← hC, List.getElem?_concat_length]
      · rw [List.getElem?_append_left hdl]; exact hd
      · rw [List.getElem?_concat_length]
end
/-! ### pairs of states -/
def allPairs (n m : Nat) : List (Nat × Nat) := (List.range n).flatMap fun i => (List.range m).map fun j => (i, j)
theorem mem_allPairs {n m : Nat} {p : Nat × Nat} (h : p.1 < n ∧ p.2 < m) : p ∈ allPairs n m := by
  unfold allPairs
  rw [List.mem_flatMap]
  exact ⟨p.1, List.mem_range.mpr h.1, List.mem_map.mpr ⟨p.2, List.mem_range.mpr h.2, rfl⟩⟩
theorem len_allPairs (n m : Nat) : (allPairs n m).length = n * m := by
  unfold allPairs
  rw [List.length_flatMap]
  have : ((List.range n).map fun i => ((List.range m).map fun j => (i, j)).length) = (List.range n).map fun _ => m := List.map_congr_left fun i _ => by simp
  rw [this]
  clear this
  induction n with
  | zero => simp
  | succ n ih =>
    rw [List.range_succ, List.map_append, List.sum_append, Nat.succ_mul, ih]
    simp
theorem row_at {k n : Nat} {R T : List Nat} (h : IsMach k n R T) {s c : Nat} (hs : s < n) (hc : c < k) : (rowA k R s)[c]? = some ((mach k n R T).next s c) := by
  have hb : k * s + c < R.length := by
    rw [h.rl]
    have : k * (s + 1) ≤ k * n := Nat.mul_le_mul_left k hs
    rw [Nat.mul_succ] at this
    omega
  rw [row_get hc, mach_next h hc, List.getD_eq_getElem?_getD, List.getElem?_eq_getElem hb]
  rfl
theorem row_full {k n : Nat} {R T : List Nat} (h : IsMach k n R T) {s : Nat} (hs : s < n) : (rowA k R s).length = k := by
  unfold rowA
  rw [List.length_take, List.length_drop, h.rl]
  have : k * (s + 1) ≤ k * n := Nat.mul_le_mul_left k hs
  rw [Nat.mul_succ] at this
  omega
theorem take01 {k n : Nat} {R T : List Nat} (h : IsMach k n R T) (s : Nat) : T.getD s 0 = 0 ∨ T.getD s 0 = 1 := by
  rw [List.getD_eq_getElem?_getD]
  cases e : T[s]? with
  | none => exact .inl rfl
  | some t =>
    have := h.tlt t (List.mem_of_getElem? e)
    show t = 0 ∨ t = 1
    omega
theorem alike_iff {k n m : Nat} {R T R2 T2 : List Nat} (h1 : IsMach k n R T) (h2 : IsMach k m R2 T2) (p : Nat × Nat) : alike2 (mach k n R T) (mach k m R2 T2) p = decide (T.getD p.1 0 = T2.getD p.2 0) := by
  unfold alike2
  rw [mach_take h1, mach_take h2]
  rcases take01 h1 p.1 with e1 | e1 <;> rcases take01 h2 p.2 with e2 | e2 <;> rw [e1, e2] <;> rfl
/-- the pairs are few -/
theorem pairs_ok {k n m : Nat} {R T R2 T2 : List Nat} (h1 : IsMach k n R T) (h2 : IsMach k m R2 T2) {a0 : Nat × Nat} (ha : a0.1 < n ∧ a0.2 < m) {d : Nat} {l : List (List Nat × Nat × Nat)}
    (h : ReachW (next2 (mach k n R T) (mach k m R2 T2)) k a0 d l) : ReachWOk (next2 (mach k n R T) (mach k m R2 T2)) k a0 (fun p => p.1 < n ∧ p.2 < m) d l ∧ l.length ≤ n * m := by
  have ok := h.ok (P := fun p => p.1 < n ∧ p.2 < m) ha fun a c hp hc => ⟨next_lt h1 hp.1 hc, next_lt h2 hp.2 hc⟩
  refine ⟨ok, ?_⟩
  rw [← len_allPairs n m]
  exact ok.few fun a hp => mem_allPairs hp
end Lm
set_option maxHeartbeats 1000000
namespace Lm
/-! ### a machine that is told as it was handed in has its states in the order of first words -/
theorem repP_sub {m : Nat → Nat} (L : List Nat) : (reps m L).Sublist L := by
  induction L using snoc_ind with
  | h0 => exact List.Sublist.slnil
  | h1 L s ih =>
    rw [reps_snoc]
    unfold repP
    split
    · exact ih.trans (List.sublist_append_left _ _)
    · exact ih.append (List.Sublist.refl _)
theorem blocks {k : Nat} {F : Nat → List Nat} : ∀ {L : List Nat}, (∀ p ∈ L, (F p).length = k) → (L.flatMap F).length = k * L.length ∧ ∀ (i p : Nat), L[i]? = some p → ((L.flatMap F).drop (k * i)).take k = F p
  | [], _ => ⟨rfl, fun i p e => by simp at e⟩
  | x :: L, h => by
    obtain ⟨h1, h2⟩ := blocks (L := L) fun p hp => h p (List.mem_cons_of_mem _ hp)
    have hx := h x List.mem_cons_self
    refine ⟨by rw [List.flatMap_cons, List.length_append, h1, hx, List.length_cons, Nat.mul_succ]; omega, fun i p e => ?_⟩
    rw [List.flatMap_cons]
    cases i with
    | zero =>
      have e' : x = p := by simpa using e
      subst e'
      rw [Nat.mul_zero, List.drop_zero, ← hx, List.take_left]
    | succ i =>
      have e' : L[i]? = some p := by simpa using e
      have : k * (i + 1) = (F x).length + k * i := by rw [hx, Nat.mul_succ]; omega
      rw [this, ← List.drop_drop, List.drop_left]
      exact h2 i p e'
theorem idx_nodup {l : List Nat} (h : l.Nodup) {i x : Nat} (e : l[i]? = some x) : l.idxOf x = i := by
  obtain ⟨hi, he⟩ := List.getElem?_eq_some_iff.mp e
  rw [← he]
  exact h.idxOf_getElem i hi
theorem told_id {k n : Nat} {R T : List Nat} (h : IsMach k n R T) (h1 : 1 ≤ n) {l : List Nat} {g : Nat → Nat} (hl : Reach (rowA k R) l.length l)
    (canon : ∀ s ∈ l, num g l s = g s) (ht : told (rowA k R) (fun i => T.getD i 0) g l = n :: (R ++ T)) : l = List.range n ∧ ∀ s, s < n → g s = s := by
  have hr : ∀ s, s < n → ∀ a ∈ rowA k R s, a < n := fun s _ a ha => h.rlt a (List.mem_of_mem_drop (List.mem_of_mem_take ha))
  have ok := hl.ok (N := n) (by omega) hr
  have few := ok.few
  unfold told at ht
  injection ht with e1 e2
  have sub := repP_sub (m := g) l
  have le := sub.length_le
  have hrep : reps g l = l := sub.eq_of_length (by omega)
  rw [hrep] at e1 e2
  have hmap : dd (l.map g) = l.map g := by rw [← reps_map, hrep]
  have hnd : (l.map g).Nodup := by rw [← hmap]; exact nodup_dd _
  have gat : ∀ (i x : Nat), l[i]? = some x → g x = i := fun i x e => by
    have hx := List.mem_of_getElem? e
    rw [← canon x hx]
    unfold num
    rw [hmap]
    have e' : (l.map g)[i]? = some (g x) := by rw [List.getElem?_map, e]; rfl
    exact idx_nodup hnd e'
  have hF : ∀ p ∈ l, ((rowA k R p).map g).length = k := fun p hp => by rw [List.length_map]; exact row_full h (ok.lt p hp)
  obtain ⟨b1, b2⟩ := blocks hF
  obtain ⟨eR, _⟩ := List.append_inj e2 (by rw [b1, e1, h.rl])
  rw [eR] at b2
  have rowI : ∀ (i p : Nat), l[i]? = some p → rowA k R i = (rowA k R p).map g := b2
  have fix : ∀ {d : Nat} {l' : List Nat}, Reach (rowA k R) d l' → ∀ x ∈ l', l[x]? = some x := by
    intro d l' hre
    induction hre with
    | start => intro x hx; rw [List.mem_singleton] at hx; subst hx; exact ok.zero
    | @step d l' q _ hq ih =>
      intro x hx
      rcases mem_ext.mp hx with hx | hx
      · exact ih x hx
      · have hqq := ih q (List.mem_of_getElem? hq)
        have hql : q ∈ l := List.mem_of_getElem? hqq
        have e := rowI q q hqq
        obtain ⟨c, hc⟩ := List.mem_iff_getElem?.mp hx
        have e3 : (rowA k R q)[c]? = ((rowA k R q).map g)[c]? := by rw [← e]
        rw [List.getElem?_map, hc] at e3
        have gx : x = g x := Option.some.inj e3
        have hxl : x ∈ l := ok.closed q hql x hx
        obtain ⟨i, hi⟩ := List.mem_iff_getElem?.mp hxl
        have := gat i x hi
        have : i = x := by omega
        rw [← this] at hi ⊢
        rw [hi, this]
  have at_i : ∀ i, i < n → l[i]? = some i := fun i hi => by
    have hil : i < l.length := by omega
    have e := List.getElem?_eq_getElem hil
    have fx := fix hl _ (List.getElem_mem hil)
    generalize l[i] = x at e fx
    have g1 := gat i x e
    have g2 := gat x x fx
    have : i = x := by omega
    rw [e, this]
  refine ⟨?_, fun s hs => gat s s (at_i s hs)⟩
  apply List.ext_getElem?
  intro i
  by_cases hi : i < n
  · rw [at_i i hi, List.getElem?_range hi]
  · rw [List.getElem?_eq_none (by omega), List.getElem?_eq_none (by rw [List.length_range]; omega)]
/-! ### first words of such a machine -/
section
variable {α : Type} [DecidableEq α] {next : α → Nat → α} {k : Nat} {a0 : α}
theorem reachW_det {d : Nat} {l : List (List Nat × α)} (h : ReachW next k a0 d l) : ∀ {l' : List (List Nat × α)}, ReachW next k a0 d l' → l = l' := by
  induction h with
  | start => intro l' h'; cases h'; rfl
  | step h hq ih =>
    intro l' h'
    cases h' with
    | step h2 hq2 =>
      have e := ih h2
      subst e
      rw [hq] at hq2
      cases hq2
      rfl
theorem reachW_pre {d : Nat} {l : List (List Nat × α)} (h : ReachW next k a0 d l) {d' : Nat} {l' : List (List Nat × α)} (h' : ReachW next k a0 d' l') : d ≤ d' → ∃ m, l' = l ++ m := by
  induction h' with
  | start => intro hd; have : d = 0 := by omega
             subst this; exact ⟨[], by rw [reachW_det h .start]; simp⟩
  | @step d2 l2 w a h2 hq ih =>
    intro hd
    by_cases e : d = d2 + 1
    · subst e; exact ⟨[], by rw [reachW_det h (.step h2 hq)]; simp⟩
    · obtain ⟨m, em⟩ := ih (by omega)
      obtain ⟨m2, em2⟩ := pushLs_pre next w a (List.range k) l2
      exact ⟨m ++ m2, by rw [show extW next k w a l2 = l2 ++ m2 from em2, em, List.append_assoc]⟩
end
theorem range_pre {l m : List Nat} {n : Nat} (h : l ++ m = List.range n) : l = List.range l.length := by
  have e := congrArg (List.take l.length) h
  rw [List.take_left, List.take_range] at e
  have hl : l.length ≤ n := by have := congrArg List.length h; rw [List.length_append, List.length_range] at this; omega
  rw [Nat.min_eq_left hl] at e
  exact e
theorem range_row {k n : Nat} {R T : List Nat} (h : IsMach k n R T) {q : Nat} (hq : q < n) : (List.range k).map ((mach k n R T).next q) = rowA k R q := by
  apply List.ext_getElem?
  intro c
  by_cases hc : c < k
  · rw [row_at h hq hc, List.getElem?_map, List.getElem?_range hc]; rfl
  · rw [List.getElem?_eq_none (by rw [List.length_map, List.length_range]; omega), List.getElem?_eq_none (by rw [row_full h hq]; omega)]
theorem reachW_of {k n : Nat} {R T : List Nat} (h : IsMach k n R T) (h1 : 1 ≤ n) {d : Nat} {l : List Nat} (hl : Reach (rowA k R) d l) : ∃ lw, ReachW (mach k n R T).next k 0 d lw ∧ lw.map (·.2) = l := by
  have hr : ∀ s, s < n → ∀ a ∈ rowA k R s, a < n := fun s _ a ha => h.rlt a (List.mem_of_mem_drop (List.mem_of_mem_take ha))
  induction hl with
  | start => exact ⟨_, .start, rfl⟩
  | @step d l q hl hq ih =>
    obtain ⟨lw, h2, e⟩ := ih
    have hqn := (hl.ok (N := n) (by omega) hr).lt q (List.mem_of_getElem? hq)
    rw [← e, List.getElem?_map] at hq
    obtain ⟨⟨w, a⟩, hw, ea⟩ := Option.map_eq_some_iff.mp hq
    have ea' : a = q := ea
    subst ea'
    refine ⟨_, .step h2 hw, ?_⟩
    rw [show (extW (mach k n R T).next k w a lw).map (·.2) = _ from pushLs_map _ w a (List.range k) lw, e, range_row h hqn]
/-- the first words, state by state -/
structure Firsts (k n : Nat) (R T : List Nat) (fw : List (List Nat × Nat)) : Prop where
  mc : IsMach k n R T
  re : ReachW (mach k n R T).next k 0 n fw
  id : fw.map (·.2) = List.range n
theorem Firsts.len {k n : Nat} {R T : List Nat} {fw : List (List Nat × Nat)} (h : Firsts k n R T fw) : fw.length = n := by
  have := congrArg List.length h.id
  rwa [List.length_map, List.length_range] at this
theorem firsts_of {k n : Nat} {R T : List Nat} (h : IsMach k n R T) (h1 : 1 ≤ n) (hl : Reach (rowA k R) n (List.range n)) : ∃ fw, Firsts k n R T fw := by
  obtain ⟨fw, h2, e⟩ := reachW_of h h1 hl
  exact ⟨fw, h, h2, e⟩
section
variable {k n : Nat} {R T : List Nat} {fw : List (List Nat × Nat)}
theorem Firsts.due (h : Firsts k n R T fw) (h100 : n ≤ 100) : Sw38.firstWords k (mach k n R T) 100 [] [([], 0)] = fw := by
  have e := h.len
  exact first_all (l := fw) (by rw [e]; exact h.re) (by omega)
theorem Firsts.pre (h : Firsts k n R T fw) {i : Nat} {l m : List (List Nat × Nat)} {l' : List (List Nat × Nat)} (hi : i ≤ n) (hr : ReachW (mach k n R T).next k 0 i l') (e : l' = l ++ m) : l.map (·.2) = List.range l.length := by
  obtain ⟨m2, e2⟩ := reachW_pre hr h.re hi
  have := h.id
  rw [e2, e, List.map_append, List.map_append, List.append_assoc] at this
  have z := range_pre this
  rwa [List.length_map] at z
theorem Firsts.seg (h : Firsts k n R T fw) {i : Nat} {l : List (List Nat × Nat)} (hi : i ≤ n) (hr : ReachW (mach k n R T).next k 0 i l) : l.map (·.2) = List.range l.length := h.pre hi hr (List.append_nil l).symm
/-- the word that stands at a state's place -/
theorem Firsts.at (h : Firsts k n R T fw) {i : Nat} {l : List (List Nat × Nat)} (hi : i < n) (hr : ReachW (mach k n R T).next k 0 i l) (hl : i < l.length) : ∃ w, l[i]? = some (w, i) := by
  have e : (l.map (·.2))[i]? = (List.range l.length)[i]? := congrArg (fun z => z[i]?) (h.seg (Nat.le_of_lt hi) hr)
  rw [List.getElem?_map, List.getElem?_range hl, List.getElem?_eq_getElem hl] at e
  refine ⟨(l[i]).1, ?_⟩
  rw [List.getElem?_eq_getElem hl]
  have e' : (l[i]).2 = i := Option.some.inj e
  generalize l[i] = x at e'
  obtain ⟨a, b⟩ := x
  simp only at e'
  rw [e']
theorem Firsts.step (h : Firsts k n R T fw) {i c : Nat} {l : List (List Nat × Nat)} {w : List Nat} (hi : i < n) (hr : ReachW (mach k n R T).next k 0 i l) (hw : l[i]? = some (w, i)) (hc : c < k) :
    pushLs (mach k n R T).next w i l (List.range (c + 1)) = if (mach k n R T).next i c = (pushLs (mach k n R T).next w i l (List.range c)).length then
      pushLs (mach k n R T).next w i l (List.range c) ++ [(w ++ [c], (mach k n R T).next i c)] else pushLs (mach k n R T).next w i l (List.range c) := by
  have hs : pushLs (mach k n R T).next w i l (List.range (c + 1)) = pushL (mach k n R T).next w i (pushLs (mach k n R T).next w i l (List.range c)) c := by rw [List.range_succ, pushLs_snoc]
  have hE : ∃ m, extW (mach k n R T).next k w i l = pushLs (mach k n R T).next w i l (List.range (c + 1)) ++ m := by
    have : List.range k = List.range (c + 1) ++ (List.range (k - (c + 1))).map (fun x => c + 1 + x) := by
      rw [← List.range_add]; congr 1; omega
    show ∃ m, pushLs _ w i l (List.range k) = _
    rw [this]
    unfold pushLs
    rw [List.foldl_append]
    exact pushLs_pre _ w i _ _
  obtain ⟨m, em⟩ := hE
  have hre : ReachW (mach k n R T).next k 0 (i + 1) (extW (mach k n R T).next k w i l) := .step hr hw
  have seg1 := h.pre (l := pushLs (mach k n R T).next w i l (List.range (c + 1))) hi hre em
  rw [hs] at seg1 em ⊢
  obtain ⟨m2, em2⟩ : ∃ m2, extW (mach k n R T).next k w i l = pushLs (mach k n R T).next w i l (List.range c) ++ m2 := by
    rw [em]
    by_cases q : (mach k n R T).next i c ∈ (pushLs (mach k n R T).next w i l (List.range c)).map (·.2)
    · rw [pushL_in q]; exact ⟨m, rfl⟩
    · rw [pushL_out q]; exact ⟨_, List.append_assoc _ _ _⟩
  have seg0 := h.pre (l := pushLs (mach k n R T).next w i l (List.range c)) hi hre em2
  generalize pushLs (mach k n R T).next w i l (List.range c) = lc at seg0 seg1
  by_cases q : (mach k n R T).next i c ∈ lc.map (·.2)
  · rw [pushL_in q, if_neg]
    rw [seg0, List.mem_range] at q
    omega
  · rw [pushL_out q] at seg1 ⊢
    rw [if_pos]
    have e : ((lc ++ [(w ++ [c], (mach k n R T).next i c)]).map (·.2))[lc.length]? = (List.range (lc ++ [(w ++ [c], (mach k n R T).next i c)]).length)[lc.length]? := congrArg (fun z => z[lc.length]?) seg1
    rw [List.map_append, List.getElem?_append_right (by rw [List.length_map]; exact Nat.le_refl _), List.length_map, Nat.sub_self, List.getElem?_range (by rw [List.length_append]; simp)] at e
    exact Option.some.inj e
theorem Firsts.long (h : Firsts k n R T fw) (h1 : 1 ≤ n) : ∀ x ∈ fw, x.1.length < n := by
  have ok := h.re.ok (P := fun s => s < n) (by omega) fun a c ha hc => next_lt h.mc ha hc
  intro x hx
  have := ok.long x hx
  rw [h.len] at this
  exact this
end
/-! ### two states: the first word that just one takes -/
theorem swap_fold (m : Sw38.Machine) (w : List Nat) (a b : Nat) : ∀ (cs : List Nat) (x y : List (Nat × Nat) × List (Sw38.Word × Nat × Nat)), y.1 = x.1.map Prod.swap → y.2 = x.2.map (fun z => (z.1, z.2.2, z.2.1)) →
    ((cs.foldl (fun (x : List (Nat × Nat) × List (Sw38.Word × Nat × Nat)) (c : Nat) => let p := (m.next b c, m.next a c)
        if x.1.contains p then x else (x.1 ++ [p], x.2 ++ [(w ++ [c], p.1, p.2)])) y).1 = (cs.foldl (fun (x : List (Nat × Nat) × List (Sw38.Word × Nat × Nat)) (c : Nat) => let p := (m.next a c, m.next b c)
        if x.1.contains p then x else (x.1 ++ [p], x.2 ++ [(w ++ [c], p.1, p.2)])) x).1.map Prod.swap ∧
    (cs.foldl (fun (x : List (Nat × Nat) × List (Sw38.Word × Nat × Nat)) (c : Nat) => let p := (m.next b c, m.next a c)
        if x.1.contains p then x else (x.1 ++ [p], x.2 ++ [(w ++ [c], p.1, p.2)])) y).2 = (cs.foldl (fun (x : List (Nat × Nat) × List (Sw38.Word × Nat × Nat)) (c : Nat) => let p := (m.next a c, m.next b c)
        if x.1.contains p then x else (x.1 ++ [p], x.2 ++ [(w ++ [c], p.1, p.2)])) x).2.map (fun z => (z.1, z.2.2, z.2.1)))
  | [], x, y, h1, h2 => ⟨h1, h2⟩
  | c :: cs, x, y, h1, h2 => by
    rw [List.foldl_cons, List.foldl_cons]
    have e : y.1.contains (m.next b c, m.next a c) = x.1.contains (m.next a c, m.next b c) := by
      rw [Bool.eq_iff_iff, List.contains_iff_mem, List.contains_iff_mem, h1, List.mem_map]
      constructor
      · rintro ⟨⟨u, v⟩, hz, e⟩
        have e' : (v, u) = (m.next b c, m.next a c) := e
        injection e' with e1 e2
        rw [← e1, ← e2]; exact hz
      · intro hz; exact ⟨_, hz, rfl⟩
    dsimp only
    rw [e]
    by_cases q : x.1.contains (m.next a c, m.next b c) = true
    · rw [if_pos q, if_pos q]; exact swap_fold m w a b cs x y h1 h2
    · rw [if_neg q, if_neg q]
      exact swap_fold m w a b cs _ _ (by dsimp only; rw [h1, List.map_append]; rfl) (by dsimp only; rw [h2, List.map_append]; rfl)
theorem apart_swap {k : Nat} {m : Sw38.Machine} : ∀ (F : Nat) (done : List (Nat × Nat)) (todo : List (Sw38.Word × Nat × Nat)), Sw38.apartFrom k m m F (done.map Prod.swap) (todo.map fun z => (z.1, z.2.2, z.2.1)) = Sw38.apartFrom k m m F done todo
  | 0, _, _ => rfl
  | F + 1, done, [] => rfl
  | F + 1, done, (w, a, b) :: r => by
    rw [List.map_cons]
    show (if (m.takes.getD b false != m.takes.getD a false) = true then some w else
      let x := (List.range k).foldl (fun (x : List (Nat × Nat) × List (Sw38.Word × Nat × Nat)) (c : Nat) => let p := (m.next b c, m.next a c)
        if x.1.contains p then x else (x.1 ++ [p], x.2 ++ [(w ++ [c], p.1, p.2)])) (done.map Prod.swap, [])
      Sw38.apartFrom k m m F x.1 (r.map (fun z => (z.1, z.2.2, z.2.1)) ++ x.2)) = (if (m.takes.getD a false != m.takes.getD b false) = true then some w else
      let x := (List.range k).foldl (fun (x : List (Nat × Nat) × List (Sw38.Word × Nat × Nat)) (c : Nat) => let p := (m.next a c, m.next b c)
        if x.1.contains p then x else (x.1 ++ [p], x.2 ++ [(w ++ [c], p.1, p.2)])) (done, [])
      Sw38.apartFrom k m m F x.1 (r ++ x.2))
    have e : (m.takes.getD b false != m.takes.getD a false) = (m.takes.getD a false != m.takes.getD b false) := by cases m.takes.getD a false <;> cases m.takes.getD b false <;> rfl
    rw [e]
    by_cases q : (m.takes.getD a false != m.takes.getD b false) = true
    · rw [if_pos q, if_pos q]
    · rw [if_neg q, if_neg q]
      obtain ⟨f1, f2⟩ := swap_fold m w a b (List.range k) (done, []) (done.map Prod.swap, []) rfl rfl
      dsimp only at f1 f2 ⊢
      rw [f1, f2, ← List.map_append]
      exact apart_swap F _ _
/-- no two states of a least machine are alike -/
theorem not_alike {k n : Nat} {R T : List Nat} (h : IsMach k n R T) (D : Done (rowA k R) (fun i => T.getD i 0) (List.range n) id) {i j : Nat} (hi : i < n) (hj : j < n) (hne : i ≠ j)
    {l : List (List Nat × Nat × Nat)} (hr : ReachW (next2 (mach k n R T) (mach k n R T)) k (i, j) l.length l) (hal : ∀ x, x < l.length → ∀ w p, l[x]? = some (w, p) → alike2 (mach k n R T) (mach k n R T) p = true) : False := by
  obtain ⟨ok, few⟩ := pairs_ok h h (show (i, j).1 < n ∧ (i, j).2 < n from ⟨hi, hj⟩) hr
  have hst : Stable (rowA k R) (fun i => T.getD i 0) fun s t => (s, t) ∈ l.map (·.2) := by
    intro s t hst
    obtain ⟨⟨w, p⟩, hx, e⟩ := List.mem_map.mp hst
    have e' : p = (s, t) := e
    subst e'
    obtain ⟨x, hxe⟩ := List.mem_iff_getElem?.mp hx
    obtain ⟨hs, ht⟩ := ok.all _ hx
    refine ⟨?_, by rw [row_full h hs, row_full h ht], fun c a b ha hb => ?_⟩
    · have := hal x (List.getElem?_eq_some_iff.mp hxe).1 w _ hxe
      rw [alike_iff h h, decide_eq_true_eq] at this
      exact this
    · have hc : c < k := by have := (List.getElem?_eq_some_iff.mp ha).1; rwa [row_full h hs] at this
      have := ok.cl _ (by rw [List.take_length]; exact hx) c hc
      rw [row_at h hs hc] at ha
      rw [row_at h ht hc] at hb
      have e1 : (mach k n R T).next s c = a := Option.some.inj ha
      have e2 : (mach k n R T).next t c = b := Option.some.inj hb
      rw [← e1, ← e2]
      exact this
  have z : (l.map (·.2))[0]? = some (i, j) := by rw [List.getElem?_map, ok.zero]; rfl
  exact hne (D.al _ hst i (List.mem_range.mpr hi) j (List.mem_range.mpr hj) (List.mem_of_getElem? z))
theorem done_id {row : Nat → List Nat} {tk : Nat → Nat} {n : Nat} {g : Nat → Nat} (D : Done row tk (List.range n) g) (hg : ∀ s, s < n → g s = s) : Done row tk (List.range n) id where
  ta := fun s hs t ht e => by have e' : s = t := e; rw [e']
  al := fun E hE s hs t ht e => by
    have := D.al E hE s hs t ht e
    rw [hg s (List.mem_range.mp hs), hg t (List.mem_range.mp ht)] at this
    exact this
  go := fun s hs t ht e => by have e' : s = t := e; rw [e']
/-! ### all words of up to so many letters -/
def wl (k : Nat) : Nat → List (List Nat)
  | 0 => [[]]
  | d + 1 => wl k d ++ (List.range k).map fun c => (wl k d).getD d [] ++ [c]
def wlEnd (k e : Nat) : Nat := if e = 0 then 0 else if e = 1 then 1 else 1 + k
def wlOk (k e : Nat) : Bool := decide (wl k (wlEnd k e) = midsOf k e) && (List.range (wlEnd k e + 1)).all fun d => decide (d < (wl k d).length) && (decide ((wl k d).length ≤ 21) && (((decide (((wl k d).getD d []).length < e)) == decide (d < wlEnd k e)) && (wl k d).all fun w => decide (w.length ≤ 2)))
theorem wl_all : ((List.range 5).all fun k => k == 0 || (List.range 3).all (wlOk k)) = true := by decide +kernel
theorem wl_facts {k e : Nat} (h1 : 1 ≤ k) (h4 : k ≤ 4) (he : e ≤ 2) : wl k (wlEnd k e) = midsOf k e ∧ ∀ d, d ≤ wlEnd k e → d < (wl k d).length ∧ (wl k d).length ≤ 21 ∧ (((wl k d).getD d []).length < e ↔ d < wlEnd k e) ∧ ∀ w ∈ wl k d, w.length ≤ 2 := by
  have a1 := List.all_eq_true.mp wl_all k (List.mem_range.mpr (by omega))
  have k0 : (k == 0) = false := by rw [beq_eq_false_iff_ne]; omega
  rw [k0, Bool.false_or] at a1
  have a2 := List.all_eq_true.mp a1 e (List.mem_range.mpr (by omega))
  unfold wlOk at a2
  rw [Bool.and_eq_true, decide_eq_true_eq] at a2
  refine ⟨a2.1, fun d hd => ?_⟩
  have a3 := List.all_eq_true.mp a2.2 d (List.mem_range.mpr (by omega))
  simp only [Bool.and_eq_true, decide_eq_true_eq, beq_iff_eq, decide_eq_decide, List.all_eq_true] at a3
  exact a3
/-! ### the parts -/
def headW (k : Nat) (fs : List (List Nat)) : List (List Nat) := fs ++ fs.flatMap fun w => (List.range k).map fun c => w ++ [c]
theorem mem_headW {k : Nat} {fw : List (List Nat × Nat)} {w : List Nat} : w ∈ headW k (fw.map (·.1)) ↔ w ∈ headsOf k fw := by
  unfold headW headsOf
  simp only [List.mem_append, List.mem_flatMap, List.mem_map, List.mem_cons]
  constructor
  · rintro (⟨x, hx, rfl⟩ | ⟨v, ⟨x, hx, rfl⟩, c, hc, rfl⟩)
    · exact ⟨x, hx, .inl rfl⟩
    · exact ⟨x, hx, .inr ⟨c, hc, rfl⟩⟩
  · rintro ⟨x, hx, rfl | ⟨c, hc, rfl⟩⟩
    · exact .inl ⟨x, hx, rfl⟩
    · exact .inr ⟨_, ⟨x, hx, rfl⟩, c, hc, rfl⟩
theorem len_flat {α β : Type} {f : α → List β} {b : Nat} : ∀ {l : List α}, (∀ x ∈ l, (f x).length ≤ b) → (l.flatMap f).length ≤ l.length * b
  | [], _ => by simp
  | x :: l, h => by
    rw [List.flatMap_cons, List.length_append, List.length_cons, Nat.succ_mul]
    have h1 := h x List.mem_cons_self
    have h2 := len_flat (l := l) fun y hy => h y (List.mem_cons_of_mem _ hy)
    omega
theorem len_headW {k : Nat} {fs : List (List Nat)} : (headW k fs).length ≤ fs.length * (k + 1) := by
  unfold headW
  rw [List.length_append]
  have := len_flat (l := fs) (f := fun w => (List.range k).map fun c => w ++ [c]) (b := k) fun x _ => by simp
  rw [Nat.mul_succ]; omega
/-- the words that tell two states apart, as they come -/
def tw (k : Nat) (m : Sw38.Machine) (j i : Nat) : List Nat := (Sw38.apartFrom k m m 2000 [(j, i)] [([], j, i)]).getD []
def tailV (k : Nat) (m : Sw38.Machine) (j : Nat) : List (List Nat) := (List.range j).flatMap fun j => (List.range j).map (tw k m j)
theorem tailV_succ (k : Nat) (m : Sw38.Machine) (j : Nat) : tailV k m (j + 1) = tailV k m j ++ (List.range j).map (tw k m j) := by
  unfold tailV; rw [List.range_succ, List.flatMap_append]; simp
def tailW (k : Nat) (m : Sw38.Machine) (n : Nat) : List (List Nat) := ext [[]] (tailV k m n)
theorem len_tailV (k : Nat) (m : Sw38.Machine) : ∀ j, (tailV k m j).length ≤ j * j
  | 0 => by simp [tailV]
  | j + 1 => by
    rw [tailV_succ, List.length_append, List.length_map, List.length_range]
    have := len_tailV k m j
    have e : (j + 1) * (j + 1) = j * j + j + j + 1 := by rw [Nat.add_mul, Nat.mul_add]; omega
    omega
theorem mem_tailW {k : Nat} {m : Sw38.Machine} (hs : ∀ i j, i < j → j < m.size → ∃ w, Sw38.apartFrom k m m 2000 [(j, i)] [([], j, i)] = some w) {w : List Nat} : w ∈ tailW k m m.size ↔ w ∈ tailsOf k m := by
  unfold tailW tailsOf tailV
  rw [mem_ext]
  have sw : ∀ i j, Sw38.apartFrom k m m 2000 [(i, j)] [([], i, j)] = Sw38.apartFrom k m m 2000 [(j, i)] [([], j, i)] := fun i j => apart_swap 2000 [(j, i)] [([], j, i)]
  simp only [List.mem_cons, List.not_mem_nil, or_false, List.mem_flatMap, List.mem_range, List.mem_map, List.mem_filterMap]
  constructor
  · rintro (h | ⟨j, hj, i, hi, e⟩)
    · exact .inl h
    · obtain ⟨v, hv⟩ := hs i j hi hj
      refine .inr ⟨j, hj, i, hi, ?_⟩
      rw [sw, hv, ← e]; unfold tw; rw [hv]; rfl
  · rintro (h | ⟨j, hj, i, hi, e⟩)
    · exact .inl h
    · refine .inr ⟨j, hj, i, hi, ?_⟩
      rw [sw] at e
      unfold tw; rw [e]; rfl
/-! ### all words, as they come, and told -/
def allW (hs us ts : List (List Nat)) : List (List Nat) := hs.flatMap fun p => us.flatMap fun u => ts.map fun t => p ++ u ++ t
theorem len_allW (hs us ts : List (List Nat)) : (allW hs us ts).length ≤ hs.length * (us.length * ts.length) :=
  len_flat fun _ _ => len_flat fun _ _ => by rw [List.length_map]; exact Nat.le_refl _
theorem len_spelled {b : Nat} : ∀ {l : List (List Nat)}, (∀ w ∈ l, w.length ≤ b) → (Sw38.spelled l).length ≤ l.length * (b + 1) := fun h => len_flat fun w hw => by
  rw [List.length_cons]; exact Nat.succ_le_succ (h w hw)
theorem spelled_snoc (l : List (List Nat)) (w : List Nat) : Sw38.spelled (l ++ [w]) = Sw38.spelled l ++ (w.length :: w) := by
  unfold Sw38.spelled; rw [List.flatMap_append]; simp
theorem test_words {k n : Nat} {R T : List Nat} {e : Nat} {fw : List (List Nat × Nat)} {l : List (List Nat)} (h : Firsts k n R T fw) (h100 : n ≤ 100)
    (hs : ∀ i j, i < j → j < n → ∃ w, Sw38.apartFrom k (mach k n R T) (mach k n R T) 2000 [(j, i)] [([], j, i)] = some w) (ho : InOrder l)
    (hm : ∀ w, w ∈ l ↔ w ∈ allW (headW k (fw.map (·.1))) (midsOf k e) (tailW k (mach k n R T) n)) : Sw38.testOf k (mach k n R T) e = l := by
  have sz : (mach k n R T).size = n := mach_size k n R T
  refine testOf_due (h.due h100) ho fun w => ?_
  rw [hm w]
  unfold allW
  have tl : ∀ t, t ∈ tailW k (mach k n R T) n ↔ t ∈ tailsOf k (mach k n R T) := fun t => by
    have := mem_tailW (k := k) (m := mach k n R T) (by rw [sz]; exact hs) (w := t)
    rwa [sz] at this
  simp only [List.mem_flatMap, List.mem_map]
  constructor
  · rintro ⟨p, hp, u, hu, t, ht, rfl⟩; exact ⟨p, mem_headW.mp hp, u, hu, t, (tl t).mp ht, by rw [List.append_assoc]⟩
  · rintro ⟨p, hp, u, hu, t, ht, rfl⟩; exact ⟨p, mem_headW.mpr hp, u, hu, t, (tl t).mpr ht, by rw [List.append_assoc]⟩
end Lm
set_option maxRecDepth 100000
set_option maxHeartbeats 4000000
namespace Lp
open PySem L2 Lm
def top (i : Nat) : Stmt := PySem.Challenge.pw_leastone_s03_test.main.body.getD i (.Pass ⟨0, 0, 0, 0⟩)
abbrev sLeast : Stmt := top 10
abbrev sTest : Stmt := top 11
abbrev sIs : Stmt := top 12
abbrev sIsLeast : Stmt := top 13
abbrev sRow : Stmt := top 14
abbrev sReach : Stmt := top 15
abbrev sAlike : Stmt := top 16
abbrev sSplit : Stmt := top 17
abbrev sNum : Stmt := top 18
abbrev sJoin : Stmt := top 19
abbrev sFirst : Stmt := top 20
abbrev sBack : Stmt := top 21
abbrev sThree : Stmt := top 22
abbrev sFirsts : Stmt := top 23
abbrev sHead : Stmt := top 24
abbrev sUpTo : Stmt := top 25
abbrev sTail : Stmt := top 26
abbrev sTold : Stmt := top 27
/-! ### data -/
abbrev vN (x : Nat) : V := .int (x : Int)
abbrev kN (x : Nat) : Key := Sum.inl (x : Int)
theorem kN_inj {a b : Nat} (h : kN a = kN b) : a = b := by have := Sum.inl.inj h; omega
theorem _root_.L2.Same.new {H : Hp} {p : Addr} (h : H p = none) (o : HO) : Same H (upd H p o) := fun b u q => by rw [upd_ne (ne_of_none q h)]; exact q
theorem _root_.L2.Same.put {H H' : Hp} {p : Addr} (g : Same H H') (h : H p = none) (o : HO) : Same H (upd H' p o) := fun b u q => by rw [upd_ne (ne_of_none q h)]; exact g b u q
theorem small {n : Nat} (h : n ≤ 1000) : n ≤ sizeLine := Nat.le_of_lt (small1000 h)
theorem big {n : Nat} (h : n ≤ 100000) : n ≤ sizeLine := Nat.le_trans h (by decide)
section
variable {α κ : Type} [DecidableEq α] [DecidableEq κ]
theorem valV_map_in {key : α → κ} (inj : ∀ a b, key a = key b → a = b) (val : α → V) {s : α} : ∀ {L : List α}, s ∈ L → valV (L.map fun s => (key s, val s)) (key s) = some (val s)
  | [], h => by cases h
  | a :: L, h => by
    rw [List.map_cons]
    by_cases e : a = s
    · subst e; exact valV_pos (p := (key a, val a)) rfl
    · rw [valV_neg (p := (key a, val a)) fun z => e (inj _ _ z)]
      exact valV_map_in inj val (by rcases List.mem_cons.mp h with h | h; exact absurd h.symm e; exact h)
theorem valV_map_out {key : α → κ} (inj : ∀ a b, key a = key b → a = b) (val : α → V) {s : α} : ∀ {L : List α}, s ∉ L → valV (L.map fun s => (key s, val s)) (key s) = none
  | [], _ => rfl
  | a :: L, h => by
    rw [List.map_cons, valV_neg (p := (key a, val a)) fun z => h (by rw [inj _ _ z]; exact List.mem_cons_self)]
    exact valV_map_out inj val fun q => h (List.mem_cons_of_mem _ q)
/-- the classes met, by their numbers -/
def nd (key : α → κ) (C : List α) : List (κ × V) := C.map fun c => (key c, vN (C.idxOf c))
theorem nd_snoc {key : α → κ} {C : List α} {c : α} (h : c ∉ C) : nd key (C ++ [c]) = nd key C ++ [(key c, vN C.length)] := by
  unfold nd
  rw [List.map_append, List.map_singleton]
  congr 1
  · refine List.map_congr_left fun x hx => ?_
    rw [List.idxOf_append, if_pos hx]
  · rw [List.idxOf_append, if_neg h]
    simp
theorem nd_len {key : α → κ} {C : List α} : (nd key C).length = C.length := List.length_map _
end
/-- the groups -/
def gd (L : List Nat) (g : Nat → Nat) : List (Key × V) := L.map fun s => (kN s, vN (g s))
theorem gd_val {L : List Nat} {g : Nat → Nat} {s : Nat} (h : s ∈ L) : valV (gd L g) (kN s) = some (vN (g s)) := valV_map_in (fun _ _ => kN_inj) _ h
theorem gd_no {L : List Nat} {g : Nat → Nat} {s : Nat} (h : s ∉ L) : valV (gd L g) (kN s) = none := valV_map_out (fun _ _ => kN_inj) _ h
theorem gd_len {L : List Nat} {g : Nat → Nat} : (gd L g).length = L.length := List.length_map _
theorem gd_put {L : List Nat} {g : Nat → Nat} {s : Nat} (h : s ∉ L) : putK (gd L g) (kN s) (vN (g s)) = gd (L ++ [s]) g := by
  rw [putK_new _ (gd_no h)]
  unfold gd
  rw [List.map_append]; rfl
theorem DGet.gd {H : Hp} {p : Addr} {L : List Nat} {g : Nat → Nat} {s : Nat} (e : H p = some (.dK (gd L g))) (h : s ∈ L) : DGet H p (vN s) (some (vN (g s))) := by
  rw [← gd_val (g := g) h]
  exact DGet.k (k := kN s) e
/-- where a list is cut at a place -/
theorem cut_at {L : List Nat} {i s : Nat} (h : L[i]? = some s) : L = L.take i ++ s :: L.drop (i + 1) ∧ L.take (i + 1) = L.take i ++ [s] := by
  have hi : i < L.length := (List.getElem?_eq_some_iff.mp h).1
  constructor
  · have a := List.take_append_drop i L
    rw [List.drop_eq_getElem_cons hi, (List.getElem?_eq_some_iff.mp h).2] at a
    exact a.symm
  · rw [List.take_succ, h]; rfl
theorem not_before {L : List Nat} (hN : L.Nodup) {i s : Nat} (h : L[i]? = some s) : s ∉ L.take i := by
  intro q
  rw [(cut_at h).1] at hN
  have := (List.nodup_append.mp hN).2.2 s q s List.mem_cons_self
  exact this rfl
theorem of_map_get {L : List Nat} {i : Nat} {x : V} (h : (L.map vN)[i]? = some x) : ∃ s, L[i]? = some s ∧ x = vN s := by
  rw [List.getElem?_map] at h
  obtain ⟨s, hs, e⟩ := Option.map_eq_some_iff.mp h
  exact ⟨s, hs, e.symm⟩
theorem of_map_int {L : List Int} {i : Nat} {x : V} (h : (L.map V.int)[i]? = some x) : ∃ s, L[i]? = some s ∧ x = .int s := by
  rw [List.getElem?_map] at h
  obtain ⟨s, hs, e⟩ := Option.map_eq_some_iff.mp h
  exact ⟨s, hs, e.symm⟩
/-- one turn of the numbering -/
theorem num_in {α κ : Type} [DecidableEq α] [DecidableEq κ] {key : α → κ} (inj : ∀ a b, key a = key b → a = b) {m : Nat → α} {L : List Nat} {i s : Nat} (h : L[i]? = some s) (hi : m s ∈ dd ((L.take i).map m)) :
    valV (nd key (dd ((L.take i).map m))) (key (m s)) = some (vN (num m L s)) ∧ dd ((L.take (i + 1)).map m) = dd ((L.take i).map m) := by
  obtain ⟨e1, e2⟩ := cut_at h
  constructor
  · unfold nd
    rw [valV_map_in inj (fun c => vN ((dd ((L.take i).map m)).idxOf c)) hi]
    conv => rhs; rw [e1]
    rw [num_at, if_pos hi]
  · rw [e2, List.map_append, List.map_singleton, dd, ext_snoc, push_in hi]
theorem num_out {α κ : Type} [DecidableEq α] [DecidableEq κ] {key : α → κ} (inj : ∀ a b, key a = key b → a = b) {m : Nat → α} {L : List Nat} {i s : Nat} (h : L[i]? = some s) (hi : m s ∉ dd ((L.take i).map m)) :
    valV (nd key (dd ((L.take i).map m))) (key (m s)) = none ∧ nd key (dd ((L.take (i + 1)).map m)) = nd key (dd ((L.take i).map m)) ++ [(key (m s), vN (num m L s))] ∧ num m L s = (dd ((L.take i).map m)).length := by
  obtain ⟨e1, e2⟩ := cut_at h
  have en : num m L s = (dd ((L.take i).map m)).length := by
    conv => lhs; rw [e1]
    rw [num_at, if_neg hi]
  refine ⟨valV_map_out inj _ hi, ?_, en⟩
  rw [e2, List.map_append, List.map_singleton, dd, ext_snoc, push_out hi, nd_snoc hi, en]
/-! ### row_of -/
theorem cut_row {k s : Nat} {R : List Nat} (h : k * s + k ≤ R.length) : cutV (R.map vN) (some ((k : Int) * (s : Int))) (some ((k : Int) * (s : Int) + (k : Int))) = (rowA k R s).map vN := by
  have e1 : (k : Int) * (s : Int) = ((k * s : Nat) : Int) := by simp
  have e2 : ((k * s : Nat) : Int) + (k : Int) = ((k * s + k : Nat) : Int) := by simp
  unfold cutV rowA
  rw [e1, e2, HT.sIx_nat, HT.sIx_nat, List.length_map, Nat.min_eq_left h, Nat.min_eq_left (show k * s ≤ R.length by omega), Nat.add_sub_cancel_left, List.map_take, List.map_drop]
def spRow (K : PySem.W.Frag) : Sp := fun vs H Q _ => ∃ (a : Addr) (R : List Nat) (k s : Nat), vs = [.int k, .ref a, .int s] ∧ SqL K H a (R.map vN) ∧ k ≤ 16 ∧ k * s + k ≤ R.length ∧ ∀ p, H p = none → Q (.ref p) (upd H p (.lst ((rowA k R s).map vN)))
section
variable {P : Program} {w : World} {K : PySem.W.Frag} {mg : Str → Option Value} {base : Heap}
theorem scRow : FnScope ["k", "rows", "state"] ["k", "rows", "state"] (defScope sRow) := ⟨rfl, rfl, rfl, by decide +kernel, rfl, by decide +kernel, by decide +kernel⟩
theorem ok_row {f : Addr} {fd : FuncData} (F : Fun K "row_of" "row_of" sRow f fd) : FnOk P w K mg base CX0 1 f fd ["k", "rows", "state"] (spRow K) := by
  refine F.ok scRow (fun vs H Q E h => ?_) (fun cdv A outer s H vs Q E hr h => ?_)
  · obtain ⟨a, R, k, t, rfl, _⟩ := h
    rfl
  obtain ⟨a, R, k, t, rfl, hS, hk, hl, q⟩ := h
  refine ⟨_, pss_one (ps_ret (pe_slice sl_list (pv 1) (po_some (pe_op op_mul (pv 0) (pv 2))) (po_some (pe_op op_add (pe_op op_mul (pv 0) (pv 2)) (pv 0))))), ?_⟩
  have b1 : (-(2 ^ 64) < (k : Int)) ∧ (k : Int) < 2 ^ 64 := by constructor <;> omega
  refine ⟨_, rfl, _, rfl, _, rfl, _, _, rfl, rfl, .inl b1, _, rfl, _, rfl, _, rfl, _, _, rfl, rfl, .inl b1, _, rfl, _, _, rfl, rfl, _, rfl, a, _, rfl, hS, fun p hp => ?_⟩
  rw [cut_row hl]
  exact q p hp
/-! ### is_machine -/
def spIs (K : PySem.W.Frag) : Sp := fun vs H Q _ => ∃ (a b : Addr) (n : Int) (ns ts : List Int), vs = [.int n, .ref a, .ref b] ∧ SqL K H a (ns.map V.int) ∧ SqL K H b (ts.map V.int) ∧ ∀ H', Same H H' → Q (.bl (okM n ns ts)) H'
theorem scIs : FnScope ["n", "rows", "takes", "state", "taken"] ["n", "rows", "takes"] (defScope sIs) := ⟨rfl, rfl, rfl, by decide +kernel, rfl, by decide +kernel, by decide +kernel⟩
theorem all_take {p : Int → Bool} {l : List Int} {i : Nat} {z : Int} (h : l[i]? = some z) (hp : (l.take i).all p = true) (hz : p z = true) : (l.take (i + 1)).all p = true := by
  rw [List.take_succ, h, List.all_append, hp]
  simpa using hz
theorem all_bad {p : Int → Bool} {l : List Int} {i : Nat} {z : Int} (h : l[i]? = some z) (hz : p z = false) : l.all p = false := by
  rw [Bool.eq_false_iff]
  intro q
  have := List.all_eq_true.mp q z (List.mem_of_getElem? h)
  rw [hz] at this
  cases this
theorem ok_is {f : Addr} {fd : FuncData} (F : Fun K "is_machine" "is_machine" sIs f fd) : FnOk P w K mg base CX0 1 f fd ["n", "rows", "takes"] (spIs K) := by
  refine F.ok scIs (fun vs H Q E h => ?_) (fun cdv A outer s H vs Q E hr h => ?_)
  · obtain ⟨a, b, n, ns, ts, rfl, _⟩ := h
    rfl
  obtain ⟨a, b, n, ns, ts, rfl, hS, hT, q⟩ := h
  refine ⟨_, pss_cons (ps_for PassesOwn.never rfl (pi_list (pv 1)) (pg_name (i := 3) scIs.nd rfl (Or.inl rfl))
      (pss_one (ps_if (pt_not (pt_chain op_le op_lt pe_int (pv 3) (pv 0))) (pss_one (ps_ret pe_bl)) pss_nil)))
    (pss_cons (ps_for PassesOwn.never rfl (pi_list (pv 2)) (pg_name (i := 4) scIs.nd rfl (Or.inl rfl))
      (pss_one (ps_if (pt_cmpR op_notIn_seq (pv 4) (pe_tup (pa_cons pe_int (pa_cons pe_int pa_nil))) (by with_unfolding_all rfl)) (pss_one (ps_ret pe_bl)) pss_nil)))
    (pss_one (ps_ret pe_bl))), ?_⟩
  refine ⟨_, rfl, a, rfl, ⟨_, hS⟩, for_list (xs := ns.map V.int) (fun i σ H' => (∃ x, σ = [some (.int n), some (.ref a), some (.ref b), x, none]) ∧ H' = H ∧ (ns.take i).all (okS n) = true) ⟨⟨_, rfl⟩, rfl, rfl⟩ (fun i σ H' _ p => by rw [p.2.1]; exact hS) ?_ ?_⟩
  · rintro i x σ H' hx ⟨⟨y, rfl⟩, rfl, hp⟩
    obtain ⟨z, hz, rfl⟩ := of_map_int hx
    have bad : okS n z = false → Q (.bl false) H' := fun e => by
      have := q H' (Same.refl _)
      unfold okM at this
      rw [all_bad hz e, Bool.false_and] at this
      exact this
    refine ⟨_, rfl, _, _, rfl, rfl, _, rfl, ?_⟩
    refine ite2 (fun c => ?_) (fun c => ?_)
    · have c' : 0 ≤ z := of_decide_eq_true c
      refine ⟨_, rfl, _, _, rfl, rfl, _, rfl, ?_⟩
      refine ite2 (fun d => ?_) (fun d => ?_)
      · refine bad ?_
        have d' : decide (z < n) = false := by simpa using d
        unfold okS
        rw [d', Bool.and_false]
      · have d' : decide (z < n) = true := by simpa using d
        refine ⟨⟨_, rfl⟩, rfl, all_take hz hp ?_⟩
        unfold okS
        rw [d', decide_eq_true c']; rfl
    · refine ⟨_, rfl, ?_⟩
      refine iteT ?_
      refine bad ?_
      have c' : decide (0 ≤ z) = false := by simpa using c
      unfold okS
      rw [c', Bool.false_and]
  · rintro σ H' ⟨⟨y, rfl⟩, rfl, hp⟩
    rw [List.length_map, List.take_length] at hp
    refine ⟨_, rfl, b, rfl, ⟨_, hT⟩, for_list (xs := ts.map V.int) (fun i σ H2 => (∃ x, σ = [some (.int n), some (.ref a), some (.ref b), y, x]) ∧ Same H' H2 ∧ (ts.take i).all okT = true) ⟨⟨_, rfl⟩, Same.refl _, rfl⟩ (fun i σ H2 _ p => p.2.1.seq hT) ?_ ?_⟩
    · rintro i x σ H2 hx ⟨⟨y2, rfl⟩, g, hp2⟩
      obtain ⟨z, hz, rfl⟩ := of_map_int hx
      refine ⟨_, rfl, (by show 2 ≤ sizeLine; decide), fun p hp3 => ?_⟩
      have g' : Same H' (upd H2 p (.tup [.int 0, .int 1])) := g.trans (Same.new hp3 _)
      refine ⟨p, _, rfl, .inr (SqT.of upd_same), rfl, rfl, _, rfl, ?_⟩
      have ev : inV (V.int z) [.int 0, .int 1] = okT z := by
        unfold inV okT
        simp only [List.any_cons, List.any_nil, Bool.or_false, eqV]
        have e0 : ((0 : Int) == z) = decide (z = 0) := by rw [Bool.eq_iff_iff, beq_iff_eq, decide_eq_true_eq]; exact eq_comm
        have e1 : ((1 : Int) == z) = decide (z = 1) := by rw [Bool.eq_iff_iff, beq_iff_eq, decide_eq_true_eq]; exact eq_comm
        rw [e0, e1]
      refine ite2 (fun c => ?_) (fun c => ?_)
      · have c' : (!inV (V.int z) [.int 0, .int 1]) = true := c
        rw [ev] at c'
        have := q _ g'
        unfold okM at this
        rw [all_bad hz (by simpa using c'), Bool.and_false] at this
        exact this
      · have c' : ¬ (!inV (V.int z) [.int 0, .int 1]) = true := c
        rw [ev] at c'
        exact ⟨⟨_, rfl⟩, g', all_take hz hp2 (by simpa using c')⟩
    · rintro σ H2 ⟨⟨y2, rfl⟩, g, hp2⟩
      rw [List.length_map, List.take_length] at hp2
      have := q H2 g
      unfold okM at this
      rw [hp, hp2] at this
      exact this
end
end Lp
set_option maxRecDepth 100000
set_option maxHeartbeats 4000000
namespace Lp
open PySem L2 Lm
section
variable {P : Program} {w : World} {K : PySem.W.Frag} {mg : Str → Option Value} {base : Heap}
theorem hu2_of {A : Around} {k : Nat} (hr : Room k A) : A.units + 2 < cLine := Nat.lt_of_le_of_lt (Nat.add_le_add_left (by decide : 2 ≤ 64) _) hr.units
theorem getD_at {T : List Nat} {s : Nat} (h : s < T.length) : atI (T.map vN) (s : Int) = some (vN (T.getD s 0)) := by
  refine atI_nat ?_
  rw [List.getElem?_map, List.getD_eq_getElem?_getD, List.getElem?_eq_getElem h]
  rfl
theorem len64 {α : Type} [DecidableEq α] {m : Nat → α} {L : List Nat} (i : Nat) (h : L.length ≤ 64) : (dd ((L.take i).map m)).length ≤ 64 := by
  have := dd_len ((L.take i).map m) []
  rw [List.length_map, List.length_nil, List.length_take] at this
  have z : (dd ((L.take i).map m)).length ≤ 0 + min i L.length := this
  omega
theorem scNum : FnScope ["order", "marks", "numbers", "groups", "state"] ["order", "marks"] (defScope sNum) := ⟨rfl, rfl, rfl, by decide +kernel, rfl, by decide +kernel, by decide +kernel⟩
/-! ### number_marks, by a list -/
def spNumT (K : PySem.W.Frag) : Sp := fun vs H Q _ => ∃ (o t : Addr) (L T : List Nat), vs = [.ref o, .ref t] ∧ SqL K H o (L.map vN) ∧ L.Nodup ∧ L.length ≤ 64 ∧ SqL K H t (T.map vN) ∧ (∀ s ∈ L, s < T.length) ∧
  ∀ p H', H p = none → Same H H' → H' p = some (.dK (gd L (num (fun s => T.getD s 0) L))) → Q (.ref p) H'
theorem ok_numT {f : Addr} {fd : FuncData} (F : Fun K "number_marks" "number_marks" sNum f fd) (ml : mg "len" = none) : FnOk P w K mg base CX0 1 f fd ["order", "marks"] (spNumT K) := by
  refine F.ok scNum (fun vs H Q E h => ?_) (fun cdv A outer s H vs Q E hr h => ?_)
  · obtain ⟨o, t, L, T, rfl, _⟩ := h
    rfl
  obtain ⟨o, t, L, T, rfl, hS, hN, h64, hT, hlt, q⟩ := h
  have hu := hu_of hr
  have hu2 := hu2_of hr
  refine ⟨_, pss_cons (ps_set (i := 2) scNum.nd rfl (Or.inl rfl) pe_dnewK)
    (pss_cons (ps_set (i := 3) scNum.nd rfl (Or.inl rfl) pe_dnewK)
    (pss_cons (ps_for PassesOwn.never rfl (pi_list (pv 0)) (pg_name (i := 4) scNum.nd rfl (Or.inl rfl))
      (pss_one (ps_dput hu (pv 3) (pv 4) (pe_dsd hu2 (pv 2) (pe_ix ix_list (pv 1) (pv 4) (fun _ _ => rfl)) (pe_callB call_lenD (by rfl) ml PySem.boot_len (pa_cons (pv 2) pa_nil)) ⟨rfl, rfl, rfl, rfl⟩) rfl)))
    (pss_one (ps_ret (pv 3))))), ?_⟩
  intro pn hpn pg hpg
  have npg : pn ≠ pg := fun e => by subst e; rw [upd_same] at hpg; cases hpg
  have hpg' : H pg = none := by rw [upd_ne npg.symm] at hpg; exact hpg
  have g0 : Same H (upd (upd H pn (.dK [])) pg (.dK [])) := (Same.new hpn _).put hpg' _
  generalize hm : (fun s => T.getD s 0) = m at q
  refine ⟨_, rfl, o, rfl, ⟨_, g0.seq hS⟩, for_list (xs := L.map vN) (fun i σ H' => (∃ x, σ = [some (.ref o), some (.ref t), some (.ref pn), some (.ref pg), x]) ∧ H' pn = some (.dK (nd kN (dd ((L.take i).map m)))) ∧
    H' pg = some (.dK (gd (L.take i) (num m L))) ∧ Same H H') ⟨⟨_, rfl⟩, by rw [upd_ne npg, upd_same]; rfl, by rw [upd_same]; rfl, g0⟩ (fun i σ H' _ p => p.2.2.2.seq hS) ?_ ?_⟩
  · rintro i x σ H' hx ⟨⟨y, rfl⟩, h1, h2, g⟩
    obtain ⟨z, hz, rfl⟩ := of_map_get hx
    have hzm : z ∈ L := List.mem_of_getElem? hz
    have fin : ∀ H'', H'' pn = some (.dK (nd kN (dd ((L.take (i + 1)).map m)))) → Same H H'' → ∃ x, ([some (.ref o), some (.ref t), some (.ref pn), some (.ref pg), some (vN z)] : St) = [some (.ref o), some (.ref t), some (.ref pn), some (.ref pg), x] ∧ True := fun _ _ _ => ⟨_, rfl, trivial⟩
    have em : vN (T.getD z 0) = vN (m z) := by rw [← hm]
    refine ⟨_, rfl, pn, rfl, .inl ⟨_, h1⟩, _, rfl, _, rfl, t, _, _, _, rfl, rfl, g.seq hT, getD_at (hlt z hzm), _, rfl, pn, _, rfl, h1, .inl ⟨_, kN (m z), h1, em, (by rw [nd_len]; exact Nat.lt_of_le_of_lt (len64 i h64) (by decide)), fun v hv => ?_, fun hn => ?_⟩⟩
    · by_cases c : m z ∈ dd ((L.take i).map m)
      · obtain ⟨e1, e2⟩ := num_in (key := kN) (fun _ _ => kN_inj) hz c
        rw [e1] at hv
        cases hv
        refine ⟨_, rfl, _, rfl, pg, _, rfl, DPut.k (k := kN z) h2 (by rw [gd_len]; exact Nat.lt_of_le_of_lt (Nat.le_trans (List.length_take_le' _ _) h64) (by decide)), ⟨_, rfl⟩, ?_, ?_, g.put hpg' _⟩
        · rw [upd_ne npg, h1, e2]
        · rw [upd_same, gd_put (not_before hN hz), (cut_at hz).2]
      · rw [(num_out (key := kN) (fun _ _ => kN_inj) hz c).1] at hv
        cases hv
    · have c : m z ∉ dd ((L.take i).map m) := fun c => by rw [(num_in (key := kN) (fun _ _ => kN_inj) hz c).1] at hn; cases hn
      obtain ⟨e1, e2, e3⟩ := num_out (key := kN) (fun _ _ => kN_inj) hz c
      have el : V.int (((nd kN (dd ((L.take i).map m))).length : Nat) : Int) = vN (num m L z) := by rw [nd_len, e3]
      rw [el]
      refine ⟨_, rfl, _, rfl, pg, _, rfl, DPut.k (k := kN z) (by rw [upd_ne npg.symm]; exact h2) (by rw [gd_len]; exact Nat.lt_of_le_of_lt (Nat.le_trans (List.length_take_le' _ _) h64) (by decide)), ⟨_, rfl⟩, ?_, ?_, (g.put hpn _).put hpg' _⟩
      · rw [upd_ne npg, upd_same, e2]
      · rw [upd_same, gd_put (not_before hN hz), (cut_at hz).2]
  · rintro σ H' ⟨⟨y, rfl⟩, h1, h2, g⟩
    rw [List.length_map, List.take_length] at h2
    exact ⟨_, rfl, q pg H' hpg' g h2⟩
end
end Lp
set_option maxRecDepth 100000
set_option maxHeartbeats 4000000
namespace Lp
open PySem L2 Lm
section
variable {P : Program} {w : World} {K : PySem.W.Frag} {mg : Str → Option Value} {base : Heap}
/-! ### number_marks, by a dict of marks -/
theorem id_inj {α : Type} : ∀ a b : α, id a = id b → a = b := fun _ _ h => h
def spNumD (K : PySem.W.Frag) : Sp := fun vs H Q _ => ∃ (o t : Addr) (L : List Nat) (kvs : List (Key × V)) (m : Nat → NKey), vs = [.ref o, .ref t] ∧ SqL K H o (L.map vN) ∧ L.Nodup ∧ L.length ≤ 64 ∧ H t = some (.dK kvs) ∧
  (∀ s ∈ L, ∃ b, valV kvs (kN s) = some (.ref b) ∧ NestAt H (m s) b) ∧
  ∀ p H', H p = none → Same H H' → H' p = some (.dK (gd L (num m L))) → Q (.ref p) H'
theorem _root_.L2.Same.nest {H H' : Hp} (g : Same H H') {k : NKey} {b : Addr} (h : NestAt H k b) : NestAt H' k b := h.mono fun c xs e => g c _ e
theorem ok_numD {f : Addr} {fd : FuncData} (F : Fun K "number_marks" "number_marks" sNum f fd) (ml : mg "len" = none) : FnOk P w K mg base CX0 1 f fd ["order", "marks"] (spNumD K) := by
  refine F.ok scNum (fun vs H Q E h => ?_) (fun cdv A outer s H vs Q E hr h => ?_)
  · obtain ⟨o, t, L, kvs, m, rfl, _⟩ := h
    rfl
  obtain ⟨o, t, L, kvs, m, rfl, hS, hN, h64, hT, hmk, q⟩ := h
  have hu := hu_of hr
  have hu2 := hu2_of hr
  refine ⟨_, pss_cons (ps_set (i := 2) scNum.nd rfl (Or.inl rfl) pe_dnewN)
    (pss_cons (ps_set (i := 3) scNum.nd rfl (Or.inl rfl) pe_dnewK)
    (pss_cons (ps_for PassesOwn.never rfl (pi_list (pv 0)) (pg_name (i := 4) scNum.nd rfl (Or.inl rfl))
      (pss_one (ps_dput hu (pv 3) (pv 4) (pe_dsd hu2 (pv 2) (pe_dget hu (pv 1) (pv 4) (fun _ _ => rfl)) (pe_callB call_lenN (by rfl) ml PySem.boot_len (pa_cons (pv 2) pa_nil)) ⟨rfl, rfl, rfl, rfl⟩) rfl)))
    (pss_one (ps_ret (pv 3))))), ?_⟩
  intro pn hpn pg hpg
  have npg : pn ≠ pg := fun e => by subst e; rw [upd_same] at hpg; cases hpg
  have hpg' : H pg = none := by rw [upd_ne npg.symm] at hpg; exact hpg
  have g0 : Same H (upd (upd H pn (.dN [])) pg (.dK [])) := (Same.new hpn _).put hpg' _
  refine ⟨_, rfl, o, rfl, ⟨_, g0.seq hS⟩, for_list (xs := L.map vN) (fun i σ H' => (∃ x, σ = [some (.ref o), some (.ref t), some (.ref pn), some (.ref pg), x]) ∧ H' pn = some (.dN (nd id (dd ((L.take i).map m)))) ∧
    H' pg = some (.dK (gd (L.take i) (num m L))) ∧ Same H H') ⟨⟨_, rfl⟩, by rw [upd_ne npg, upd_same]; rfl, by rw [upd_same]; rfl, g0⟩ (fun i σ H' _ p => p.2.2.2.seq hS) ?_ ?_⟩
  · rintro i x σ H' hx ⟨⟨y, rfl⟩, h1, h2, g⟩
    obtain ⟨z, hz, rfl⟩ := of_map_get hx
    have hzm : z ∈ L := List.mem_of_getElem? hz
    obtain ⟨b, hb, hbn⟩ := hmk z hzm
    have hget : DGet H' t (vN z) (some (.ref b)) := by
      rw [← hb]
      exact DGet.k (k := kN z) (g _ _ hT)
    refine ⟨_, rfl, pn, rfl, .inr ⟨_, h1⟩, _, rfl, _, rfl, t, _, rfl, hget, _, rfl, pn, _, rfl, h1, .inr ⟨_, m z, b, h1, rfl, Same.nest g hbn, (by rw [nd_len]; exact Nat.lt_of_le_of_lt (len64 i h64) (by decide)), fun v hv => ?_, fun hn => ?_⟩⟩
    · by_cases c : m z ∈ dd ((L.take i).map m)
      · obtain ⟨e1, e2⟩ := num_in (key := id) id_inj hz c
        have hv' := e1.symm.trans hv
        cases hv'
        refine ⟨_, rfl, _, rfl, pg, _, rfl, DPut.k (k := kN z) h2 (by rw [gd_len]; exact Nat.lt_of_le_of_lt (Nat.le_trans (List.length_take_le' _ _) h64) (by decide)), ⟨_, rfl⟩, ?_, ?_, g.put hpg' _⟩
        · rw [upd_ne npg, h1, e2]
        · rw [upd_same, gd_put (not_before hN hz), (cut_at hz).2]
      · have := (num_out (key := id) id_inj hz c).1.symm.trans hv
        cases this
    · have c : m z ∉ dd ((L.take i).map m) := fun c => by
        have := (num_in (key := id) id_inj hz c).1.symm.trans hn
        cases this
      obtain ⟨e1, e2, e3⟩ := num_out (key := id) id_inj hz c
      have el : V.int (((nd id (dd ((L.take i).map m))).length : Nat) : Int) = vN (num m L z) := by rw [nd_len, e3]
      rw [el]
      refine ⟨_, rfl, _, rfl, pg, _, rfl, DPut.k (k := kN z) (by rw [upd_ne npg.symm]; exact h2) (by rw [gd_len]; exact Nat.lt_of_le_of_lt (Nat.le_trans (List.length_take_le' _ _) h64) (by decide)), ⟨_, rfl⟩, ?_, ?_, (g.put hpn _).put hpg' _⟩
      · rw [upd_ne npg, upd_same, e2]; rfl
      · rw [upd_same, gd_put (not_before hN hz), (cut_at hz).2]
  · rintro σ H' ⟨⟨y, rfl⟩, h1, h2, g⟩
    rw [List.length_map, List.take_length] at h2
    exact ⟨_, rfl, q pg H' hpg' g h2⟩
/-! ### split_groups -/
def sgk (k : Nat) (R : List Nat) (g : Nat → Nat) (s : Nat) : NKey := ((g s : Int), (rowA k R s).map fun x => (g x : Int))
theorem map_cast_inj : ∀ {a b : List Nat}, a.map (fun (x : Nat) => (x : Int)) = b.map (fun (x : Nat) => (x : Int)) → a = b
  | [], [], _ => rfl
  | [], _ :: _, h => by simp at h
  | _ :: _, [], h => by simp at h
  | x :: a, y :: b, h => by
    rw [List.map_cons, List.map_cons] at h
    injection h with h1 h2
    rw [map_cast_inj h2, show x = y by omega]
theorem sig_sgk (k : Nat) (R : List Nat) (g : Nat → Nat) (L : List Nat) : Sig (rowA k R) g L (sgk k R g) := by
  intro s _ t _
  unfold sgk
  rw [Prod.mk.injEq]
  constructor
  · rintro ⟨h1, h2⟩
    refine ⟨by omega, map_cast_inj ?_⟩
    rw [List.map_map, List.map_map]
    exact h2
  · rintro ⟨h1, h2⟩
    refine ⟨by rw [h1], ?_⟩
    have := congrArg (List.map fun (x : Nat) => (x : Int)) h2
    rw [List.map_map, List.map_map] at this
    exact this
/-- a machine's rows, k for each of N states -/
structure Rows (k N : Nat) (R : List Nat) : Prop where
  k1 : 1 ≤ k
  k16 : k ≤ 16
  n1 : 1 ≤ N
  n64 : N ≤ 64
  len : R.length = k * N
  lt : ∀ x ∈ R, x < N
theorem Rows.at {k N : Nat} {R : List Nat} (h : Rows k N R) {s : Nat} (hs : s < N) : k * s + k ≤ R.length := by
  rw [h.len, ← Nat.mul_succ]
  exact Nat.mul_le_mul_left k hs
theorem Rows.row_lt {k N : Nat} {R : List Nat} (h : Rows k N R) (s : Nat) : ∀ a ∈ rowA k R s, a < N := fun a ha =>
  h.lt a (List.mem_of_mem_drop (List.mem_of_mem_take ha))
theorem row_len (k : Nat) (R : List Nat) (s : Nat) : (rowA k R s).length ≤ k := by unfold rowA; rw [List.length_take]; omega
def spSplit (K : PySem.W.Frag) : Sp := fun vs H Q _ => ∃ (a o gr : Addr) (k N : Nat) (R L : List Nat) (g : Nat → Nat), vs = [.int k, .ref a, .ref o, .ref gr] ∧ Rows k N R ∧ SqL K H a (R.map vN) ∧ SqL K H o (L.map vN) ∧ L.Nodup ∧ (∀ s ∈ L, s < N) ∧ L.length ≤ 64 ∧
  Closed (rowA k R) L ∧ H gr = some (.dK (gd L g)) ∧ ∀ p H', H p = none → Same H H' → H' p = some (.dK (gd L (num (sgk k R g) L))) → Q (.ref p) H'
theorem scSplit : FnScope ["k", "rows", "order", "groups", "marks", "state", "ahead", "there"] ["k", "rows", "order", "groups"] (defScope sSplit) := ⟨rfl, rfl, rfl, by decide +kernel, rfl, by decide +kernel, by decide +kernel⟩
def md (L : List Nat) (bs : Nat → Addr) : List (Key × V) := L.map fun s => (kN s, V.ref (bs s))
theorem take_map_succ {l : List Nat} {i x : Nat} (h : l[i]? = some x) (f : Nat → V) : (l.take i).map f ++ [f x] = (l.take (i + 1)).map f := by
  rw [(cut_at h).2, List.map_append]; rfl
theorem ok_split {f fR fN : Addr} {fd fdR fdN : FuncData} (F : Fun K "split_groups" "split_groups" sSplit f fd)
    (GR : FnOk P w K mg base CX0 1 fR fdR ["k", "rows", "state"] (spRow K)) (bR : Binds K fdR ["k", "rows", "state"] []) (kR : PySem.W.keepIn K (.ref fR) = true) (mR : mg "row_of" = some (.ref fR))
    (GN : FnOk P w K mg base CX0 1 fN fdN ["order", "marks"] (spNumD K)) (bN : Binds K fdN ["order", "marks"] []) (kN' : PySem.W.keepIn K (.ref fN) = true) (mN : mg "number_marks" = some (.ref fN)) (mt : mg "tuple" = none) :
    FnOk P w K mg base CX0 2 f fd ["k", "rows", "order", "groups"] (spSplit K) := by
  refine F.ok scSplit (fun vs H Q E h => ?_) (fun cdv A outer s H vs Q E hr h => ?_)
  · obtain ⟨a, o, gr, k, N, R, L, g, rfl, _⟩ := h
    rfl
  obtain ⟨a, o, gr, k, N, R, L, g, rfl, hR, hA, hS, hN, hlt, h64, hC, hG, q⟩ := h
  have hu := hu_of hr
  refine ⟨_, pss_cons (ps_set (i := 4) scSplit.nd rfl (Or.inl rfl) pe_dnewK)
    (pss_cons (ps_for PassesOwn.never rfl (pi_list (pv 2)) (pg_name (i := 5) scSplit.nd rfl (Or.inl rfl))
      (pss_cons (ps_setLc (i := 6) (own := [("there", 7)]) rfl scSplit.nd rfl rfl (sw_true rfl rfl rfl (by decide +kernel))
          (pi_list (pe_call GR hr rfl mR kR bR .nil pass0 (pa_cons (pv 0) (pa_cons (pv 1) (pa_cons (pv 5) pa_nil)))))
          (blkOk_by (N := ["k", "rows", "order", "groups", "marks", "state", "ahead", "there"]) (sc := defScope sSplit) (by decide +kernel)) (fun s H C cl fp => pg_name (i := 7) scSplit.nd rfl (Or.inl rfl)) (fun s H C cl fp => pts_nil) (fun s H C cl fp => pe_dget hu (pv 3) (pv 7) (fun _ _ => rfl)))
      (pss_one (ps_dput hu (pv 4) (pv 5) (pe_tup (pa_cons (pe_dget hu (pv 3) (pv 5) (fun _ _ => rfl)) (pa_cons (pe_callTy call_tuple_of (by rfl) mt PyProof.Rows.boot_tuple (pa_cons (pv 6) pa_nil)) pa_nil))) rfl))))
    (pss_one (ps_ret (pe_call GN hr rfl mN kN' bN .nil pass0 (pa_cons (pv 2) (pa_cons (pv 4) pa_nil)))))), ?_⟩
  intro pm hpm
  have g0 : Same H (upd H pm (.dK [])) := Same.new hpm _
  refine ⟨_, rfl, o, rfl, ⟨_, g0.seq hS⟩, for_list (xs := L.map vN) (fun i σ H' => (∃ x y, σ = [some (.int k), some (.ref a), some (.ref o), some (.ref gr), some (.ref pm), x, y, none]) ∧
    (∃ bs : Nat → Addr, H' pm = some (.dK (md (L.take i) bs)) ∧ ∀ s ∈ L.take i, NestAt H' (sgk k R g s) (bs s)) ∧ Same H H') ⟨⟨_, _, rfl⟩, ⟨fun _ => 0, by rw [upd_same]; rfl, fun s hs => by cases hs⟩, g0⟩ (fun i σ H' _ p => p.2.2.seq hS) ?_ ?_⟩
  · rintro i x σ H' hx ⟨⟨y1, y2, rfl⟩, ⟨bs, h1, h2⟩, gs⟩
    obtain ⟨z, hz, rfl⟩ := of_map_get hx
    have hzm : z ∈ L := List.mem_of_getElem? hz
    have hG' := gs _ _ hG
    -- ahead
    refine ⟨_, rfl, _, rfl, _, rfl, a, R, k, z, rfl, gs.seq hA, hR.k16, hR.at (hlt z hzm), fun pr hpr => ?_⟩
    refine ⟨pr, rfl, ⟨_, SqL.of upd_same⟩, fun D hD => ?_⟩
    have hDr : D ≠ pr := fun e => by subst e; rw [upd_same] at hD; cases hD
    have hD' : H' D = none := by rw [upd_ne hDr] at hD; exact hD
    have gD : Same H' (upd (upd H' pr (.lst ((rowA k R z).map vN))) D (.lst [])) := (Same.new hpr _).put hD' _
    refine lc_list (xs := (rowA k R z).map vN) (fun j H2 => H2 D = some (.lst (((rowA k R z).take j).map fun x => vN (g x))) ∧ H2 pr = some (.lst ((rowA k R z).map vN)) ∧ Same H' H2)
      ⟨by rw [upd_same]; rfl, by rw [upd_ne hDr.symm, upd_same], gD⟩ (fun j H2 _ p => SqL.of p.2.1) ?_ ?_
    · rintro j x H2 hx2 ⟨e1, e2, e3⟩
      obtain ⟨t, ht, rfl⟩ := of_map_get hx2
      have htm : t ∈ L := hC z hzm t (List.mem_of_getElem? ht)
      refine ⟨rfl, ?_⟩
      unfold tYes
      refine iteT ?_
      refine ⟨_, rfl, _, rfl, gr, _, rfl, DGet.gd (e3 _ _ hG') htm, _, e1, ?_, ?_, ?_, ?_⟩
      · rw [List.length_map, List.length_take]
        exact Nat.lt_of_le_of_lt (Nat.le_trans (Nat.min_le_right _ _) (Nat.le_trans (row_len k R z) hR.k16)) (by decide)
      · rw [upd_same, take_map_succ ht fun x => vN (g x)]
      · rw [upd_ne hDr.symm]; exact e2
      · exact e3.put hD' _
    · rintro H2 ⟨e1, e2, e3⟩
      rw [List.length_map, List.take_length] at e1
      -- marks[state] = (groups[state], tuple(ahead))
      refine ⟨_, rfl, _, rfl, gr, _, rfl, DGet.gd (e3 _ _ hG') hzm, _, rfl, D, _, rfl, .inl ⟨SqL.of e1, fun c hc => ?_⟩⟩
      refine ⟨(by show 2 ≤ sizeLine; decide), fun b hb => ?_⟩
      have hbc : b ≠ c := fun e => by subst e; rw [upd_same] at hb; cases hb
      have hb2 : H2 b = none := by rw [upd_ne hbc] at hb; exact hb
      have g4 : Same H2 (upd (upd H2 c (.tup ((rowA k R z).map fun x => vN (g x)))) b (.tup [vN (g z), .ref c])) := (Same.new hc _).put hb2 _
      have h1' := g4 _ _ (e3 _ _ h1)
      have hpmz : valV (md (L.take i) bs) (kN z) = none := valV_map_out (fun _ _ => kN_inj) _ (not_before hN hz)
      refine ⟨_, rfl, _, rfl, pm, _, rfl, DPut.k (k := kN z) h1' ?_, ⟨_, _, rfl⟩, ⟨fun x => if x = z then b else bs x, ?_, ?_⟩, ?_⟩
      · unfold md
        rw [List.length_map]
        exact Nat.lt_of_le_of_lt (Nat.le_trans (List.length_take_le' _ _) h64) (by decide)
      · rw [upd_same, putK_new _ hpmz, (cut_at hz).2]
        unfold md
        rw [List.map_append, List.map_singleton]
        dsimp only
        rw [if_pos rfl]
        congr 3
        refine List.map_congr_left fun x hx => ?_
        rw [if_neg fun e => not_before hN hz (by rw [← e]; exact hx)]
      · intro x hx
        rw [(cut_at hz).2] at hx
        have keep : ∀ (d : Addr) (xs : List V), (upd (upd H2 c (.tup ((rowA k R z).map fun x => vN (g x)))) b (.tup [vN (g z), .ref c])) d = some (.tup xs) →
            (upd (upd (upd H2 c (.tup ((rowA k R z).map fun x => vN (g x)))) b (.tup [vN (g z), .ref c])) pm (.dK (putK (md (L.take i) bs) (kN z) (.ref b)))) d = some (.tup xs) := fun d xs e => by
          rw [upd_ne (ne_of e h1' (by intro z; cases z))]; exact e
        dsimp only
        rcases List.mem_append.mp hx with hx | hx
        · rw [if_neg fun e => not_before hN hz (by rw [← e]; exact hx)]
          exact (Same.nest g4 (Same.nest e3 (h2 x hx))).mono keep
        · rw [List.mem_singleton] at hx
          subst hx
          rw [if_pos rfl]
          refine NestAt.mono ⟨c, upd_same, ?_⟩ keep
          rw [upd_ne hbc.symm, upd_same]
          unfold sgk
          rw [List.map_map]; rfl
      · exact ((gs.trans e3).trans g4).put hpm _
  · rintro σ H' ⟨⟨y1, y2, rfl⟩, ⟨bs, h1, h2⟩, gs⟩
    rw [List.length_map, List.take_length] at h1 h2
    refine ⟨_, rfl, _, rfl, o, pm, L, _, sgk k R g, rfl, gs.seq hS, hN, h64, h1, fun s hs => ⟨bs s, valV_map_in (fun _ _ => kN_inj) _ hs, h2 s hs⟩, fun p H2 hp g2 e => q p H2 ?_ (gs.trans g2) e⟩
    cases z : H p with
    | none => rfl
    | some u => rw [gs _ _ z] at hp; cases hp
end
end Lp
set_option maxRecDepth 100000
set_option maxHeartbeats 4000000
namespace Lp
open PySem L2 Lm
section
variable {P : Program} {w : World} {K : PySem.W.Frag} {mg : Str → Option Value} {base : Heap}
/-! ### reached_states -/
def seenD (l : List Nat) : List (Key × V) := l.map fun s => (kN s, V.bl true)
theorem seen_put {l : List Nat} {s : Nat} (h : s ∉ l) : putK (seenD l) (kN s) (.bl true) = seenD (l ++ [s]) := by
  rw [putK_new _ (show valV (seenD l) (kN s) = none from valV_map_out (fun _ _ => kN_inj) _ h)]
  unfold seenD
  rw [List.map_append]; rfl
theorem seen_get {l : List Nat} {s : Nat} : (valV (seenD l) (kN s)).isSome = decide (s ∈ l) := by
  by_cases h : s ∈ l
  · rw [show valV (seenD l) (kN s) = some (.bl true) from valV_map_in (fun _ _ => kN_inj) _ h, decide_eq_true h]; rfl
  · rw [show valV (seenD l) (kN s) = none from valV_map_out (fun _ _ => kN_inj) _ h, decide_eq_false h]; rfl
def spReach (K : PySem.W.Frag) : Sp := fun vs H Q _ => ∃ (a : Addr) (k N : Nat) (R : List Nat), vs = [.int k, .ref a] ∧ Rows k N R ∧ SqL K H a (R.map vN) ∧
  ∀ p H' l, H p = none → Same H H' → H' p = some (.lst (l.map vN)) → Reach (rowA k R) l.length l → Q (.ref p) H'
theorem scReach : FnScope ["k", "rows", "order", "seen", "done", "state"] ["k", "rows"] (defScope sReach) := ⟨rfl, rfl, rfl, by decide +kernel, rfl, by decide +kernel, by decide +kernel⟩
theorem ok_reach {f fR : Addr} {fd fdR : FuncData} (F : Fun K "reached_states" "reached_states" sReach f fd)
    (GR : FnOk P w K mg base CX0 1 fR fdR ["k", "rows", "state"] (spRow K)) (bR : Binds K fdR ["k", "rows", "state"] []) (kR : PySem.W.keepIn K (.ref fR) = true) (mR : mg "row_of" = some (.ref fR)) (ml : mg "len" = none) :
    FnOk P w K mg base CX0 2 f fd ["k", "rows"] (spReach K) := by
  refine F.ok scReach (fun vs H Q E h => ?_) (fun cdv A outer s H vs Q E hr h => ?_)
  · obtain ⟨a, k, N, R, rfl, _⟩ := h
    rfl
  obtain ⟨a, k, N, R, rfl, hR, hA, q⟩ := h
  have hu := hu_of hr
  refine ⟨_, pss_cons (ps_set (i := 2) scReach.nd rfl (Or.inl rfl) (pe_lst (pa_cons pe_int pa_nil)))
    (pss_cons (ps_set (i := 3) scReach.nd rfl (Or.inl rfl) (pe_disp (pps_cons pe_int pe_bl pps_nil) rfl rfl (by simp) (by decide)))
    (pss_cons (ps_set (i := 4) scReach.nd rfl (Or.inl rfl) pe_int)
    (pss_cons (ps_while PassesOwn.never (pt_cmpR op_lt (pv 4) (pe_callB call_len_seq (by rfl) ml PySem.boot_len (pa_cons (pv 2) pa_nil)) (nomark _))
      (pss_cons (ps_for PassesOwn.never rfl (pi_list (pe_call GR hr rfl mR kR bR .nil pass0 (pa_cons (pv 0) (pa_cons (pv 1) (pa_cons (pe_ix ix_list (pv 2) (pv 4) (fun _ _ => rfl)) pa_nil))))) (pg_name (i := 5) scReach.nd rfl (Or.inl rfl))
        (pss_one (ps_if (pt_cmp (pc_dnotin hu (pv 5) (pv 3)))
          (pss_cons (ps_dput hu (pv 3) (pv 5) pe_bl rfl)
          (pss_one (ps_expr (pe_bm PySem.F.plainAttrs_list PySem.F.slot_list_append PySem.F.type_list_append mt_append (pv 2) (pa_cons (pv 5) pa_nil)))))
          pss_nil)))
      (pss_one (ps_set (i := 4) scReach.nd rfl (Or.inl rfl) (pe_op op_add (pv 4) pe_int)))))
    (pss_one (ps_ret (pv 2)))))), ?_⟩
  refine ⟨(by show 1 ≤ sizeLine; decide), fun po hpo => ?_⟩
  intro ps hps
  have nps : po ≠ ps := fun e => by subst e; rw [upd_same] at hps; cases hps
  have hps' : H ps = none := by rw [upd_ne nps.symm] at hps; exact hps
  refine ⟨upd_same, [(kN 0, .bl true)], rfl, by decide, ?_⟩
  have g0 : Same H (upd (upd (upd H po (.lst [.int 0])) ps (.dK [])) ps (.dK (mergeK [] [(kN 0, .bl true)]))) := ((Same.new hpo _).put hps' _).put hps' _
  refine ⟨fun m σ H' => ∃ (d : Nat) (l : List Nat) (x : Option V), σ = [some (.int k), some (.ref a), some (.ref po), some (.ref ps), some (.int d), x] ∧ m = N - d ∧ H' po = some (.lst (l.map vN)) ∧ H' ps = some (.dK (seenD l)) ∧ Same H H' ∧ Reach (rowA k R) d l,
    ⟨N, 0, [0], _, rfl, rfl, by rw [upd_ne nps, upd_ne nps, upd_same]; rfl, by rw [upd_same]; rfl, g0, .start⟩, ?_⟩
  rintro m σ H' ⟨d, l, x, rfl, rfl, h1, h2, g, hre⟩
  have ok := hre.ok (N := N) hR.n1 fun s _ => hR.row_lt s
  have few := ok.few
  refine ⟨_, rfl, _, rfl, po, _, rfl, .inl (SqL.of h1), _, _, rfl, rfl, _, rfl, ?_⟩
  refine ite2 (fun c => ?_) (fun c => ?_)
  · have c' : (d : Int) < (((l.map vN).length : Nat) : Int) := of_decide_eq_true c
    rw [List.length_map] at c'
    have hd : d < l.length := by omega
    have hq : l[d]? = some l[d] := List.getElem?_eq_getElem hd
    generalize l[d] = qd at hq
    have hqm : qd ∈ l := List.mem_of_getElem? hq
    have hqN := ok.lt qd hqm
    refine ⟨fun σ' H2 => ∃ (l' : List Nat) (x : Option V), σ' = [some (.int k), some (.ref a), some (.ref po), some (.ref ps), some (.int ((d : Int) + 1)), x] ∧ H2 po = some (.lst (l'.map vN)) ∧ H2 ps = some (.dK (seenD l')) ∧ Same H H2 ∧ Reach (rowA k R) (d + 1) l', ?_, ?_⟩
    · rintro σ' H2 ⟨l', x', rfl, e1, e2, e3, e4⟩
      exact ⟨N - (d + 1), by omega, d + 1, l', x', rfl, rfl, e1, e2, e3, e4⟩
    refine ⟨_, rfl, _, rfl, _, rfl, _, rfl, po, _, _, _, rfl, rfl, SqL.of h1, atI_nat (v := vN qd) (by rw [List.getElem?_map, hq]; rfl), a, R, k, qd, rfl, g.seq hA, hR.k16, hR.at hqN, fun pr hpr => ?_⟩
    have npo : po ≠ pr := ne_of_none h1 hpr
    have nsp : ps ≠ pr := ne_of_none h2 hpr
    have hrl : (rowA k R qd).length ≤ 16 := Nat.le_trans (row_len k R qd) hR.k16
    refine ⟨pr, rfl, ⟨_, SqL.of upd_same⟩, for_list (xs := (rowA k R qd).map vN) (fun j σ' H2 => (∃ x, σ' = [some (.int k), some (.ref a), some (.ref po), some (.ref ps), some (.int d), x]) ∧
      H2 po = some (.lst ((ext l ((rowA k R qd).take j)).map vN)) ∧ H2 ps = some (.dK (seenD (ext l ((rowA k R qd).take j)))) ∧ H2 pr = some (.lst ((rowA k R qd).map vN)) ∧ Same H H2)
      ⟨⟨_, rfl⟩, by rw [upd_ne npo]; exact h1, by rw [upd_ne nsp]; exact h2, upd_same, g.trans (Same.new hpr _)⟩ (fun j σ' H2 _ p => SqL.of p.2.2.2.1) ?_ ?_⟩
    · rintro j x' σ' H2 hx ⟨⟨y, rfl⟩, e1, e2, e3, e4⟩
      obtain ⟨t, ht, rfl⟩ := of_map_get hx
      have hle : (ext l ((rowA k R qd).take j)).length ≤ 80 := by
        have := dd_len ((rowA k R qd).take j) l
        rw [List.length_take] at this
        have := hR.n64
        omega
      have es : ext l ((rowA k R qd).take (j + 1)) = push (ext l ((rowA k R qd).take j)) t := by rw [(cut_at ht).2, ext_snoc]
      refine ⟨_, rfl, _, rfl, ps, _, rfl, DGet.k (k := kN t) e2, _, rfl, ?_⟩
      rw [seen_get]
      refine ite2 (fun c2 => ?_) (fun c2 => ?_)
      · have hn : t ∉ ext l ((rowA k R qd).take j) := by simpa using c2
        refine ⟨_, rfl, _, rfl, ps, _, rfl, DPut.k (k := kN t) e2 ?_, ?_⟩
        · unfold seenD; rw [List.length_map]; exact small1000 (by omega)
        refine ⟨_, rfl, .inl ⟨rfl, _, SqL.of (by rw [upd_ne nps]; exact e1)⟩, _, rfl, po, _, _, rfl, rfl, (by rw [upd_ne nps]; exact e1), ?_, ⟨_, rfl⟩, ?_, ?_, ?_, ?_⟩
        · rw [List.length_map]; exact small1000 (by omega)
        · rw [upd_same, es, push_out hn, List.map_append]; rfl
        · rw [upd_ne nps.symm, upd_same, seen_put hn, es, push_out hn]
        · rw [upd_ne npo.symm, upd_ne nsp.symm]; exact e3
        · exact (e4.put hps' _).put hpo _
      · have hn : t ∈ ext l ((rowA k R qd).take j) := by simpa using c2
        refine ⟨⟨_, rfl⟩, ?_, ?_, e3, e4⟩
        · rw [es, push_in hn]; exact e1
        · rw [es, push_in hn]; exact e2
    · rintro σ' H2 ⟨⟨y, rfl⟩, e1, e2, e3, e4⟩
      rw [List.length_map, List.take_length] at e1 e2
      refine ⟨_, rfl, _, _, rfl, rfl, ?_⟩
      exact ⟨_, _, rfl, e1, e2, e4, hre.step hq⟩
  · have c' : ¬ (d : Int) < (((l.map vN).length : Nat) : Int) := of_decide_eq_false (Bool.eq_false_iff.mpr c)
    rw [List.length_map] at c'
    have hd : d = l.length := by have := ok.le; omega
    subst hd
    exact ⟨_, rfl, q po H' l hpo g h1 hre⟩
/-! ### alike_states -/
def tkOf (T : List Nat) (s : Nat) : Nat := T.getD s 0
def spAlike (K : PySem.W.Frag) : Sp := fun vs H Q _ => ∃ (a b o : Addr) (k N : Nat) (R T L : List Nat), vs = [.int k, .ref a, .ref b, .ref o] ∧ Rows k N R ∧ SqL K H a (R.map vN) ∧ SqL K H b (T.map vN) ∧ T.length = N ∧ SqL K H o (L.map vN) ∧ L.Nodup ∧ (∀ s ∈ L, s < N) ∧ L.length ≤ 64 ∧
  Closed (rowA k R) L ∧ ∀ p H' g, H p = none → Same H H' → H' p = some (.dK (gd L g)) → Done (rowA k R) (tkOf T) L g → (∀ s ∈ L, num g L s = g s) → Q (.ref p) H'
theorem scAlike : FnScope ["k", "rows", "takes", "order", "groups", "finer"] ["k", "rows", "takes", "order"] (defScope sAlike) := ⟨rfl, rfl, rfl, by decide +kernel, rfl, by decide +kernel, by decide +kernel⟩
theorem ok_alike {f fT fS : Addr} {fd fdT fdS : FuncData} (F : Fun K "alike_states" "alike_states" sAlike f fd)
    (GT : FnOk P w K mg base CX0 1 fT fdT ["order", "marks"] (spNumT K)) (bT : Binds K fdT ["order", "marks"] []) (kT : PySem.W.keepIn K (.ref fT) = true) (mT : mg "number_marks" = some (.ref fT))
    (GS : FnOk P w K mg base CX0 2 fS fdS ["k", "rows", "order", "groups"] (spSplit K)) (bS : Binds K fdS ["k", "rows", "order", "groups"] []) (kS : PySem.W.keepIn K (.ref fS) = true) (mS : mg "split_groups" = some (.ref fS)) :
    FnOk P w K mg base CX0 3 f fd ["k", "rows", "takes", "order"] (spAlike K) := by
  refine F.ok scAlike (fun vs H Q E h => ?_) (fun cdv A outer s H vs Q E hr h => ?_)
  · obtain ⟨a, b, o, k, N, R, T, L, rfl, _⟩ := h
    rfl
  obtain ⟨a, b, o, k, N, R, T, L, rfl, hR, hA, hB, hTN, hS, hN, hlt, h64, hC, q⟩ := h
  have hu := hu_of hr
  have hr1 := hr.mono (j := 1) (by decide)
  refine ⟨_, pss_cons (ps_set (i := 4) scAlike.nd rfl (Or.inl rfl) (pe_call GT hr1 rfl mT kT bT .nil pass0 (pa_cons (pv 3) (pa_cons (pv 2) pa_nil))))
    (pss_cons (ps_set (i := 5) scAlike.nd rfl (Or.inl rfl) (pe_call GS hr rfl mS kS bS .nil pass0 (pa_cons (pv 0) (pa_cons (pv 1) (pa_cons (pv 3) (pa_cons (pv 4) pa_nil))))))
    (pss_cons (ps_while PassesOwn.never (pt_cmpR (op_neDict hr.units0) (pv 5) (pv 4) (nomark _))
      (pss_cons (ps_set (i := 4) scAlike.nd rfl (Or.inl rfl) (pv 5))
      (pss_one (ps_set (i := 5) scAlike.nd rfl (Or.inl rfl) (pe_call GS hr rfl mS kS bS .nil pass0 (pa_cons (pv 0) (pa_cons (pv 1) (pa_cons (pv 3) (pa_cons (pv 4) pa_nil)))))))))
    (pss_one (ps_ret (pv 4))))), ?_⟩
  have free : ∀ {H1 : Hp} {p : Addr}, Same H H1 → H1 p = none → H p = none := fun g h => g.free h
  refine ⟨_, rfl, _, rfl, o, b, L, T, rfl, hS, hN, h64, hB, fun s hs => by rw [hTN]; exact hlt s hs, fun pg H1 hpg g1 e1 => ?_⟩
  refine ⟨_, rfl, _, rfl, _, rfl, _, rfl, a, o, pg, k, N, R, L, _, rfl, hR, g1.seq hA, g1.seq hS, hN, hlt, h64, hC, e1, fun pf H2 hpf g2 e2 => ?_⟩
  refine ⟨fun m σ H' => ∃ (p1 p2 : Addr) (g : Nat → Nat), σ = [some (.int k), some (.ref a), some (.ref b), some (.ref o), some (.ref p1), some (.ref p2)] ∧ m = 64 - cnt g L ∧ H p1 = none ∧ H p2 = none ∧ H' p1 = some (.dK (gd L g)) ∧ H' p2 = some (.dK (gd L (num (sgk k R g) L))) ∧
      Same H H' ∧ Fine (rowA k R) (tkOf T) L g ∧ (∀ s ∈ L, num g L s = g s),
    ⟨_, pg, pf, _, rfl, rfl, hpg, free g1 hpf, g2 _ _ e1, e2, g1.trans g2, fine_takes (tk' := fun s => T.getD s 0) (fun s _ t _ => Iff.rfl), fun s hs => num_canon _ _ hs⟩, ?_⟩
  rintro m σ H' ⟨p1, p2, g, rfl, rfl, hp1, hp2, h1, h2, gs, hF, hcan⟩
  have hall : ∀ p ∈ gd L (num (sgk k R g) L), ∃ i j, p.2 = V.int i ∧ valV (gd L g) p.1 = some (V.int j) := by
    intro p hp
    obtain ⟨s, hs, rfl⟩ := List.mem_map.mp hp
    exact ⟨_, _, rfl, gd_val hs⟩
  have hiff : (∀ p ∈ gd L (num (sgk k R g) L), valV (gd L g) p.1 = some p.2) ↔ ∀ s ∈ L, num (sgk k R g) L s = g s := by
    constructor
    · intro h s hs
      have := h (kN s, vN (num (sgk k R g) L s)) (List.mem_map.mpr ⟨s, hs, rfl⟩)
      rw [show valV (gd L g) (kN s) = some (vN (g s)) from gd_val hs] at this
      have := Option.some.inj this
      injection this with this
      omega
    · intro h p hp
      obtain ⟨s, hs, rfl⟩ := List.mem_map.mp hp
      rw [show valV (gd L g) (kN s) = some (vN (g s)) from gd_val hs, h s hs]
  refine ⟨_, rfl, _, rfl, p2, p1, _, _, rfl, rfl, h2, h1, by rw [gd_len, gd_len], hall, _, rfl, ?_⟩
  refine ite2 (fun c => ?_) (fun c => ?_)
  · have c' : ¬ ∀ s ∈ L, num (sgk k R g) L s = g s := fun z => by
      rw [decide_eq_true (hiff.mpr z)] at c
      cases c
    have more := more_of_other (sig_sgk k R g L) hcan c'
    have le := cnt_le (num (sgk k R g) L) L
    refine ⟨fun σ' H2 => ∃ (p2' : Addr), σ' = [some (.int k), some (.ref a), some (.ref b), some (.ref o), some (.ref p2), some (.ref p2')] ∧ H p2' = none ∧ H2 p2 = some (.dK (gd L (num (sgk k R g) L))) ∧ H2 p2' = some (.dK (gd L (num (sgk k R (num (sgk k R g) L)) L))) ∧ Same H H2, ?_, ?_⟩
    · rintro σ' H2 ⟨p2', rfl, k1, k2, k3, k4⟩
      exact ⟨_, by omega, p2, p2', _, rfl, rfl, hp2, k1, k2, k3, k4, fine_step hC hF (sig_sgk k R g L), fun s hs => num_canon _ _ hs⟩
    refine ⟨_, rfl, _, rfl, _, rfl, _, rfl, _, rfl, a, o, p2, k, N, R, L, _, rfl, hR, gs.seq hA, gs.seq hS, hN, hlt, h64, hC, h2, fun pf' H3 hpf' g3 e3 => ?_⟩
    exact ⟨pf', rfl, free gs hpf', g3 _ _ h2, e3, gs.trans g3⟩
  · have c' : ∀ s ∈ L, num (sgk k R g) L s = g s := hiff.mp (by
      have : (!decide (∀ p ∈ gd L (num (sgk k R g) L), valV (gd L g) p.1 = some p.2)) = false := Bool.eq_false_iff.mpr c
      simpa using this)
    exact ⟨_, rfl, q p1 H' g hp1 gs h1 (done_of_same hF (sig_sgk k R g L) c') hcan⟩
end
end Lp
set_option maxRecDepth 100000
set_option maxHeartbeats 4000000
namespace Lp
open PySem L2 Lm
section
variable {P : Program} {w : World} {K : PySem.W.Frag} {mg : Str → Option Value} {base : Heap}
/-! ### joined_machine -/
def rowsOf (k : Nat) (R : List Nat) (g : Nat → Nat) (Ps : List Nat) : List Nat := Ps.flatMap fun p => (rowA k R p).map g
theorem rowsOf_len {k : Nat} {R : List Nat} {g : Nat → Nat} (hk : k ≤ 16) : ∀ Ps : List Nat, (rowsOf k R g Ps).length ≤ 16 * Ps.length
  | [] => Nat.zero_le _
  | p :: Ps => by
    have h1 := rowsOf_len hk (R := R) (g := g) Ps
    have h2 := row_len k R p
    show (((rowA k R p).map g) ++ rowsOf k R g Ps).length ≤ 16 * (Ps.length + 1)
    rw [List.length_append, List.length_map]
    omega
theorem reps_len64 {g : Nat → Nat} {L : List Nat} (h : L.length ≤ 64) (i : Nat) : (reps g (L.take i)).length ≤ 64 := by
  rw [← cnt_reps]
  have := cnt_le g (L.take i)
  rw [List.length_take] at this
  omega
def spJoin (K : PySem.W.Frag) : Sp := fun vs H Q _ => ∃ (a b o gr : Addr) (k N : Nat) (R T L : List Nat) (g : Nat → Nat), vs = [.int k, .ref a, .ref b, .ref o, .ref gr] ∧ Rows k N R ∧ SqL K H a (R.map vN) ∧ SqL K H b (T.map vN) ∧ T.length = N ∧ SqL K H o (L.map vN) ∧ (∀ s ∈ L, s < N) ∧ L.length ≤ 64 ∧
  Closed (rowA k R) L ∧ H gr = some (.dK (gd L g)) ∧ (∀ s ∈ L, num g L s = g s) ∧ ∀ p H', Same H H' → H' p = some (.lst ((told (rowA k R) (tkOf T) g L).map vN)) → Q (.ref p) H'
theorem scJoin : FnScope ["k", "rows", "takes", "order", "groups", "new_rows", "new_takes", "state", "there"] ["k", "rows", "takes", "order", "groups"] (defScope sJoin) := ⟨rfl, rfl, rfl, by decide +kernel, rfl, by decide +kernel, by decide +kernel⟩
theorem ok_join {f fR : Addr} {fd fdR : FuncData} (F : Fun K "joined_machine" "joined_machine" sJoin f fd)
    (GR : FnOk P w K mg base CX0 1 fR fdR ["k", "rows", "state"] (spRow K)) (bR : Binds K fdR ["k", "rows", "state"] []) (kR : PySem.W.keepIn K (.ref fR) = true) (mR : mg "row_of" = some (.ref fR)) (ml : mg "len" = none) :
    FnOk P w K mg base CX0 2 f fd ["k", "rows", "takes", "order", "groups"] (spJoin K) := by
  refine F.ok scJoin (fun vs H Q E h => ?_) (fun cdv A outer s H vs Q E hr h => ?_)
  · obtain ⟨a, b, o, gr, k, N, R, T, L, g, rfl, _⟩ := h
    rfl
  obtain ⟨a, b, o, gr, k, N, R, T, L, g, rfl, hR, hA, hB, hTN, hS, hlt, h64, hC, hG, hcan, q⟩ := h
  have hu := hu_of hr
  refine ⟨_, pss_cons (ps_set (i := 5) scJoin.nd rfl (Or.inl rfl) (pe_lst pa_nil))
    (pss_cons (ps_set (i := 6) scJoin.nd rfl (Or.inl rfl) (pe_lst pa_nil))
    (pss_cons (ps_for PassesOwn.never rfl (pi_list (pv 3)) (pg_name (i := 7) scJoin.nd rfl (Or.inl rfl))
      (pss_one (ps_if (pt_cmpR op_eq (pe_dget hu (pv 4) (pv 7) (fun _ _ => rfl)) (pe_callB call_len_seq (by rfl) ml PySem.boot_len (pa_cons (pv 6) pa_nil)) (nomark _))
        (pss_cons (ps_expr (pe_bm PySem.F.plainAttrs_list PySem.F.slot_list_extend PySem.F.type_list_extend mt_extend (pv 5)
            (pa_cons (pe_lc (own := [("there", 8)]) rfl scJoin.nd (pi_list (pe_call GR hr rfl mR kR bR .nil pass0 (pa_cons (pv 0) (pa_cons (pv 1) (pa_cons (pv 7) pa_nil)))))
              (blkOk_by (N := ["k", "rows", "takes", "order", "groups", "new_rows", "new_takes", "state", "there"]) (sc := defScope sJoin) (by decide +kernel)) (fun s H C cl fp => pg_name (i := 8) scJoin.nd rfl (Or.inl rfl)) (fun s H C cl fp => pts_nil) (fun s H C cl fp => pe_dget hu (pv 4) (pv 8) (fun _ _ => rfl))) pa_nil)))
        (pss_one (ps_expr (pe_bm PySem.F.plainAttrs_list PySem.F.slot_list_append PySem.F.type_list_append mt_append (pv 6) (pa_cons (pe_ix ix_list (pv 2) (pv 7) (fun _ _ => rfl)) pa_nil)))))
        pss_nil)))
    (pss_one (ps_ret (pe_op op_cat (pe_op op_cat (pe_lst (pa_cons (pe_callB call_len_seq (by rfl) ml PySem.boot_len (pa_cons (pv 6) pa_nil)) pa_nil)) (pv 5)) (pv 6)))))), ?_⟩
  refine ⟨(by show 0 ≤ sizeLine; decide), fun pr hpr => ?_⟩
  refine ⟨(by show 0 ≤ sizeLine; decide), fun pt hpt => ?_⟩
  have npt : pr ≠ pt := fun e => by subst e; rw [upd_same] at hpt; cases hpt
  have hpt' : H pt = none := by rw [upd_ne npt.symm] at hpt; exact hpt
  have g0 : Same H (upd (upd H pr (.lst [])) pt (.lst [])) := (Same.new hpr _).put hpt' _
  refine ⟨_, rfl, o, rfl, ⟨_, g0.seq hS⟩, for_list (xs := L.map vN) (fun i σ H' => (∃ x, σ = [some (.int k), some (.ref a), some (.ref b), some (.ref o), some (.ref gr), some (.ref pr), some (.ref pt), x, none]) ∧
    H' pr = some (.lst ((rowsOf k R g (reps g (L.take i))).map vN)) ∧ H' pt = some (.lst ((reps g (L.take i)).map fun p => vN (tkOf T p))) ∧ Same H H')
    ⟨⟨_, rfl⟩, by rw [upd_ne npt, upd_same]; rfl, by rw [upd_same]; rfl, g0⟩ (fun i σ H' _ p => p.2.2.2.seq hS) ?_ ?_⟩
  · rintro i x σ H' hx ⟨⟨y, rfl⟩, h1, h2, gs⟩
    obtain ⟨z, hz, rfl⟩ := of_map_get hx
    have hzm : z ∈ L := List.mem_of_getElem? hz
    have hG' := gs _ _ hG
    have hle := reps_len64 (g := g) h64 i
    have en : g z = if g z ∈ dd ((L.take i).map g) then (dd ((L.take i).map g)).idxOf (g z) else (dd ((L.take i).map g)).length := by
      conv => lhs; rw [← hcan z hzm, (cut_at hz).1]
      exact num_at
    have ern : reps g (L.take (i + 1)) = repP g (reps g (L.take i)) z := by rw [(cut_at hz).2, reps_snoc]
    have el : (dd ((L.take i).map g)).length = (reps g (L.take i)).length := cnt_reps g (L.take i)
    refine ⟨_, rfl, _, rfl, gr, _, rfl, DGet.gd hG' hzm, _, rfl, pt, _, rfl, .inl (SqL.of h2), rfl, _, rfl, ?_⟩
    refine ite2 (fun c => ?_) (fun c => ?_)
    · have c' : vN (g z) = V.int ((((reps g (L.take i)).map fun p => vN (tkOf T p)).length : Nat) : Int) := of_decide_eq_true c
      rw [List.length_map] at c'
      have c2 : g z = (reps g (L.take i)).length := by injection c' with c'; omega
      have hnew : g z ∉ (reps g (L.take i)).map g := by
        intro hin
        rw [reps_map] at hin
        rw [if_pos hin] at en
        have := List.idxOf_lt_length_iff.mpr hin
        omega
      have er2 : reps g (L.take (i + 1)) = reps g (L.take i) ++ [z] := by rw [ern]; unfold repP; rw [if_neg hnew]
      -- new_rows.extend([..])
      refine ⟨_, rfl, .inl ⟨rfl, _, SqL.of h1⟩, _, rfl, _, rfl, _, rfl, a, R, k, z, rfl, gs.seq hA, hR.k16, hR.at (hlt z hzm), fun pw hpw => ?_⟩
      refine ⟨pw, rfl, ⟨_, SqL.of upd_same⟩, fun D hD => ?_⟩
      have hDw : D ≠ pw := fun e => by subst e; rw [upd_same] at hD; cases hD
      have hD' : H' D = none := by rw [upd_ne hDw] at hD; exact hD
      have gD : Same H' (upd (upd H' pw (.lst ((rowA k R z).map vN))) D (.lst [])) := (Same.new hpw _).put hD' _
      refine lc_list (xs := (rowA k R z).map vN) (fun j H2 => H2 D = some (.lst (((rowA k R z).take j).map fun x => vN (g x))) ∧ H2 pw = some (.lst ((rowA k R z).map vN)) ∧ Same H' H2)
        ⟨by rw [upd_same]; rfl, by rw [upd_ne hDw.symm, upd_same], gD⟩ (fun j H2 _ p => SqL.of p.2.1) ?_ ?_
      · rintro j x H2 hx2 ⟨e1, e2, e3⟩
        obtain ⟨t, ht, rfl⟩ := of_map_get hx2
        have htm : t ∈ L := hC z hzm t (List.mem_of_getElem? ht)
        refine ⟨rfl, ?_⟩
        unfold tYes
        refine iteT ?_
        refine ⟨_, rfl, _, rfl, gr, _, rfl, DGet.gd (e3 _ _ hG') htm, _, e1, ?_, ?_, ?_, ?_⟩
        · rw [List.length_map, List.length_take]
          exact Nat.lt_of_le_of_lt (Nat.le_trans (Nat.min_le_right _ _) (Nat.le_trans (row_len k R z) hR.k16)) (by decide)
        · rw [upd_same, take_map_succ ht fun x => vN (g x)]
        · rw [upd_ne hDw.symm]; exact e2
        · exact e3.put hD' _
      · rintro H2 ⟨e1, e2, e3⟩
        rw [List.length_map, List.take_length] at e1
        have hz16 := row_len k R z
        have hk16 := hR.k16
        have hrl := rowsOf_len (R := R) (g := g) hR.k16 (reps g (L.take i))
        refine ⟨pr, D, _, _, rfl, rfl, e3 _ _ h1, e1, ?_, ?_⟩
        · rw [List.length_map, List.length_map]; exact big (by omega)
        have h2' : (upd H2 pr (.lst ((rowsOf k R g (reps g (L.take i))).map vN ++ (rowA k R z).map fun x => vN (g x)))) pt = some (.lst ((reps g (L.take i)).map fun p => vN (tkOf T p))) := by rw [upd_ne npt.symm]; exact e3 _ _ h2
        have g5 : Same H (upd H2 pr (.lst ((rowsOf k R g (reps g (L.take i))).map vN ++ (rowA k R z).map fun x => vN (g x)))) := (gs.trans e3).put hpr _
        -- new_takes.append(takes[state])
        refine ⟨_, rfl, .inl ⟨rfl, _, SqL.of h2'⟩, _, rfl, _, rfl, b, _, _, _, rfl, rfl, g5.seq hB, getD_at (by rw [hTN]; exact hlt z hzm), pt, _, _, rfl, rfl, h2', ?_, ⟨_, rfl⟩, ?_, ?_, ?_⟩
        · rw [List.length_map]; exact small1000 (by omega)
        · rw [upd_ne npt, upd_same, er2]
          unfold rowsOf
          rw [List.flatMap_append, List.map_append]
          simp [List.map_map, Function.comp_def]
        · rw [upd_same, er2, List.map_append]; rfl
        · exact g5.put hpt' _
    · have c' : ¬ vN (g z) = V.int ((((reps g (L.take i)).map fun p => vN (tkOf T p)).length : Nat) : Int) := of_decide_eq_false (Bool.eq_false_iff.mpr c)
      rw [List.length_map] at c'
      have hin : g z ∈ (reps g (L.take i)).map g := by
        rw [reps_map]
        by_cases hin : g z ∈ dd ((L.take i).map g)
        · exact hin
        · rw [if_neg hin, el] at en
          exact absurd (by rw [← en]) c'
      have er2 : reps g (L.take (i + 1)) = reps g (L.take i) := by rw [ern]; unfold repP; rw [if_pos hin]
      exact ⟨⟨_, rfl⟩, by rw [er2]; exact h1, by rw [er2]; exact h2, gs⟩
  · rintro σ H' ⟨⟨y, rfl⟩, h1, h2, gs⟩
    have hle := reps_len64 (g := g) h64 (L.map vN).length
    rw [List.length_map, List.take_length] at h1 h2 hle
    have hrl := rowsOf_len (R := R) (g := g) hR.k16 (reps g L)
    refine ⟨_, rfl, pt, _, rfl, .inl (SqL.of h2), (by show 1 ≤ sizeLine; decide), fun p1 hp1 => ?_⟩
    have n1 : pr ≠ p1 := ne_of_none h1 hp1
    have n2 : pt ≠ p1 := ne_of_none h2 hp1
    refine ⟨_, rfl, p1, pr, _, _, rfl, rfl, upd_same, (by rw [upd_ne n1]; exact h1), ?_, fun p2 hp2 => ?_⟩
    · simp only [List.length_map, List.length_singleton]; exact big (by omega)
    have h2b : (upd H' p1 (.lst [V.int ((((reps g L).map fun p => vN (tkOf T p)).length : Nat) : Int)])) pt = some (.lst ((reps g L).map fun p => vN (tkOf T p))) := by rw [upd_ne n2]; exact h2
    have n3 : pt ≠ p2 := ne_of_none h2b hp2
    refine ⟨_, rfl, p2, pt, _, _, rfl, rfl, upd_same, (by rw [upd_ne n3]; exact h2b), ?_, fun p3 hp3 => ?_⟩
    · simp only [List.length_append, List.length_map, List.length_singleton]; exact big (by omega)
    refine q p3 _ ?_ ?_
    · refine gs.trans (((Same.new hp1 _).trans (Same.new hp2 _)).trans (Same.new hp3 _))
    · rw [upd_same]
      unfold told rowsOf
      rw [List.length_map]
      simp [List.map_map, Function.comp_def]
/-! ### least, of a machine -/
theorem vN_ints (R : List Nat) : R.map vN = (R.map fun (x : Nat) => (x : Int)).map V.int := by rw [List.map_map]; rfl
theorem cast_inj {l m : List Nat} : (l.map fun (x : Nat) => (x : Int)) = (m.map fun (x : Nat) => (x : Int)) ↔ l = m :=
  ⟨fun h => List.map_inj_right (fun _ _ e => Int.ofNat.inj e) |>.mp h, fun h => by rw [h]⟩
theorem okM_of {k n : Nat} {R T : List Nat} (hR : Rows k n R) (hT : ∀ t ∈ T, t ≤ 1) : okM (n : Int) (R.map fun (x : Nat) => (x : Int)) (T.map fun (x : Nat) => (x : Int)) = true := by
  unfold okM
  rw [Bool.and_eq_true, List.all_eq_true, List.all_eq_true]
  refine ⟨fun z hz => ?_, fun z hz => ?_⟩
  · obtain ⟨x, hx, rfl⟩ := List.mem_map.mp hz
    have := hR.lt x hx
    unfold okS
    simp only [Bool.and_eq_true, decide_eq_true_eq]
    omega
  · obtain ⟨x, hx, rfl⟩ := List.mem_map.mp hz
    have := hT x hx
    unfold okT
    simp only [Bool.or_eq_true, decide_eq_true_eq]
    omega
def spLeastM (K : PySem.W.Frag) : Sp := fun vs H Q _ => ∃ (a b : Addr) (k n : Nat) (R T : List Nat), vs = [.int k, .int n, .ref a, .ref b] ∧ SqL K H a (R.map vN) ∧ SqL K H b (T.map vN) ∧ Rows k n R ∧ T.length = n ∧ (∀ t ∈ T, t ≤ 1) ∧
  ∀ p H' l g, Same H H' → Reach (rowA k R) l.length l → Done (rowA k R) (tkOf T) l g → (∀ s ∈ l, num g l s = g s) → H' p = some (.lst ((told (rowA k R) (tkOf T) g l).map vN)) → Q (.ref p) H'
theorem scLeast : FnScope ["k", "n", "rows", "takes", "order", "groups"] ["k", "n", "rows", "takes"] (defScope sLeast) := ⟨rfl, rfl, rfl, by decide +kernel, rfl, by decide +kernel, by decide +kernel⟩
theorem nats_V {l : List Int} (h : ∀ x ∈ l, 0 ≤ x) : l.map V.int = (natsOf l).map vN := by
  unfold natsOf
  rw [List.map_map]
  refine List.map_congr_left fun x hx => ?_
  show V.int x = V.int ((x.toNat : Nat) : Int)
  rw [Int.toNat_of_nonneg (h x hx)]
theorem ok_leastM {f fI fE fA fJ : Addr} {fd fdI fdE fdA fdJ : FuncData} {t1 t2 t3 t4 : Tok} (F : Fun K "least" "least" sLeast f fd)
    (m1 : mg "OUT_OF_RANGE" = some (.int (-2) t1)) (m2 : mg "NO_MACHINE" = some (.int (-3) t2)) (m3 : mg "MOST_LETTERS" = some (.int 16 t3)) (m4 : mg "MOST_STATES" = some (.int 64 t4))
    (GI : FnOk P w K mg base CX0 1 fI fdI ["n", "rows", "takes"] (spIs K)) (bI : Binds K fdI ["n", "rows", "takes"] []) (kI : PySem.W.keepIn K (.ref fI) = true) (mI : mg "is_machine" = some (.ref fI))
    (GE : FnOk P w K mg base CX0 2 fE fdE ["k", "rows"] (spReach K)) (bE : Binds K fdE ["k", "rows"] []) (kE : PySem.W.keepIn K (.ref fE) = true) (mE : mg "reached_states" = some (.ref fE))
    (GA : FnOk P w K mg base CX0 3 fA fdA ["k", "rows", "takes", "order"] (spAlike K)) (bA : Binds K fdA ["k", "rows", "takes", "order"] []) (kA : PySem.W.keepIn K (.ref fA) = true) (mA : mg "alike_states" = some (.ref fA))
    (GJ : FnOk P w K mg base CX0 2 fJ fdJ ["k", "rows", "takes", "order", "groups"] (spJoin K)) (bJ : Binds K fdJ ["k", "rows", "takes", "order", "groups"] []) (kJ : PySem.W.keepIn K (.ref fJ) = true) (mJ : mg "joined_machine" = some (.ref fJ)) :
    FnOk P w K mg base CX0 4 f fd ["k", "n", "rows", "takes"] (spLeastM K) := by
  refine F.ok scLeast (fun vs H Q E h => ?_) (fun cdv A outer s H vs Q E hr h => ?_)
  · obtain ⟨a, b, k, n, R, T, rfl, _⟩ := h
    rfl
  obtain ⟨a, b, k, n, R, T, rfl, hA, hB, hR, hTN, hT, q⟩ := h
  have hr1 := hr.mono (j := 1) (by decide)
  have hr2 := hr.mono (j := 2) (by decide)
  refine ⟨_, pss_cons (ps_if (pt_not (PW.pt (pw_and (pt_chain op_le op_le pe_int (pv 0) (pe_glob (v := .int 16) rfl m3 ⟨_, rfl⟩)) (pw_and1 (pt_chain op_le op_le pe_int (pv 1) (pe_glob (v := .int 64) rfl m4 ⟨_, rfl⟩))))))
      (pss_one (ps_ret (pe_lst (pa_cons (pe_glob (v := .int (-2)) rfl m1 ⟨_, rfl⟩) pa_nil)))) pss_nil)
    (pss_cons (ps_if (pt_not (pt_val (pe_call GI hr1 rfl mI kI bI .nil pass0 (pa_cons (pv 1) (pa_cons (pv 2) (pa_cons (pv 3) pa_nil)))))) (pss_one (ps_ret (pe_lst (pa_cons (pe_glob (v := .int (-3)) rfl m2 ⟨_, rfl⟩) pa_nil)))) pss_nil)
    (pss_cons (ps_set (i := 4) scLeast.nd rfl (Or.inl rfl) (pe_call GE hr2 rfl mE kE bE .nil pass0 (pa_cons (pv 0) (pa_cons (pv 2) pa_nil))))
    (pss_cons (ps_set (i := 5) scLeast.nd rfl (Or.inl rfl) (pe_call GA hr rfl mA kA bA .nil pass0 (pa_cons (pv 0) (pa_cons (pv 2) (pa_cons (pv 3) (pa_cons (pv 4) pa_nil))))))
    (pss_one (ps_ret (pe_call GJ hr2 rfl mJ kJ bJ .nil pass0 (pa_cons (pv 0) (pa_cons (pv 2) (pa_cons (pv 3) (pa_cons (pv 4) (pa_cons (pv 5) pa_nil)))))))))))
    , ?_⟩
  have k1 := hR.k1
  have k16 := hR.k16
  have n1 := hR.n1
  have n64 := hR.n64
  refine ⟨_, rfl, _, _, rfl, rfl, _, rfl, ite2 (fun _ => ?_) (fun c => absurd (decide_eq_true (by omega)) c)⟩
  refine ⟨_, _, rfl, rfl, _, rfl, ite2 (fun _ => ?_) (fun c => absurd (decide_eq_true (by omega)) c)⟩
  refine ⟨_, rfl, _, _, rfl, rfl, _, rfl, ite2 (fun _ => ?_) (fun c => absurd (decide_eq_true (by omega)) c)⟩
  refine ⟨_, _, rfl, rfl, _, rfl, ite2 (fun c => ?_) (fun _ => ?_)⟩
  · exact absurd (by simpa using c : ¬ (n : Int) ≤ 64) (by omega)
  refine ⟨_, rfl, _, rfl, _, rfl, a, b, _, R.map fun (x : Nat) => (x : Int), T.map fun (x : Nat) => (x : Int), rfl, (by rw [← vN_ints]; exact hA), (by rw [← vN_ints]; exact hB), fun H1 g1 => ⟨_, rfl, ite2 (fun c => ?_) (fun _ => ?_)⟩⟩
  · have : okM (n : Int) (R.map fun (x : Nat) => (x : Int)) (T.map fun (x : Nat) => (x : Int)) = false := by simpa using c
    rw [okM_of hR hT] at this
    cases this
  refine ⟨_, rfl, _, rfl, a, k, n, R, rfl, hR, g1.seq hA, fun po H2 l hpo g2 e2 hre => ?_⟩
  have ok := hre.ok (N := n) hR.n1 fun s _ => hR.row_lt s
  have few := ok.few
  have g12 := g1.trans g2
  refine ⟨_, rfl, _, rfl, _, rfl, _, rfl, a, b, po, k, n, R, T, l, rfl, hR, g12.seq hA, g12.seq hB, hTN, SqL.of e2, ok.nd, ok.lt, by omega, ok.closed, fun pg H3 g hpg g3 e3 hD hcan => ?_⟩
  have g13 := g12.trans g3
  exact ⟨_, rfl, _, rfl, _, rfl, _, rfl, _, rfl, a, b, po, pg, k, n, R, T, l, g, rfl, hR, g13.seq hA, g13.seq hB, hTN, SqL.of (g3 _ _ e2), ok.lt, by omega, ok.closed, e3, hcan, fun p H4 g4 e4 => q p H4 l g (g13.trans g4) hre hD hcan e4⟩
/-! ### is_least -/
def spIsL (K : PySem.W.Frag) : Sp := fun vs H Q _ => ∃ (a b : Addr) (k n : Nat) (R T : List Nat), vs = [.int k, .int n, .ref a, .ref b] ∧ SqL K H a (R.map vN) ∧ SqL K H b (T.map vN) ∧ Rows k n R ∧ T.length = n ∧ (∀ t ∈ T, t ≤ 1) ∧
  ∀ H' l g, Same H H' → Reach (rowA k R) l.length l → Done (rowA k R) (tkOf T) l g → (∀ s ∈ l, num g l s = g s) → Q (.bl (decide (told (rowA k R) (tkOf T) g l = n :: (R ++ T)))) H'
theorem scIsL : FnScope ["k", "n", "rows", "takes"] ["k", "n", "rows", "takes"] (defScope sIsLeast) := ⟨rfl, rfl, rfl, by decide +kernel, rfl, by decide +kernel, by decide +kernel⟩
theorem ok_isL {f fL : Addr} {fd fdL : FuncData} (F : Fun K "is_least" "is_least" sIsLeast f fd)
    (GL : FnOk P w K mg base CX0 4 fL fdL ["k", "n", "rows", "takes"] (spLeastM K)) (bL : Binds K fdL ["k", "n", "rows", "takes"] []) (kL : PySem.W.keepIn K (.ref fL) = true) (mL : mg "least" = some (.ref fL)) :
    FnOk P w K mg base CX0 5 f fd ["k", "n", "rows", "takes"] (spIsL K) := by
  refine F.ok scIsL (fun vs H Q E h => ?_) (fun cdv A outer s H vs Q E hr h => ?_)
  · obtain ⟨a, b, k, n, R, T, rfl, _⟩ := h
    rfl
  obtain ⟨a, b, k, n, R, T, rfl, hA, hB, hR, hTN, hT, q⟩ := h
  refine ⟨_, pss_one (ps_ret (pe_cmpR (op_eqL hr.units) (pe_call GL hr rfl mL kL bL .nil pass0 (pa_cons (pv 0) (pa_cons (pv 1) (pa_cons (pv 2) (pa_cons (pv 3) pa_nil)))))
    (pe_op op_catL (pe_op op_catL (pe_lst (pa_cons (pv 1) pa_nil)) (pv 2)) (pv 3)) (nomark _))), ?_⟩
  refine ⟨_, rfl, _, rfl, _, rfl, _, rfl, a, b, k, n, R, T, rfl, hA, hB, hR, hTN, hT, fun p H1 l g g1 hre hD hcan e1 => ?_⟩
  have hRl := hR.len
  have hkn : k * n ≤ 16 * 64 := Nat.mul_le_mul hR.k16 hR.n64
  have n64 := hR.n64
  refine ⟨_, rfl, (by show 1 ≤ sizeLine; decide), fun p1 hp1 => ?_⟩
  have g2 := g1.trans (Same.new hp1 (.lst [.int (n : Int)]))
  refine ⟨_, rfl, p1, a, _, _, rfl, rfl, SqL.of upd_same, g2.seq hA, ?_, fun p2 hp2 => ?_⟩
  · rw [List.length_map, List.length_singleton, hRl]
    exact Nat.le_of_lt (big (by omega))
  have g3 := g2.trans (Same.new hp2 (.lst ([.int (n : Int)] ++ R.map vN)))
  refine ⟨_, rfl, p2, b, _, _, rfl, rfl, SqL.of upd_same, g3.seq hB, ?_, fun p3 hp3 => ?_⟩
  · rw [List.length_append, List.length_map, List.length_map, List.length_singleton, hRl, hTN]
    exact Nat.le_of_lt (big (by omega))
  have g4 := (Same.new hp1 (.lst [.int (n : Int)])).trans ((Same.new hp2 (.lst ([.int (n : Int)] ++ R.map vN))).trans (Same.new hp3 (.lst (([.int (n : Int)] ++ R.map vN) ++ T.map vN))))
  refine ⟨p, p3, (told (rowA k R) (tkOf T) g l).map fun (x : Nat) => (x : Int), (n :: (R ++ T)).map fun (x : Nat) => (x : Int), rfl, rfl, ?_, ?_, ?_⟩
  · rw [← vN_ints]; exact SqL.of (g4 _ _ e1)
  · rw [← vN_ints]
    refine SqL.of ?_
    rw [upd_same, List.map_cons, List.map_append]
    rfl
  · rw [show decide (((told (rowA k R) (tkOf T) g l).map fun (x : Nat) => (x : Int)) = ((n :: (R ++ T)).map fun (x : Nat) => (x : Int))) = decide (told (rowA k R) (tkOf T) g l = n :: (R ++ T)) from by rw [decide_eq_decide]; exact cast_inj]
    exact q _ l g (g1.trans g4) hre hD hcan
end
end Lp
set_option maxRecDepth 100000
set_option maxHeartbeats 4000000
namespace Lp
open PySem L2 Lm
theorem at_vN {T : List Nat} {s t : Nat} (h : T[s]? = some t) : atI (T.map vN) (s : Int) = some (vN t) := by
  refine atI_nat ?_
  rw [List.getElem?_map, h]; rfl
theorem at_ref {bs : List Addr} {s : Nat} {b : Addr} (h : bs[s]? = some b) : atI (bs.map V.ref) (s : Int) = some (.ref b) := by
  refine atI_nat ?_
  rw [List.getElem?_map, h]; rfl
/-! ### pairs that stand in the heap -/
def PairsAt (H : Hp) (L : List (Nat × Nat)) (bs : List Addr) : Prop := bs.length = L.length ∧ ∀ (i : Nat) (p : Nat × Nat), L[i]? = some p → ∃ b, bs[i]? = some b ∧ H b = some (.tup [vN p.1, vN p.2])
theorem PairsAt.same {H H' : Hp} {L : List (Nat × Nat)} {bs : List Addr} (h : PairsAt H L bs) (g : Same H H') : PairsAt H' L bs :=
  ⟨h.1, fun i p e => let ⟨b, e1, e2⟩ := h.2 i p e; ⟨b, e1, g _ _ e2⟩⟩
theorem PairsAt.upd {H : Hp} {L : List (Nat × Nat)} {bs : List Addr} (h : PairsAt H L bs) {x : Addr} {u o : HO} (hx : H x = some u) (hu : ∀ xs, HO.tup xs ≠ u) : PairsAt (upd H x o) L bs :=
  ⟨h.1, fun i p e => let ⟨b, e1, e2⟩ := h.2 i p e; ⟨b, e1, by rw [upd_ne (ne_of e2 hx (hu _))]; exact e2⟩⟩
theorem PairsAt.snoc {H : Hp} {L : List (Nat × Nat)} {bs : List Addr} (h : PairsAt H L bs) {b : Addr} {p : Nat × Nat} (e : H b = some (.tup [vN p.1, vN p.2])) : PairsAt H (L ++ [p]) (bs ++ [b]) := by
  refine ⟨by simp [h.1], fun i q hq => ?_⟩
  by_cases hi : i < L.length
  · rw [List.getElem?_append_left hi] at hq
    obtain ⟨c, e1, e2⟩ := h.2 i q hq
    exact ⟨c, by rw [List.getElem?_append_left (by rw [h.1]; exact hi)]; exact e1, e2⟩
  · have hl := (List.getElem?_eq_some_iff.mp hq).1
    rw [List.length_append, List.length_singleton] at hl
    have ei : i = L.length := by omega
    subst ei
    rw [List.getElem?_concat_length] at hq
    cases hq
    exact ⟨b, by rw [← h.1, List.getElem?_concat_length], e⟩
def keyP (p : Nat × Nat) : List Key := [kN p.1, kN p.2]
theorem keyP_inj : ∀ a b : Nat × Nat, keyP a = keyP b → a = b := fun a b h => by
  unfold keyP at h
  injection h with h1 h2
  injection h2 with h2 _
  exact Prod.ext (kN_inj h1) (kN_inj h2)
def seenT (l : List (Nat × Nat)) : List (List Key × V) := l.map fun p => (keyP p, V.bl true)
theorem seenT_put {l : List (Nat × Nat)} {p : Nat × Nat} (h : p ∉ l) : putK (seenT l) (keyP p) (.bl true) = seenT (l ++ [p]) := by
  rw [putK_new _ (show valV (seenT l) (keyP p) = none from valV_map_out keyP_inj _ h)]
  unfold seenT
  rw [List.map_append]; rfl
theorem seenT_get {l : List (Nat × Nat)} {p : Nat × Nat} : (valV (seenT l) (keyP p)).isSome = decide (p ∈ l) := by
  by_cases h : p ∈ l
  · rw [show valV (seenT l) (keyP p) = some (.bl true) from valV_map_in keyP_inj _ h, decide_eq_true h]; rfl
  · rw [show valV (seenT l) (keyP p) = none from valV_map_out keyP_inj _ h, decide_eq_false h]; rfl
section
variable {P : Program} {w : World} {K : PySem.W.Frag} {mg : Str → Option Value} {base : Heap}
/-! ### word_back -/
def spBack (K : PySem.W.Frag) : Sp := fun vs H Q _ => ∃ (e c : Addr) (d : Nat) (l : List (List Nat × Nat × Nat)) (E C : List Nat) (wd : List Nat) (p : Nat × Nat), vs = [.int d, .ref e, .ref c] ∧ SqL K H e (E.map vN) ∧ SqL K H c (C.map vN) ∧ Back l E C ∧ l[d]? = some (wd, p) ∧ l.length ≤ 5000 ∧
  ∀ q H', H q = none → Same H H' → H' q = some (.lst (wd.map vN)) → Q (.ref q) H'
theorem scBack : FnScope ["place", "earlier", "letters", "word", "here"] ["place", "earlier", "letters"] (defScope sBack) := ⟨rfl, rfl, rfl, by decide +kernel, rfl, by decide +kernel, by decide +kernel⟩
theorem ok_back {f : Addr} {fd : FuncData} (F : Fun K "word_back" "word_back" sBack f fd) : FnOk P w K mg base CX0 1 f fd ["place", "earlier", "letters"] (spBack K) := by
  refine F.ok scBack (fun vs H Q E h => ?_) (fun cdv A outer s H vs Q E hr h => ?_)
  · obtain ⟨e, c, d, l, E, C, wd, p, rfl, _⟩ := h
    rfl
  obtain ⟨e, c, d, l, E, C, wd, p, rfl, hE, hC, hB, hd, hl, q⟩ := h
  have hdl : d < l.length := (List.getElem?_eq_some_iff.mp hd).1
  refine ⟨_, pss_cons (ps_set (i := 3) scBack.nd rfl (Or.inl rfl) (pe_lst pa_nil))
    (pss_cons (ps_set (i := 4) scBack.nd rfl (Or.inl rfl) (pv 0))
    (pss_cons (ps_while PassesOwn.never (pt_cmpR op_gt (pv 4) pe_int (nomark _))
      (pss_cons (ps_expr (pe_bm PySem.F.plainAttrs_list PySem.F.slot_list_append PySem.F.type_list_append mt_append (pv 3) (pa_cons (pe_ix ix_list (pv 2) (pv 4) (fun _ _ => rfl)) pa_nil)))
      (pss_one (ps_set (i := 4) scBack.nd rfl (Or.inl rfl) (pe_ix ix_list (pv 1) (pv 4) (fun _ _ => rfl))))))
    (pss_cons (ps_expr (pe_bm0 PySem.F.plainAttrs_list PySem.F.slot_list_reverse PySem.F.type_list_reverse mt_reverse (pv 3)))
    (pss_one (ps_ret (pv 3)))))), ?_⟩
  refine ⟨(by show 0 ≤ sizeLine; decide), fun pw hpw => ?_⟩
  refine ⟨_, rfl, ?_⟩
  have g0 : Same H (upd H pw (.lst [])) := Same.new hpw _
  refine ⟨fun m σ H' => ∃ (h : Nat) (u v : List Nat) (b : Nat × Nat), σ = [some (.int d), some (.ref e), some (.ref c), some (.ref pw), some (.int h)] ∧ h = m ∧ H' pw = some (.lst (v.map vN)) ∧ Same H H' ∧ l[h]? = some (u, b) ∧ wd = u ++ v.reverse ∧ v.length + h ≤ d,
    ⟨d, d, wd, [], p, rfl, rfl, upd_same, g0, hd, by simp, by simp⟩, ?_⟩
  rintro m σ H' ⟨h, u, v, b, rfl, rfl, h1, g, hh, ew, hv⟩
  refine ⟨_, rfl, _, _, rfl, rfl, _, rfl, ?_⟩
  refine ite2 (fun c1 => ?_) (fun c1 => ?_)
  · have c' : (0 : Int) < (h : Int) := of_decide_eq_true c1
    have hhl : h < l.length := (List.getElem?_eq_some_iff.mp hh).1
    obtain ⟨e', c2, w', a', b', q1, q2, q3, q4, q5⟩ := hB.back h (by omega) hhl
    rw [hh] at q5
    cases q5
    refine ⟨fun σ' H2 => σ' = [some (.int d), some (.ref e), some (.ref c), some (.ref pw), some (.int e')] ∧ H2 pw = some (.lst ((v ++ [c2]).map vN)) ∧ Same H H2, ?_, ?_⟩
    · rintro σ' H2 ⟨rfl, e1, e2⟩
      exact ⟨e', q3, e', w', v ++ [c2], a', rfl, rfl, e1, e2, q4, by rw [ew]; simp, by rw [List.length_append, List.length_singleton]; omega⟩
    refine ⟨_, rfl, .inl ⟨rfl, _, SqL.of h1⟩, _, rfl, _, rfl, c, _, _, _, rfl, rfl, g.seq hC, at_vN q2, pw, _, _, rfl, rfl, h1, ?_, ?_⟩
    · rw [List.length_map]; exact Nat.lt_of_lt_of_le (show v.length < 5001 by omega) (by decide)
    have g2 : Same H (upd H' pw (.lst (v.map vN ++ [vN c2]))) := g.put hpw _
    refine ⟨_, rfl, _, rfl, e, _, _, _, rfl, rfl, g2.seq hE, at_vN q1, rfl, ?_, g2⟩
    rw [upd_same, List.map_append]; rfl
  · have c' : ¬ (0 : Int) < (h : Int) := of_decide_eq_false (Bool.eq_false_iff.mpr c1)
    have h0 : h = 0 := by omega
    subst h0
    have eu := hB.zero u b hh
    subst eu
    rw [List.nil_append] at ew
    refine ⟨_, rfl, .inl ⟨rfl, _, SqL.of h1⟩, pw, _, rfl, rfl, h1, _, rfl, q pw _ hpw (g.put hpw _) ?_⟩
    rw [upd_same, ew, List.map_reverse]
end
end Lp
set_option maxRecDepth 100000
set_option maxHeartbeats 4000000
namespace Lp
open PySem L2 Lm
theorem at_p0 {u v : V} : atI [u, v] (0 : Int) = some u := atI_nat (j := 0) (v := u) rfl
theorem at_p1 {u v : V} : atI [u, v] (1 : Int) = some v := atI_nat (j := 1) (v := v) rfl
theorem mach_at {k n : Nat} {R T : List Nat} (h : IsMach k n R T) {s : Nat} (hs : s < n) : k * s + k ≤ R.length := by
  rw [h.rl, ← Nat.mul_succ]
  exact Nat.mul_le_mul_left k hs
section
variable {P : Program} {w : World} {K : PySem.W.Frag} {mg : Str → Option Value} {base : Heap}
/-! ### first_word_apart -/
abbrev due (k n m : Nat) (R T R2 T2 : List Nat) (F : Nat) (a0 : Nat × Nat) : Option (List Nat) := Sw38.apartFrom k (mach k n R T) (mach k m R2 T2) F [a0] [([], a0)]
structure Two (k n m : Nat) (R T R2 T2 : List Nat) : Prop where
  k16 : k ≤ 16
  n1 : 1 ≤ n
  n64 : n ≤ 64
  m1 : 1 ≤ m
  m64 : m ≤ 64
  one : IsMach k n R T
  two : IsMach k m R2 T2
theorem Two.few {k n m : Nat} {R T R2 T2 : List Nat} (h : Two k n m R T R2 T2) : n * m ≤ 4096 := Nat.le_trans (Nat.mul_le_mul h.n64 h.m64) (by decide)
def spFirst (K : PySem.W.Frag) : Sp := fun vs H Q _ => ∃ (a b a2 b2 t : Addr) (k n m i0 j0 : Nat) (R T R2 T2 : List Nat), vs = [.int k, .ref a, .ref b, .ref a2, .ref b2, .ref t] ∧ Two k n m R T R2 T2 ∧
  SqL K H a (R.map vN) ∧ SqL K H b (T.map vN) ∧ SqL K H a2 (R2.map vN) ∧ SqL K H b2 (T2.map vN) ∧ H t = some (.tup [vN i0, vN j0]) ∧ i0 < n ∧ j0 < m ∧
  (∀ p H' wd, Same H H' → H' p = some (.lst (wd.map vN)) → wd.length < n * m → (∀ F, n * m ≤ F → due k n m R T R2 T2 F (i0, j0) = some wd) → Q (.ref p) H') ∧
  ∀ H' l, Same H H' → ReachW (next2 (mach k n R T) (mach k m R2 T2)) k (i0, j0) l.length l → (∀ i, i < l.length → ∀ w p, l[i]? = some (w, p) → alike2 (mach k n R T) (mach k m R2 T2) p = true) → Q .non H'
theorem scFirst : FnScope ["k", "rows", "takes", "rows2", "takes2", "start", "pairs", "seen", "earlier", "letters", "done", "pair", "ahead", "letter"] ["k", "rows", "takes", "rows2", "takes2", "start"] (defScope sFirst) := ⟨rfl, rfl, rfl, by decide +kernel, rfl, by decide +kernel, by decide +kernel⟩
/-- what stands in the heap while the pairs are gone through -/
structure HS (H H' : Hp) (po ps pE pC : Addr) (l : List (List Nat × Nat × Nat)) (E C : List Nat) (bs : List Addr) : Prop where
  p1 : H' po = some (.lst (bs.map V.ref))
  p2 : H' ps = some (.dT (seenT (l.map (·.2))))
  p3 : H' pE = some (.lst (E.map vN))
  p4 : H' pC = some (.lst (C.map vN))
  same : Same H H'
  prs : PairsAt H' (l.map (·.2)) bs
  bk : Back l E C
theorem HS.keep {H H' H2 : Hp} {po ps pE pC : Addr} {l : List (List Nat × Nat × Nat)} {E C : List Nat} {bs : List Addr} (h : HS H H' po ps pE pC l E C bs) (g : Same H' H2) : HS H H2 po ps pE pC l E C bs :=
  ⟨g _ _ h.p1, g _ _ h.p2, g _ _ h.p3, g _ _ h.p4, h.same.trans g, h.prs.same g, h.bk⟩
theorem le5001 {n : Nat} (h : n ≤ 5000) : n < sizeLine := Nat.lt_of_le_of_lt h (by decide)
theorem ok_first {f fR fB : Addr} {fd fdR fdB : FuncData} (F : Fun K "first_word_apart" "first_word_apart" sFirst f fd)
    (GR : FnOk P w K mg base CX0 1 fR fdR ["k", "rows", "state"] (spRow K)) (bR : Binds K fdR ["k", "rows", "state"] []) (kR : PySem.W.keepIn K (.ref fR) = true) (mR : mg "row_of" = some (.ref fR))
    (GB : FnOk P w K mg base CX0 1 fB fdB ["place", "earlier", "letters"] (spBack K)) (bB : Binds K fdB ["place", "earlier", "letters"] []) (kB : PySem.W.keepIn K (.ref fB) = true) (mB : mg "word_back" = some (.ref fB))
    (ml : mg "len" = none) (mz : mg "zip" = none) (mi : mg "list" = none) (mr : mg "range" = none) :
    FnOk P w K mg base CX0 2 f fd ["k", "rows", "takes", "rows2", "takes2", "start"] (spFirst K) := by
  refine F.ok scFirst (fun vs H Q E h => ?_) (fun cdv A outer s H vs Q E hr h => ?_)
  · obtain ⟨a, b, a2, b2, t0, k, n, m, i0, j0, R, T, R2, T2, rfl, _⟩ := h
    rfl
  obtain ⟨a, b, a2, b2, t0, k, n, m, i0, j0, R, T, R2, T2, rfl, h2m, hA, hB, hA2, hB2, ht0, hi0, hj0, qs, qn⟩ := h
  have hu := hu_of hr
  refine ⟨_, pss_cons (ps_set (i := 6) scFirst.nd rfl (Or.inl rfl) (pe_lst (pa_cons (pv 5) pa_nil)))
    (pss_cons (ps_set (i := 7) scFirst.nd rfl (Or.inl rfl) (pe_dispT hu (pv 5) pe_bl))
    (pss_cons (ps_set (i := 8) scFirst.nd rfl (Or.inl rfl) (pe_lst (pa_cons pe_int pa_nil)))
    (pss_cons (ps_set (i := 9) scFirst.nd rfl (Or.inl rfl) (pe_lst (pa_cons pe_int pa_nil)))
    (pss_cons (ps_set (i := 10) scFirst.nd rfl (Or.inl rfl) pe_int)
    (pss_cons (ps_while PassesOwn.never (pt_cmpR op_lt (pv 10) (pe_callB call_len_seq (by rfl) ml PySem.boot_len (pa_cons (pv 6) pa_nil)) (nomark _))
      (pss_cons (ps_set (i := 11) scFirst.nd rfl (Or.inl rfl) (pe_ix ix_list (pv 6) (pv 10) (fun _ _ => rfl)))
      (pss_cons (ps_if (pt_cmpR op_ne (pe_ix ix_list (pv 2) (pe_ix ix_tup (pv 11) pe_int (fun _ _ => rfl)) (fun _ _ => rfl)) (pe_ix ix_list (pv 4) (pe_ix ix_tup (pv 11) pe_int (fun _ _ => rfl)) (fun _ _ => rfl)) (nomark _))
        (pss_one (ps_ret (pe_call GB hr rfl mB kB bB .nil pass0 (pa_cons (pv 10) (pa_cons (pv 8) (pa_cons (pv 9) pa_nil)))))) pss_nil)
      (pss_cons (ps_set (i := 12) scFirst.nd rfl (Or.inl rfl) (pe_listzip rfl (by rfl) mz (by rfl) mi
          (pa_cons (pe_call GR hr rfl mR kR bR .nil pass0 (pa_cons (pv 0) (pa_cons (pv 1) (pa_cons (pe_ix ix_tup (pv 11) pe_int (fun _ _ => rfl)) pa_nil))))
          (pa_cons (pe_call GR hr rfl mR kR bR .nil pass0 (pa_cons (pv 0) (pa_cons (pv 3) (pa_cons (pe_ix ix_tup (pv 11) pe_int (fun _ _ => rfl)) pa_nil)))) pa_nil))))
      (pss_cons (ps_for PassesOwn.never rfl (pi_range1 (by rfl) mr (pa_cons (pv 0) pa_nil)) (pg_name (i := 13) scFirst.nd rfl (Or.inl rfl))
        (pss_one (ps_if (pt_cmp (pc_dnotin hu (pe_ix ix_list (pv 12) (pv 13) (fun _ _ => rfl)) (pv 7)))
          (pss_cons (ps_dput hu (pv 7) (pe_ix ix_list (pv 12) (pv 13) (fun _ _ => rfl)) pe_bl rfl)
          (pss_cons (ps_expr (pe_bm PySem.F.plainAttrs_list PySem.F.slot_list_append PySem.F.type_list_append mt_append (pv 6) (pa_cons (pe_ix ix_list (pv 12) (pv 13) (fun _ _ => rfl)) pa_nil)))
          (pss_cons (ps_expr (pe_bm PySem.F.plainAttrs_list PySem.F.slot_list_append PySem.F.type_list_append mt_append (pv 8) (pa_cons (pv 10) pa_nil)))
          (pss_one (ps_expr (pe_bm PySem.F.plainAttrs_list PySem.F.slot_list_append PySem.F.type_list_append mt_append (pv 9) (pa_cons (pv 13) pa_nil)))))))
          pss_nil)))
      (pss_one (ps_set (i := 10) scFirst.nd rfl (Or.inl rfl) (pe_op op_add (pv 10) pe_int))))))))
    (pss_one (ps_ret pe_non))))))), ?_⟩
  -- pairs = [start]
  refine ⟨_, rfl, (by show 1 ≤ sizeLine; decide), fun po hpo => ?_⟩
  have npo : t0 ≠ po := ne_of_none ht0 hpo
  have hpo' := hpo
  generalize hH1 : upd H po (.lst [V.ref t0]) = H1
  have g1 : Same H H1 := by rw [← hH1]; exact Same.new hpo _
  have e1t : H1 t0 = some (.tup [vN i0, vN j0]) := g1 _ _ ht0
  have e1p : H1 po = some (.lst [V.ref t0]) := by rw [← hH1, upd_same]
  -- seen = {start: True}
  intro ps hps
  refine ⟨_, rfl, t0, keyP (i0, j0), rfl, ?_, upd_same, ?_⟩
  · rw [upd_ne (ne_of_none e1t hps)]; exact e1t
  have hps' : H ps = none := g1.free hps
  generalize hH2 : upd (upd H1 ps (.dT [])) ps (.dT [(keyP (i0, j0), .bl true)]) = H2
  have g12 : Same H1 H2 := by rw [← hH2]; exact (Same.new hps _).put hps _
  have e2s : H2 ps = some (.dT (seenT [(i0, j0)])) := by rw [← hH2, upd_same]; rfl
  -- earlier = [0], letters = [0]
  refine ⟨(by show 1 ≤ sizeLine; decide), fun pE hpE => ⟨(by show 1 ≤ sizeLine; decide), fun pC hpC => ?_⟩⟩
  have nEC : pE ≠ pC := fun e => by subst e; rw [upd_same] at hpC; cases hpC
  have hpC2 : H2 pC = none := by rw [upd_ne nEC.symm] at hpC; exact hpC
  generalize hH4 : upd (upd H2 pE (.lst [V.int 0])) pC (.lst [V.int 0]) = H4
  have g24 : Same H2 H4 := by rw [← hH4]; exact (Same.new hpE _).put hpC2 _
  have g14 := g12.trans g24
  have hpE' : H pE = none := (g1.trans g12).free hpE
  have hpC' : H pC = none := (g1.trans g12).free hpC2
  have npE : po ≠ pE := ne_of_none (g12 _ _ e1p) hpE
  have npC : po ≠ pC := ne_of_none (g12 _ _ e1p) hpC2
  have nsE : ps ≠ pE := ne_of_none e2s hpE
  have nsC : ps ≠ pC := ne_of_none e2s hpC2
  have nps : po ≠ ps := ne_of_none e1p hps
  have start : HS H H4 po ps pE pC [([], i0, j0)] [0] [0] [t0] := by
    refine ⟨g14 _ _ e1p, g24 _ _ e2s, ?_, ?_, g1.trans g14, ⟨rfl, fun i p e => ?_⟩, Back.start _⟩
    · rw [← hH4, upd_ne nEC, upd_same]; rfl
    · rw [← hH4, upd_same]; rfl
    · have hi := (List.getElem?_eq_some_iff.mp e).1
      have hi' : i < 1 := hi
      have h0 : i = 0 := by omega
      subst h0
      have e' : ((i0, j0) : Nat × Nat) = p := Option.some.inj e
      subst e'
      exact ⟨t0, rfl, g14 _ _ e1t⟩
  refine ⟨fun mm σ H' => ∃ (d : Nat) (l : List (List Nat × Nat × Nat)) (E C : List Nat) (bs : List Addr) (x y z : Option V), σ = [some (.int k), some (.ref a), some (.ref b), some (.ref a2), some (.ref b2), some (.ref t0), some (.ref po), some (.ref ps), some (.ref pE), some (.ref pC), some (.int d), x, y, z] ∧
      mm = n * m - d ∧ HS H H' po ps pE pC l E C bs ∧ ReachW (next2 (mach k n R T) (mach k m R2 T2)) k (i0, j0) d l ∧ ∀ i, i < d → ∀ w p, l[i]? = some (w, p) → alike2 (mach k n R T) (mach k m R2 T2) p = true,
    ⟨n * m, 0, _, _, _, _, _, _, _, rfl, rfl, start, .start, fun i hi => absurd hi (Nat.not_lt_zero i)⟩, ?_⟩
  rintro mm σ H' ⟨d, l, E, C, bs, x, y, z, rfl, rfl, hs, hre, hal⟩
  obtain ⟨ok, few⟩ := pairs_ok h2m.one h2m.two (show (i0, j0).1 < n ∧ (i0, j0).2 < m from ⟨hi0, hj0⟩) hre
  have f4 := h2m.few
  have hbl : bs.length = l.length := by rw [hs.prs.1, List.length_map]
  refine ⟨_, rfl, _, rfl, po, _, rfl, .inl (SqL.of hs.p1), _, _, rfl, rfl, _, rfl, ?_⟩
  refine ite2 (fun c => ?_) (fun c => ?_)
  rotate_left
  · have c' : ¬ (d : Int) < (((bs.map V.ref).length : Nat) : Int) := of_decide_eq_false (Bool.eq_false_iff.mpr c)
    rw [List.length_map, hbl] at c'
    have hd : d = l.length := by have := ok.le; omega
    subst hd
    exact qn H' l hs.same hre hal
  have c' : (d : Int) < (((bs.map V.ref).length : Nat) : Int) := of_decide_eq_true c
  rw [List.length_map, hbl] at c'
  have hd : d < l.length := by omega
  obtain ⟨wd, p, hq⟩ : ∃ wd p, l[d]? = some (wd, p) := ⟨l[d].1, l[d].2, List.getElem?_eq_getElem hd⟩
  have hqm : (wd, p) ∈ l := List.mem_of_getElem? hq
  obtain ⟨hp1, hp2⟩ := ok.all _ hqm
  obtain ⟨b0, hb0, hb0t⟩ := hs.prs.2 d p (by rw [List.getElem?_map, hq]; rfl)
  refine ⟨fun σ' H2 => ∃ (l' : List (List Nat × Nat × Nat)) (E' C' : List Nat) (bs' : List Addr) (x y z : Option V), σ' = [some (.int k), some (.ref a), some (.ref b), some (.ref a2), some (.ref b2), some (.ref t0), some (.ref po), some (.ref ps), some (.ref pE), some (.ref pC), some (.int ((d : Int) + 1)), x, y, z] ∧
      HS H H2 po ps pE pC l' E' C' bs' ∧ ReachW (next2 (mach k n R T) (mach k m R2 T2)) k (i0, j0) (d + 1) l' ∧ ∀ i, i < d + 1 → ∀ w p, l'[i]? = some (w, p) → alike2 (mach k n R T) (mach k m R2 T2) p = true, ?_, ?_⟩
  · rintro σ' H5 ⟨l', E', C', bs', x', y', z', rfl, e1, e2, e3⟩
    exact ⟨n * m - (d + 1), by omega, d + 1, l', E', C', bs', x', y', z', rfl, rfl, e1, e2, e3⟩
  -- pair = pairs[done]
  refine ⟨_, rfl, _, rfl, po, _, _, _, rfl, rfl, SqL.of hs.p1, at_ref hb0, ?_⟩
  -- if takes[pair[0]] != takes2[pair[1]]
  refine ⟨_, rfl, _, rfl, b0, _, _, _, rfl, rfl, SqT.of hb0t, at_p0, b, _, _, _, rfl, rfl, hs.same.seq hB, getD_at (by rw [h2m.one.tl]; exact hp1),
    _, rfl, _, rfl, b0, _, _, _, rfl, rfl, SqT.of hb0t, at_p1, b2, _, _, _, rfl, rfl, hs.same.seq hB2, getD_at (by rw [h2m.two.tl]; exact hp2), rfl, _, rfl, ?_⟩
  have hal2 := alike_iff h2m.one h2m.two p
  refine ite2 (fun c1 => ?_) (fun c1 => ?_)
  · have hn : alike2 (mach k n R T) (mach k m R2 T2) p = false := by
      rw [hal2, decide_eq_false_iff_not]
      intro e
      rw [e] at c1
      simp at c1
    refine ⟨_, rfl, _, rfl, _, rfl, pE, pC, d, l, E, C, wd, p, rfl, SqL.of hs.p3, SqL.of hs.p4, hs.bk, hq, by omega, fun q H5 _ g5 e5 => qs q H5 wd (hs.same.trans g5) e5 ?_ fun F hF => apart_some hre hal hq hn (by omega)⟩
    have := ok.long _ hqm
    dsimp only at this
    omega
  have hyes : alike2 (mach k n R T) (mach k m R2 T2) p = true := by
    rw [hal2, decide_eq_true_eq]
    apply Classical.byContradiction
    intro e
    apply c1
    have e' : ¬ vN (T.getD p.1 0) = vN (T2.getD p.2 0) := fun z => e (by injection z with z; omega)
    rw [decide_eq_false e']
    rfl
  -- ahead = list(zip(row_of(k, rows, pair[0]), row_of(k, rows2, pair[1])))
  refine ⟨_, rfl, _, rfl, _, rfl, b0, _, _, _, rfl, rfl, SqT.of hb0t, at_p0, a, R, k, p.1, rfl, hs.same.seq hA, h2m.k16, mach_at h2m.one hp1, fun pr hpr => ?_⟩
  have gr1 : Same H' (upd H' pr (.lst ((rowA k R p.1).map vN))) := Same.new hpr _
  refine ⟨_, rfl, _, rfl, _, rfl, b0, _, _, _, rfl, rfl, SqT.of (gr1 _ _ hb0t), at_p1, a2, R2, k, p.2, rfl, (hs.same.trans gr1).seq hA2, h2m.k16, mach_at h2m.two hp2, fun pr2 hpr2 => ?_⟩
  have gr2 : Same H' (upd (upd H' pr (.lst ((rowA k R p.1).map vN))) pr2 (.lst ((rowA k R2 p.2).map vN))) := gr1.trans (Same.new hpr2 _)
  refine ⟨pr, pr2, _, _, rfl, SqL.of (by rw [upd_ne (fun e => by subst e; rw [upd_same] at hpr2; cases hpr2), upd_same]), SqL.of upd_same, fun pa as H5 hpa hlen g5 e5 htup => ?_⟩
  have gA : Same H' H5 := gr2.trans g5
  have hs5 := hs.keep gA
  have napo : po ≠ pa := ne_of_none (gr2 _ _ hs.p1) hpa
  have naps : ps ≠ pa := ne_of_none (gr2 _ _ hs.p2) hpa
  have napE : pE ≠ pa := ne_of_none (gr2 _ _ hs.p3) hpa
  have napC : pC ≠ pa := ne_of_none (gr2 _ _ hs.p4) hpa
  have hnx : PairsAt H5 ((List.range k).map (next2 (mach k n R T) (mach k m R2 T2) p)) as := by
    refine ⟨?_, fun i q e => ?_⟩
    · rw [hlen, List.length_map, List.length_map, row_full h2m.one hp1, row_full h2m.two hp2, List.length_map, List.length_range, Nat.min_self]
    · rw [List.getElem?_map] at e
      obtain ⟨i', hi', e'⟩ := Option.map_eq_some_iff.mp e
      have hik : i < k := by
        have := (List.getElem?_eq_some_iff.mp hi').1
        rwa [List.length_range] at this
      rw [List.getElem?_range hik] at hi'
      cases hi'
      subst e'
      exact htup i _ _ (by rw [List.getElem?_map, row_at h2m.one hp1 hik]; rfl) (by rw [List.getElem?_map, row_at h2m.two hp2 hik]; rfl)
  -- for letter in range(k)
  refine ⟨_, rfl, (k : Int), rfl, (by have := h2m.k16; omega), (by have := h2m.k16; omega), for_range (n := k) (fun j σ' H6 => ∃ (E' C' : List Nat) (bs' : List Addr) (z : Option V), σ' = [some (.int k), some (.ref a), some (.ref b), some (.ref a2), some (.ref b2), some (.ref t0), some (.ref po), some (.ref ps), some (.ref pE), some (.ref pC), some (.int d), some (.ref b0), some (.ref pa), z] ∧
      HS H H6 po ps pE pC (pushLs (next2 (mach k n R T) (mach k m R2 T2)) wd p l (List.range j)) E' C' bs' ∧ H6 pa = some (.lst (as.map V.ref)) ∧ PairsAt H6 ((List.range k).map (next2 (mach k n R T) (mach k m R2 T2) p)) as)
    ⟨E, C, bs, _, rfl, hs5, e5, hnx⟩ ?_ ?_⟩
  · rintro j σ' H6 hj ⟨E', C', bs', z', rfl, hs6, e6, t6⟩
    obtain ⟨c0, hc0, hc0t⟩ := t6.2 j (next2 (mach k n R T) (mach k m R2 T2) p j) (by rw [List.getElem?_map, List.getElem?_range hj]; rfl)
    generalize hnp : next2 (mach k n R T) (mach k m R2 T2) p j = np at hc0t
    have at0 : atI (as.map V.ref) ((0 : Int) + (j : Int)) = some (.ref c0) := by rw [Int.zero_add]; exact at_ref hc0
    have hls : pushLs (next2 (mach k n R T) (mach k m R2 T2)) wd p l (List.range (j + 1)) = pushL (next2 (mach k n R T) (mach k m R2 T2)) wd p (pushLs (next2 (mach k n R T) (mach k m R2 T2)) wd p l (List.range j)) j := by rw [List.range_succ, pushLs_snoc]
    obtain ⟨mo, emo⟩ := pushLs_pre (next2 (mach k n R T) (mach k m R2 T2)) wd p (List.range j) l
    have hlj : (pushLs (next2 (mach k n R T) (mach k m R2 T2)) wd p l (List.range j)).length ≤ l.length + j := by
      have e := congrArg List.length (pushLs_map (next2 (mach k n R T) (mach k m R2 T2)) wd p (List.range j) l)
      have := dd_len ((List.range j).map (next2 (mach k n R T) (mach k m R2 T2) p)) (l.map (·.2))
      rw [List.length_map] at e
      rw [List.length_map, List.length_map, List.length_range] at this
      omega
    have hqj : (pushLs (next2 (mach k n R T) (mach k m R2 T2)) wd p l (List.range j))[d]? = some (wd, p) := by rw [emo, List.getElem?_append_left hd]; exact hq
    generalize pushLs (next2 (mach k n R T) (mach k m R2 T2)) wd p l (List.range j) = lj at hs6 hls hlj hqj
    have k16 := h2m.k16
    have hbj : bs'.length = lj.length := by rw [hs6.prs.1, List.length_map]
    have hEj := hs6.bk.el
    have hCj := hs6.bk.cl
    refine ⟨_, rfl, _, rfl, pa, _, _, _, rfl, rfl, SqL.of e6, at0, _, rfl, ps, _, rfl, DGet.t (k := keyP np) hs6.p2 hc0t, _, rfl, ?_⟩
    rw [seenT_get]
    refine ite2 (fun c2 => ?_) (fun c2 => ?_)
    · have hn : np ∉ lj.map (·.2) := by simpa using c2
      rw [pushL_out (by rw [hnp]; exact hn), hnp] at hls
      refine ⟨_, rfl, _, rfl, _, rfl, pa, _, _, _, rfl, rfl, SqL.of e6, at0, ps, _, rfl, DPut.t (k := keyP np) hs6.p2 hc0t ?_, ?_⟩
      · unfold seenT; rw [List.length_map, List.length_map]; exact le5001 (by omega)
      rw [seenT_put hn]
      have q1 : (upd H6 ps (.dT (seenT (lj.map (·.2) ++ [np])))) po = some (.lst (bs'.map V.ref)) := by rw [upd_ne nps]; exact hs6.p1
      have q2 : (upd H6 ps (.dT (seenT (lj.map (·.2) ++ [np])))) pa = some (.lst (as.map V.ref)) := by rw [upd_ne naps.symm]; exact e6
      refine ⟨_, rfl, .inl ⟨rfl, _, SqL.of q1⟩, _, rfl, _, rfl, pa, _, _, _, rfl, rfl, SqL.of q2, at0, po, _, _, rfl, rfl, q1, ?_, ?_⟩
      · rw [List.length_map]; exact le5001 (by omega)
      have q3 : (upd (upd H6 ps (.dT (seenT (lj.map (·.2) ++ [np])))) po (.lst (bs'.map V.ref ++ [.ref c0]))) pE = some (.lst (E'.map vN)) := by rw [upd_ne npE.symm, upd_ne nsE.symm]; exact hs6.p3
      refine ⟨_, rfl, .inl ⟨rfl, _, SqL.of q3⟩, _, rfl, pE, _, _, rfl, rfl, q3, ?_, ?_⟩
      · rw [List.length_map]; exact le5001 (by omega)
      have q4 : (upd (upd (upd H6 ps (.dT (seenT (lj.map (·.2) ++ [np])))) po (.lst (bs'.map V.ref ++ [.ref c0]))) pE (.lst (E'.map vN ++ [vN d]))) pC = some (.lst (C'.map vN)) := by rw [upd_ne nEC.symm, upd_ne npC.symm, upd_ne nsC.symm]; exact hs6.p4
      refine ⟨_, rfl, .inl ⟨rfl, _, SqL.of q4⟩, _, rfl, pC, _, _, rfl, rfl, q4, ?_, ?_⟩
      · rw [List.length_map]; exact le5001 (by omega)
      have k1 : ∀ {L : List (Nat × Nat)} {cs : List Addr}, PairsAt H6 L cs → PairsAt (upd (upd (upd (upd H6 ps (.dT (seenT (lj.map (·.2) ++ [np])))) po (.lst (bs'.map V.ref ++ [.ref c0]))) pE (.lst (E'.map vN ++ [vN d]))) pC (.lst (C'.map vN ++ [.int (0 + (j : Int))]))) L cs := fun h =>
        (((h.upd hs6.p2 (by intro _ z; cases z)).upd q1 (by intro _ z; cases z)).upd q3 (by intro _ z; cases z)).upd q4 (by intro _ z; cases z)
      refine ⟨E' ++ [d], C' ++ [j], bs' ++ [c0], _, rfl, ?_, ?_, k1 t6⟩
      · rw [hls]
        refine ⟨?_, ?_, ?_, ?_, (((hs6.same.put hps' _).put hpo' _).put hpE' _).put hpC' _, ?_, hs6.bk.snoc hqj j np⟩
        · rw [upd_ne npC, upd_ne npE, upd_same, List.map_append]; rfl
        · rw [upd_ne nsC, upd_ne nsE, upd_ne nps.symm, upd_same, List.map_append]; rfl
        · rw [upd_ne nEC, upd_same, List.map_append]; rfl
        · rw [upd_same, List.map_append, Int.zero_add]; rfl
        · rw [List.map_append]
          refine (k1 hs6.prs).snoc (p := np) ?_
          have t7 := (k1 t6).2 j np (by rw [List.getElem?_map, List.getElem?_range hj]; exact congrArg some hnp)
          obtain ⟨c1', hc1, hc1t⟩ := t7
          rw [hc0] at hc1
          cases hc1
          exact hc1t
      · rw [upd_ne napC.symm, upd_ne napE.symm, upd_ne napo.symm, upd_ne naps.symm]; exact e6
    · have hn : np ∈ lj.map (·.2) := by simpa using c2
      rw [pushL_in (by rw [hnp]; exact hn)] at hls
      exact ⟨E', C', bs', _, rfl, by rw [hls]; exact hs6, e6, t6⟩
  · rintro σ' H6 ⟨E', C', bs', z', rfl, hs6, e6, t6⟩
    refine ⟨_, rfl, _, _, rfl, rfl, ?_⟩
    refine ⟨_, E', C', bs', _, _, _, rfl, hs6, hre.step hq, fun i hi w' p' e => ?_⟩
    have hil : i < l.length := by omega
    have e' : (extW (next2 (mach k n R T) (mach k m R2 T2)) k wd p l)[i]? = some (w', p') := e
    rw [extW_get hil] at e'
    by_cases hid : i < d
    · exact hal i hid w' p' e'
    · have : i = d := by omega
      subst this
      rw [hq] at e'
      cases e'
      exact hyes
end
end Lp
set_option maxRecDepth 100000
set_option maxHeartbeats 4000000
namespace Lp
open PySem L2 Lm
/-! ### words that stand in the heap -/
def WordsAt (H : Hp) (L : List (List Nat)) (bs : List Addr) : Prop := bs.length = L.length ∧ ∀ (i : Nat) (u : List Nat), L[i]? = some u → ∃ b, bs[i]? = some b ∧ H b = some (.tup (u.map vN))
theorem WordsAt.nil {H : Hp} : WordsAt H [] [] := ⟨rfl, fun i u e => by simp at e⟩
theorem WordsAt.same {H H' : Hp} {L : List (List Nat)} {bs : List Addr} (h : WordsAt H L bs) (g : Same H H') : WordsAt H' L bs :=
  ⟨h.1, fun i u e => let ⟨b, e1, e2⟩ := h.2 i u e; ⟨b, e1, g _ _ e2⟩⟩
theorem WordsAt.upd {H : Hp} {L : List (List Nat)} {bs : List Addr} (h : WordsAt H L bs) {x : Addr} {u o : HO} (hx : H x = some u) (hu : ∀ xs, HO.tup xs ≠ u) : WordsAt (upd H x o) L bs :=
  ⟨h.1, fun i v e => let ⟨b, e1, e2⟩ := h.2 i v e; ⟨b, e1, by rw [upd_ne (ne_of e2 hx (hu _))]; exact e2⟩⟩
theorem WordsAt.append {H : Hp} {L M : List (List Nat)} {bs cs : List Addr} (h : WordsAt H L bs) (k : WordsAt H M cs) : WordsAt H (L ++ M) (bs ++ cs) := by
  refine ⟨by rw [List.length_append, List.length_append, h.1, k.1], fun i u e => ?_⟩
  by_cases hi : i < L.length
  · rw [List.getElem?_append_left hi] at e
    obtain ⟨b, e1, e2⟩ := h.2 i u e
    exact ⟨b, by rw [List.getElem?_append_left (by rw [h.1]; exact hi)]; exact e1, e2⟩
  · rw [List.getElem?_append_right (Nat.le_of_not_lt hi)] at e
    obtain ⟨b, e1, e2⟩ := k.2 _ u e
    exact ⟨b, by rw [List.getElem?_append_right (by rw [h.1]; exact Nat.le_of_not_lt hi), h.1]; exact e1, e2⟩
theorem WordsAt.one {H : Hp} {u : List Nat} {b : Addr} (e : H b = some (.tup (u.map vN))) : WordsAt H [u] [b] := by
  refine ⟨rfl, fun i v ev => ?_⟩
  have hi := (List.getElem?_eq_some_iff.mp ev).1
  have hi' : i < 1 := hi
  have h0 : i = 0 := by omega
  subst h0
  have e' : u = v := Option.some.inj ev
  subst e'
  exact ⟨b, rfl, e⟩
theorem WordsAt.get {H : Hp} {L : List (List Nat)} {bs : List Addr} (h : WordsAt H L bs) {i : Nat} (hi : i < L.length) : ∃ b, bs[i]? = some b ∧ H b = some (.tup ((L.getD i []).map vN)) := by
  obtain ⟨b, e1, e2⟩ := h.2 i _ (List.getElem?_eq_getElem hi)
  exact ⟨b, e1, by rw [List.getD_eq_getElem?_getD, List.getElem?_eq_getElem hi]; exact e2⟩
theorem WordsAt.of {H : Hp} {L : List (List Nat)} {bs : List Addr} (h : WordsAt H L bs) {i : Nat} {x : V} (e : (bs.map V.ref)[i]? = some x) : ∃ b u, x = .ref b ∧ bs[i]? = some b ∧ L[i]? = some u ∧ H b = some (.tup (u.map vN)) := by
  rw [List.getElem?_map] at e
  obtain ⟨b, e1, rfl⟩ := Option.map_eq_some_iff.mp e
  have hi : i < L.length := by rw [← h.1]; exact (List.getElem?_eq_some_iff.mp e1).1
  obtain ⟨b', e2, e3⟩ := h.2 i _ (List.getElem?_eq_getElem hi)
  rw [e1] at e2
  cases e2
  exact ⟨b, _, rfl, e1, List.getElem?_eq_getElem hi, e3⟩
theorem le_big {n : Nat} (h : n ≤ 16000000) : n ≤ sizeLine := Nat.le_trans h (by decide)
theorem lt_big {n : Nat} (h : n ≤ 16000000) : n < sizeLine := Nat.lt_of_le_of_lt h (by decide)
section
variable {P : Program} {w : World} {K : PySem.W.Frag} {mg : Str → Option Value} {base : Heap}
/-! ### words_up_to -/
def spUpTo (K : PySem.W.Frag) : Sp := fun vs H Q _ => ∃ (k e : Nat), vs = [.int k, .int e] ∧ 1 ≤ k ∧ k ≤ 4 ∧ e ≤ 2 ∧ ∀ p H' bs, Same H H' → WordsAt H' (midsOf k e) bs → H' p = some (.lst (bs.map V.ref)) → Q (.ref p) H'
theorem scUpTo : FnScope ["k", "longest", "words", "done", "letter"] ["k", "longest"] (defScope sUpTo) := ⟨rfl, rfl, rfl, by decide +kernel, rfl, by decide +kernel, by decide +kernel⟩
theorem ok_upTo {f : Addr} {fd : FuncData} (F : Fun K "words_up_to" "words_up_to" sUpTo f fd) (ml : mg "len" = none) (mr : mg "range" = none) : FnOk P w K mg base CX0 1 f fd ["k", "longest"] (spUpTo K) := by
  refine F.ok scUpTo (fun vs H Q E h => ?_) (fun cdv A outer s H vs Q E hr h => ?_)
  · obtain ⟨k, e, rfl, _⟩ := h
    rfl
  obtain ⟨k, e, rfl, hk1, hk4, he, q⟩ := h
  refine ⟨_, pss_cons (ps_set (i := 2) scUpTo.nd rfl (Or.inr rfl) (pe_lst (pa_cons (pe_tup pa_nil) pa_nil)))
    (pss_cons (ps_set (i := 3) scUpTo.nd rfl (Or.inr rfl) pe_int)
    (pss_cons (ps_while PassesOwn.never (pt_cmpR op_lt (pe_callB call_len_seq (by rfl) ml PySem.boot_len (pa_cons (pe_ix ix_list (pv 2) (pv 3) (fun _ _ => rfl)) pa_nil)) (pv 1) (nomark _))
      (pss_cons (ps_expr (pe_bm PySem.F.plainAttrs_list PySem.F.slot_list_extend PySem.F.type_list_extend mt_extend (pv 2)
        (pa_cons (pe_lc (own := [("letter", 4)]) rfl scUpTo.nd (pi_range1 (by rfl) mr (pa_cons (pv 0) pa_nil))
          (blkOk_by (N := ["k", "longest", "words", "done", "letter"]) (sc := defScope sUpTo) (by decide +kernel)) (fun s H C cl fp => pg_name (i := 4) scUpTo.nd rfl (Or.inl rfl)) (fun s H C cl fp => pts_nil)
          (fun s H C cl fp => pe_op op_catW (pe_ix (r := rIxL K) ix_list (pv 2) (pv 3) (fun _ _ => rfl)) (pe_tup (pa_cons (pv 4) pa_nil)))) pa_nil)))
      (pss_one (ps_set (i := 3) scUpTo.nd rfl (Or.inr rfl) (pe_op op_add (pv 3) pe_int)))))
    (pss_one (ps_ret (pv 2))))), ?_⟩
  obtain ⟨wm, wf⟩ := wl_facts hk1 hk4 he
  refine ⟨(by show 0 ≤ sizeLine; decide), fun t0 ht0 => ⟨(by show 1 ≤ sizeLine; decide), fun p hp => ?_⟩⟩
  have np : t0 ≠ p := fun z => by subst z; rw [upd_same] at hp; cases hp
  have hp' : H p = none := by rw [upd_ne np.symm] at hp; exact hp
  have g0 : Same H (upd (upd H t0 (.tup [])) p (.lst [V.ref t0])) := (Same.new ht0 _).put hp' _
  have w0 : WordsAt (upd (upd H t0 (.tup [])) p (.lst [V.ref t0])) [[]] [t0] := WordsAt.one (by rw [upd_ne np, upd_same]; rfl)
  refine ⟨fun mm σ H' => ∃ (d : Nat) (bs : List Addr) (x : Option V), σ = [some (.int k), some (.int e), some (.ref p), some (.int d), x] ∧ mm = wlEnd k e - d ∧ d ≤ wlEnd k e ∧ WordsAt H' (wl k d) bs ∧ H' p = some (.lst (bs.map V.ref)) ∧ Same H H',
    ⟨wlEnd k e, 0, [t0], _, rfl, rfl, Nat.zero_le _, w0, upd_same, g0⟩, ?_⟩
  rintro mm σ H' ⟨d, bs, x, rfl, rfl, hd, hw, hH, gs⟩
  obtain ⟨f1, f2, f3, f4⟩ := wf d hd
  obtain ⟨b, hb, eb⟩ := hw.get f1
  refine ⟨_, rfl, _, rfl, p, _, _, _, rfl, rfl, SqL.of hH, at_ref hb, b, _, rfl, .inr (SqT.of eb), _, rfl, _, _, rfl, rfl, _, rfl, ?_⟩
  refine ite2 (fun c => ?_) (fun c => ?_)
  rotate_left
  · have c' : ¬ ((((((wl k d).getD d []).map vN).length : Nat) : Int) < (e : Int)) := of_decide_eq_false (Bool.eq_false_iff.mpr c)
    rw [List.length_map] at c'
    have hde : d = wlEnd k e := by
      apply Classical.byContradiction
      intro z
      exact c' (by have := f3.mpr (by omega); omega)
    subst hde
    rw [wm] at hw
    exact ⟨_, rfl, q p H' bs gs hw hH⟩
  have c' : (((((wl k d).getD d []).map vN).length : Nat) : Int) < (e : Int) := of_decide_eq_true c
  rw [List.length_map] at c'
  have hdl : d < wlEnd k e := f3.mp (by omega)
  generalize hu : (wl k d).getD d [] = u at eb c'
  have hul : u.length ≤ 2 := by omega
  refine ⟨fun σ' H2 => ∃ (bs' : List Addr) (x : Option V), σ' = [some (.int k), some (.int e), some (.ref p), some (.int ((d : Int) + 1)), x] ∧ WordsAt H2 (wl k (d + 1)) bs' ∧ H2 p = some (.lst (bs'.map V.ref)) ∧ Same H H2, ?_, ?_⟩
  · rintro σ' H5 ⟨bs', x', rfl, e1, e2, e3⟩
    exact ⟨wlEnd k e - (d + 1), by omega, d + 1, bs', x', rfl, rfl, hdl, e1, e2, e3⟩
  refine ⟨_, rfl, .inl ⟨rfl, _, SqL.of hH⟩, _, rfl, (k : Int), rfl, by omega, by omega, fun D hD => ?_⟩
  have nD : p ≠ D := ne_of_none hH hD
  have hpn : (upd H' D (.lst [])) p = some (.lst (bs.map V.ref)) := by rw [upd_ne nD]; exact hH
  refine lc_range (n := k) (fun j H2 => ∃ cs, H2 D = some (.lst (cs.map V.ref)) ∧ WordsAt H2 ((List.range j).map fun c => u ++ [c]) cs ∧ Same H' H2) ⟨[], upd_same, WordsAt.nil, Same.new hD _⟩ ?_ ?_
  · rintro j H2 hj ⟨cs, e1, e2, e3⟩
    refine ⟨rfl, ?_⟩
    unfold tYes
    refine iteT ?_
    refine ⟨_, rfl, _, rfl, p, _, _, _, rfl, rfl, SqL.of (e3 _ _ hH), at_ref hb, _, rfl, (by show 1 ≤ sizeLine; decide), fun t ht => ?_⟩
    have ebt : (L2.upd H2 t (.tup [.int (0 + (j : Int))])) b = some (.tup (u.map vN)) := by rw [upd_ne (ne_of_none (e3 _ _ eb) ht)]; exact e3 _ _ eb
    refine ⟨b, t, _, _, rfl, rfl, ebt, upd_same, ?_, fun z H4 g4 e4 => ?_⟩
    · rw [List.length_map, List.length_singleton]; exact le_big (by omega)
    have g24 : Same H2 H4 := (Same.new ht _).trans g4
    have cl := e2.1
    rw [List.length_map, List.length_range] at cl
    refine ⟨cs.map V.ref, g24 _ _ e1, by rw [List.length_map]; exact lt_big (by omega), cs ++ [z], by rw [upd_same, List.map_append]; rfl, ?_, (e3.trans g24).put hD _⟩
    rw [List.range_succ, List.map_append]
    refine ((e2.same g24).append (WordsAt.one (u := u ++ [j]) ?_)).upd (g24 _ _ e1) (by intro _ y; cases y)
    rw [e4, List.map_append, Int.zero_add]; rfl
  · rintro H2 ⟨cs, e1, e2, e3⟩
    have cl := e2.1
    rw [List.length_map, List.length_range] at cl
    have bl := hw.1
    refine ⟨p, D, _, _, rfl, rfl, e3 _ _ hH, e1, ?_, ?_⟩
    · rw [List.length_map, List.length_map]; exact le_big (by omega)
    refine ⟨_, rfl, _, _, rfl, rfl, bs ++ cs, _, rfl, ?_, by rw [upd_same, List.map_append], (gs.trans e3).put hp' _⟩
    have : wl k (d + 1) = wl k d ++ (List.range k).map fun c => u ++ [c] := by rw [← hu]; rfl
    rw [this]
    exact ((hw.same e3).append e2).upd (e3 _ _ hH) (by intro _ y; cases y)
end
end Lp
set_option maxRecDepth 100000
set_option maxHeartbeats 4000000
namespace Lp
open PySem L2 Lm
theorem take_get {α : Type} {l : List α} {i : Nat} {x : α} (h : l[i]? = some x) : l.take (i + 1) = l.take i ++ [x] := by rw [List.take_succ, h]; rfl
theorem reachW_at {α : Type} [DecidableEq α] {next : α → Nat → α} {k : Nat} {a0 : α} {d : Nat} {l : List (List Nat × α)} (h : ReachW next k a0 d l) : ∀ {i : Nat} {lw : List (List Nat × α)}, i < d → ReachW next k a0 i lw → i < lw.length := by
  induction h with
  | start => intro i lw hi; omega
  | @step d l w a h hq ih =>
    intro i lw hi hr
    by_cases e : i = d
    · subst e
      rw [reachW_det hr h]
      exact (List.getElem?_eq_some_iff.mp hq).1
    · exact ih (by omega) hr
/-- over the pairs of enumerate, of a list that the body leaves as it is -/
theorem for_enum {K : PySem.W.Frag} {a : Addr} {xs : List V} {g : TG} {tb : TS} {D : Ends} {σ : St} {H : Hp} (J : Nat → St → Hp → Prop) (h0 : J 0 σ H) (hl : ∀ i σ H, i ≤ xs.length → J i σ H → SqL K H a xs)
    (hs : ∀ i x σ H T, xs[i]? = some x → J i σ H → H T = none → g (.ref T) σ (upd H T (.tup [.int (i : Nat), x])) fun σ2 H2 => tb { D with nx := J (i + 1), ct := J (i + 1), bk := D.nx } σ2 H2) (hd : ∀ σ H, J xs.length σ H → D.nx σ H) :
    ∃ W : Nat → Nat → St → Hp → Prop, (∃ m, W 0 m σ H) ∧ ∀ i m σ H, W i m σ H →
      ((Ite K a).stop i H ∧ D.nx σ H) ∨ ((Ite K a).go i H ∧ ∃ N : St → Hp → Prop, (∀ σ' H', N σ' H' → ∃ m', m' < m ∧ W (i + 1) m' σ' H') ∧ ∀ x H', (Ite K a).yld i H x H' → g x σ H' fun σ2 H2 => tb { D with nx := N, ct := N, bk := D.nx } σ2 H2) := by
  refine ⟨fun i m τ G => i ≤ xs.length ∧ m + i = xs.length ∧ J i τ G, ⟨xs.length, Nat.zero_le _, rfl, h0⟩, fun i m τ G ⟨hi, em, j⟩ => ?_⟩
  have q := hl i τ G hi j
  rcases Nat.lt_or_ge i xs.length with lt | ge
  · refine .inr ⟨⟨xs, xs[i], q, List.getElem?_eq_getElem lt⟩, J (i + 1), fun τ' G' j' => ⟨m - 1, by omega, lt, by omega, j'⟩, fun v G' y => ?_⟩
    obtain ⟨T, x, rfl, hT, rfl, hx⟩ := y
    exact hs i x τ G T (hx xs q) j hT
  · have e : i = xs.length := Nat.le_antisymm hi ge
    subst e
    exact .inl ⟨⟨xs, q, Nat.le_refl _⟩, hd τ G j⟩
section
variable {P : Program} {w : World} {K : PySem.W.Frag} {mg : Str → Option Value} {base : Heap}
/-! ### head_words -/
abbrev headF (k : Nat) (u : List Nat) : List (List Nat) := (List.range k).map fun c => u ++ [c]
def spHead (K : PySem.W.Frag) : Sp := fun vs H Q _ => ∃ (k : Nat) (a : Addr) (fs : List (List Nat)) (bs : List Addr), vs = [.int k, .ref a] ∧ k ≤ 4 ∧ WordsAt H fs bs ∧ H a = some (.lst (bs.map V.ref)) ∧ fs.length ≤ 12 ∧ (∀ u ∈ fs, u.length ≤ 12) ∧
  ∀ p H' cs, Same H H' → WordsAt H' (headW k fs) cs → H' p = some (.lst (cs.map V.ref)) → Q (.ref p) H'
theorem scHead : FnScope ["k", "firsts", "words", "word", "letter"] ["k", "firsts"] (defScope sHead) := ⟨rfl, rfl, rfl, by decide +kernel, rfl, by decide +kernel, by decide +kernel⟩
theorem ok_head {f : Addr} {fd : FuncData} (F : Fun K "head_words" "head_words" sHead f fd) (mi : mg "list" = none) (mr : mg "range" = none) : FnOk P w K mg base CX0 1 f fd ["k", "firsts"] (spHead K) := by
  refine F.ok scHead (fun vs H Q E h => ?_) (fun cdv A outer s H vs Q E hr h => ?_)
  · obtain ⟨k, a, fs, bs, rfl, _⟩ := h
    rfl
  obtain ⟨k, a, fs, bs, rfl, hk4, hw, hA, hf12, hu12, q⟩ := h
  refine ⟨_, pss_cons (ps_set (i := 2) scHead.nd rfl (Or.inl rfl) (pe_callTy call_list_of (by rfl) mi PyProof.Rows.boot_list (pa_cons (pv 1) pa_nil)))
    (pss_cons (ps_for PassesOwn.never rfl (pi_list (pv 1)) (pg_name (i := 3) scHead.nd rfl (Or.inr rfl))
      (pss_one (ps_expr (pe_bm PySem.F.plainAttrs_list PySem.F.slot_list_extend PySem.F.type_list_extend mt_extend (pv 2)
        (pa_cons (pe_lc (own := [("letter", 4)]) rfl scHead.nd (pi_range1 (by rfl) mr (pa_cons (pv 0) pa_nil))
          (blkOk_by (N := ["k", "firsts", "words", "word", "letter"]) (sc := defScope sHead) (by decide +kernel)) (fun s H C cl fp => pg_name (i := 4) scHead.nd rfl (Or.inl rfl)) (fun s H C cl fp => pts_nil)
          (fun s H C cl fp => pe_op op_catW (pv 3) (pe_tup (pa_cons (pv 4) pa_nil)))) pa_nil)))))
    (pss_one (ps_ret (pv 2)))), ?_⟩
  refine ⟨_, rfl, a, _, rfl, .inl (SqL.of hA), fun p hp => ?_⟩
  have nap : a ≠ p := ne_of_none hA hp
  have g0 : Same H (upd H p (.lst (bs.map V.ref))) := Same.new hp _
  have bl := hw.1
  refine ⟨_, rfl, a, rfl, ⟨_, SqL.of (g0 _ _ hA)⟩, for_list (xs := bs.map V.ref) (fun i σ H' => (∃ x y, σ = [some (.int k), some (.ref a), some (.ref p), x, y]) ∧ ∃ cs, H' p = some (.lst ((bs ++ cs).map V.ref)) ∧ WordsAt H' ((fs.take i).flatMap (headF k)) cs ∧ Same H H')
    ⟨⟨_, _, rfl⟩, [], by rw [upd_same, List.append_nil], WordsAt.nil, g0⟩ (fun i σ H' _ z => let ⟨_, _, _, _, g⟩ := z; SqL.of (g _ _ hA)) ?_ ?_⟩
  · rintro i x σ H' hx ⟨⟨y, z, rfl⟩, cs, e1, e2, gs⟩
    obtain ⟨b, u, rfl, hb, hui, eb⟩ := hw.of hx
    have hul := hu12 u (List.mem_of_getElem? hui)
    have hi : i < fs.length := (List.getElem?_eq_some_iff.mp hui).1
    have cl := e2.1
    have cle : cs.length ≤ i * k := by
      rw [cl]
      have := len_flat (l := fs.take i) (f := headF k) (b := k) fun x _ => by simp
      rw [List.length_take, Nat.min_eq_left (Nat.le_of_lt hi)] at this
      exact this
    have cle2 : i * k ≤ 12 * 4 := Nat.mul_le_mul (by omega) hk4
    refine ⟨_, rfl, .inl ⟨rfl, _, SqL.of e1⟩, _, rfl, (k : Int), rfl, by omega, by omega, fun D hD => ?_⟩
    refine lc_range (n := k) (fun j H2 => ∃ ds, H2 D = some (.lst (ds.map V.ref)) ∧ WordsAt H2 ((List.range j).map fun c => u ++ [c]) ds ∧ Same H' H2) ⟨[], upd_same, WordsAt.nil, Same.new hD _⟩ ?_ ?_
    · rintro j H2 hj ⟨ds, d1, d2, d3⟩
      refine ⟨rfl, ?_⟩
      unfold tYes
      refine iteT ?_
      refine ⟨_, rfl, _, rfl, (by show 1 ≤ sizeLine; decide), fun t ht => ?_⟩
      have ebH := d3 _ _ (gs _ _ eb)
      refine ⟨b, t, _, _, rfl, rfl, (by rw [upd_ne (ne_of_none ebH ht)]; exact ebH), upd_same, ?_, fun z H4 g4 e4 => ?_⟩
      · rw [List.length_map, List.length_singleton]; exact le_big (by omega)
      have g24 : Same H2 H4 := (Same.new ht _).trans g4
      have dl := d2.1
      rw [List.length_map, List.length_range] at dl
      refine ⟨ds.map V.ref, g24 _ _ d1, by rw [List.length_map]; exact lt_big (by omega), ds ++ [z], by rw [upd_same, List.map_append]; rfl, ?_, (d3.trans g24).put hD _⟩
      rw [List.range_succ, List.map_append]
      refine ((d2.same g24).append (WordsAt.one (u := u ++ [j]) ?_)).upd (g24 _ _ d1) (by intro _ y; cases y)
      rw [e4, List.map_append, Int.zero_add]; rfl
    · rintro H2 ⟨ds, d1, d2, d3⟩
      have dl := d2.1
      rw [List.length_map, List.length_range] at dl
      refine ⟨p, D, _, _, rfl, rfl, d3 _ _ e1, d1, ?_, ⟨_, _, rfl⟩, cs ++ ds, ?_, ?_, (gs.trans d3).put hp _⟩
      · rw [List.length_map, List.length_map, List.length_append]; exact le_big (by omega)
      · rw [upd_same, ← List.map_append, List.append_assoc]
      · rw [take_get hui, List.flatMap_append, List.flatMap_singleton]
        exact ((e2.same d3).append d2).upd (d3 _ _ e1) (by intro _ y; cases y)
  · rintro σ H' ⟨⟨y, z, rfl⟩, cs, e1, e2, gs⟩
    rw [List.length_map, bl, List.take_length] at e2
    exact ⟨_, rfl, q p H' (bs ++ cs) gs ((hw.same gs).append e2) e1⟩
/-! ### told_words -/
theorem spelled_take (ws : List (List Nat)) (i : Nat) : (Sw38.spelled (ws.take i)).length ≤ (Sw38.spelled ws).length := by
  conv => rhs; rw [← List.take_append_drop i ws]
  unfold Sw38.spelled
  rw [List.flatMap_append, List.length_append]
  omega
def spTold (K : PySem.W.Frag) : Sp := fun vs H Q _ => ∃ (a : Addr) (ws : List (List Nat)) (bs : List Addr), vs = [.ref a] ∧ WordsAt H ws bs ∧ H a = some (.lst (bs.map V.ref)) ∧ (Sw38.spelled ws).length ≤ 16000000 ∧
  ∀ p H', Same H H' → H' p = some (.lst ((Sw38.spelled ws).map vN)) → Q (.ref p) H'
theorem scTold : FnScope ["words", "told", "word"] ["words"] (defScope sTold) := ⟨rfl, rfl, rfl, by decide +kernel, rfl, by decide +kernel, by decide +kernel⟩
theorem ok_told {f : Addr} {fd : FuncData} (F : Fun K "told_words" "told_words" sTold f fd) (ml : mg "len" = none) : FnOk P w K mg base CX0 1 f fd ["words"] (spTold K) := by
  refine F.ok scTold (fun vs H Q E h => ?_) (fun cdv A outer s H vs Q E hr h => ?_)
  · obtain ⟨a, ws, bs, rfl, _⟩ := h
    rfl
  obtain ⟨a, ws, bs, rfl, hw, hA, hz, q⟩ := h
  refine ⟨_, pss_cons (ps_set (i := 1) scTold.nd rfl (Or.inl rfl) (pe_lst pa_nil))
    (pss_cons (ps_for PassesOwn.never rfl (pi_list (pv 0)) (pg_name (i := 2) scTold.nd rfl (Or.inl rfl))
      (pss_cons (ps_expr (pe_bm PySem.F.plainAttrs_list PySem.F.slot_list_append PySem.F.type_list_append mt_append (pv 1) (pa_cons (pe_callB call_len_seq (by rfl) ml PySem.boot_len (pa_cons (pv 2) pa_nil)) pa_nil)))
      (pss_one (ps_expr (pe_bm PySem.F.plainAttrs_list PySem.F.slot_list_extend PySem.F.type_list_extend mt_extendT (pv 1) (pa_cons (pv 2) pa_nil))))))
    (pss_one (ps_ret (pv 1)))), ?_⟩
  refine ⟨(by show 0 ≤ sizeLine; decide), fun p hp => ?_⟩
  have g0 : Same H (upd H p (.lst [])) := Same.new hp _
  have bl := hw.1
  refine ⟨_, rfl, a, rfl, ⟨_, SqL.of (g0 _ _ hA)⟩, for_list (xs := bs.map V.ref) (fun i σ H' => (∃ x, σ = [some (.ref a), some (.ref p), x]) ∧ H' p = some (.lst ((Sw38.spelled (ws.take i)).map vN)) ∧ Same H H')
    ⟨⟨_, rfl⟩, upd_same, g0⟩ (fun i σ H' _ z => SqL.of (z.2.2 _ _ hA)) ?_ ?_⟩
  · rintro i x σ H' hx ⟨⟨y, rfl⟩, e1, gs⟩
    obtain ⟨b, u, rfl, hb, hui, eb⟩ := hw.of hx
    have eb' := gs _ _ eb
    have s1 := spelled_take ws i
    have s2 := spelled_take ws (i + 1)
    rw [take_get hui, spelled_snoc, List.length_append, List.length_cons] at s2
    refine ⟨_, rfl, .inl ⟨rfl, _, SqL.of e1⟩, _, rfl, b, _, rfl, .inr (SqT.of eb'), p, _, _, rfl, rfl, e1, ?_, ?_⟩
    · rw [List.length_map]; exact lt_big (by omega)
    have nbp : b ≠ p := ne_of eb' e1 (by intro z; cases z)
    have e2 : (upd H' p (.lst ((Sw38.spelled (ws.take i)).map vN ++ [.int (((u.map vN).length : Nat) : Int)]))) p = some (.lst ((Sw38.spelled (ws.take i)).map vN ++ [.int (((u.map vN).length : Nat) : Int)])) := upd_same
    refine ⟨_, rfl, .inl ⟨rfl, _, SqL.of e2⟩, _, rfl, p, b, _, _, rfl, rfl, e2, (by rw [upd_ne nbp]; exact eb'), ?_, ⟨_, rfl⟩, ?_, ?_⟩
    · rw [List.length_append, List.length_map, List.length_map, List.length_singleton]; exact le_big (by omega)
    · rw [upd_same, take_get hui, spelled_snoc, List.map_append, List.map_cons, List.append_assoc, List.length_map]
      rfl
    · exact (gs.put hp _).put hp _
  · rintro σ H' ⟨⟨y, rfl⟩, e1, gs⟩
    rw [List.length_map, bl, List.take_length] at e1
    exact ⟨_, rfl, q p H' gs e1⟩
/-! ### first_words -/
abbrev wordsL (l : List (List Nat × Nat)) : List (List Nat) := l.map fun x => x.1
def spFirsts (K : PySem.W.Frag) : Sp := fun vs H Q _ => ∃ (a : Addr) (k n : Nat) (R T : List Nat) (fw : List (List Nat × Nat)), vs = [.int k, .int n, .ref a] ∧ SqL K H a (R.map vN) ∧ Rows k n R ∧ n ≤ 12 ∧ Firsts k n R T fw ∧
  ∀ p H' bs, Same H H' → WordsAt H' (wordsL fw) bs → H' p = some (.lst (bs.map V.ref)) → Q (.ref p) H'
theorem scFirsts : FnScope ["k", "n", "rows", "words", "state", "letter", "there"] ["k", "n", "rows"] (defScope sFirsts) := ⟨rfl, rfl, rfl, by decide +kernel, rfl, by decide +kernel, by decide +kernel⟩
theorem ok_firsts {f fR : Addr} {fd fdR : FuncData} (F : Fun K "first_words" "first_words" sFirsts f fd)
    (GR : FnOk P w K mg base CX0 1 fR fdR ["k", "rows", "state"] (spRow K)) (bR : Binds K fdR ["k", "rows", "state"] []) (kR : PySem.W.keepIn K (.ref fR) = true) (mR : mg "row_of" = some (.ref fR))
    (ml : mg "len" = none) (mr : mg "range" = none) (me : mg "enumerate" = none) : FnOk P w K mg base CX0 2 f fd ["k", "n", "rows"] (spFirsts K) := by
  refine F.ok scFirsts (fun vs H Q E h => ?_) (fun cdv A outer s H vs Q E hr h => ?_)
  · obtain ⟨a, k, n, R, T, fw, rfl, _⟩ := h
    rfl
  obtain ⟨a, k, n, R, T, fw, rfl, hA, hR, hn12, hF, q⟩ := h
  refine ⟨_, pss_cons (ps_set (i := 3) scFirsts.nd rfl (Or.inl rfl) (pe_lst (pa_cons (pe_tup pa_nil) pa_nil)))
    (pss_cons (ps_for PassesOwn.never rfl (pi_range1 (by rfl) mr (pa_cons (pv 1) pa_nil)) (pg_name (i := 4) scFirsts.nd rfl (Or.inl rfl))
      (pss_one (ps_for PassesOwn.never rfl (pi_enum (by rfl) me (pa_cons (pe_call GR hr rfl mR kR bR .nil pass0 (pa_cons (pv 0) (pa_cons (pv 2) (pa_cons (pv 4) pa_nil)))) pa_nil))
        (pg_tup rfl (pgs_cons (pg_name (i := 5) scFirsts.nd rfl (Or.inl rfl)) (pgs_cons (pg_name (i := 6) scFirsts.nd rfl (Or.inl rfl)) pgs_nil)))
        (pss_one (ps_if (pt_cmpR op_eq (pv 6) (pe_callB call_len_seq (by rfl) ml PySem.boot_len (pa_cons (pv 3) pa_nil)) (nomark _))
          (pss_one (ps_expr (pe_bm PySem.F.plainAttrs_list PySem.F.slot_list_append PySem.F.type_list_append mt_append (pv 3)
            (pa_cons (pe_op op_catW (pe_ix ix_list (pv 3) (pv 4) (fun _ _ => rfl)) (pe_tup (pa_cons (pv 5) pa_nil))) pa_nil))))
          pss_nil)))))
    (pss_one (ps_ret (pv 3)))), ?_⟩
  have n1 := hR.n1
  have k16 := hR.k16
  have hlen := hF.len
  refine ⟨(by show 0 ≤ sizeLine; decide), fun t0 ht0 => ⟨(by show 1 ≤ sizeLine; decide), fun p hp => ?_⟩⟩
  have np : t0 ≠ p := fun z => by subst z; rw [upd_same] at hp; cases hp
  have hp' : H p = none := by rw [upd_ne np.symm] at hp; exact hp
  have g0 : Same H (upd (upd H t0 (.tup [])) p (.lst [V.ref t0])) := (Same.new ht0 _).put hp' _
  have w0 : WordsAt (upd (upd H t0 (.tup [])) p (.lst [V.ref t0])) [[]] [t0] := WordsAt.one (by rw [upd_ne np, upd_same]; rfl)
  refine ⟨_, rfl, (n : Int), rfl, by omega, by omega, for_range (n := n) (fun i σ H' => ∃ (lw : List (List Nat × Nat)) (bs : List Addr) (x y z : Option V), σ = [some (.int k), some (.int n), some (.ref a), some (.ref p), x, y, z] ∧
      ReachW (mach k n R T).next k 0 i lw ∧ WordsAt H' (wordsL lw) bs ∧ H' p = some (.lst (bs.map V.ref)) ∧ Same H H')
    ⟨[([], 0)], [t0], _, _, _, rfl, .start, w0, upd_same, g0⟩ ?_ ?_⟩
  · rintro i σ H' hi ⟨lw, bs, x, y, z, rfl, hre, hw, hH, gs⟩
    have hil := reachW_at hF.re hi hre
    obtain ⟨wd, hwd⟩ := hF.at hi hre hil
    refine ⟨_, rfl, _, rfl, _, rfl, a, R, k, i, ?_, gs.seq hA, k16, mach_at hF.mc hi, fun pr hpr => ?_⟩
    · rw [Int.zero_add]; rfl
    have nppr : p ≠ pr := ne_of_none hH hpr
    have gpr : Same H' (upd H' pr (.lst ((rowA k R i).map vN))) := Same.new hpr _
    have rl : ((rowA k R i).map vN).length = k := by rw [List.length_map]; exact row_full hF.mc hi
    refine ⟨pr, _, rfl, SqL.of upd_same, for_enum (xs := (rowA k R i).map vN) (fun c σ' H2 => ∃ (cs : List Addr) (y z : Option V), σ' = [some (.int k), some (.int n), some (.ref a), some (.ref p), some (.int (0 + (i : Int))), y, z] ∧
        WordsAt H2 (wordsL (pushLs (mach k n R T).next wd i lw (List.range c))) cs ∧ H2 p = some (.lst (cs.map V.ref)) ∧ H2 pr = some (.lst ((rowA k R i).map vN)) ∧ Same H H2)
      ⟨bs, _, _, rfl, hw.same gpr, gpr _ _ hH, upd_same, gs.trans gpr⟩ (fun c σ' H2 _ z => let ⟨_, _, _, _, _, _, e, _⟩ := z; SqL.of e) ?_ ?_⟩
    · rintro c v σ' H2 t0' hv ⟨cs, y', z', rfl, hw2, hH2, hr2, g2⟩ hT
      obtain ⟨t, ht, rfl⟩ := of_map_get hv
      have hck : c < k := by
        have := (List.getElem?_eq_some_iff.mp ht).1
        rwa [row_full hF.mc hi] at this
      rw [row_at hF.mc hi hck] at ht
      have ht' : (mach k n R T).next i c = t := Option.some.inj ht
      subst ht'
      have gT : Same H2 (upd H2 t0' (.tup [.int ((c : Nat) : Int), vN ((mach k n R T).next i c)])) := Same.new hT _
      have hst := hF.step hi hre hwd hck
      obtain ⟨mo, emo⟩ := pushLs_pre (mach k n R T).next wd i (List.range c) lw
      have hat : (pushLs (mach k n R T).next wd i lw (List.range c))[i]? = some (wd, i) := by rw [emo, List.getElem?_append_left hil]; exact hwd
      have hln : (pushLs (mach k n R T).next wd i lw (List.range c)).length ≤ lw.length + c := by
        have e := congrArg List.length (pushLs_map (mach k n R T).next wd i (List.range c) lw)
        have := dd_len ((List.range c).map ((mach k n R T).next i)) (lw.map (·.2))
        rw [List.length_map] at e
        rw [List.length_map, List.length_map, List.length_range] at this
        omega
      have okl := hre.ok (P := fun s => s < n) (by omega) fun a c ha hc => next_lt hF.mc ha hc
      have few := okl.few (U := List.range n) fun a ha => List.mem_range.mpr ha
      rw [List.length_range] at few
      have wl := okl.long _ (List.mem_of_getElem? hwd)
      dsimp only at wl
      generalize hlc : pushLs (mach k n R T).next wd i lw (List.range c) = lc at hst hat hln hw2
      have csl := hw2.1
      unfold wordsL at csl
      rw [List.length_map] at csl
      have hH3 := gT _ _ hH2
      refine ⟨t0', _, rfl, SqT.of upd_same, rfl, _, _, rfl, _, _, rfl, rfl, ?_⟩
      refine ⟨_, rfl, _, rfl, p, _, rfl, .inl (SqL.of hH3), rfl, _, rfl, ?_⟩
      refine ite2 (fun c1 => ?_) (fun c1 => ?_)
      · have c2 : vN ((mach k n R T).next i c) = V.int (((cs.map V.ref).length : Nat) : Int) := of_decide_eq_true c1
        rw [List.length_map, csl] at c2
        have c3 : (mach k n R T).next i c = lc.length := by injection c2 with c2; omega
        rw [if_pos c3] at hst
        obtain ⟨b, hb, eb⟩ := hw2.2 i wd (by unfold wordsL; rw [List.getElem?_map, hat]; rfl)
        have eb3 := gT _ _ eb
        refine ⟨_, rfl, .inl ⟨rfl, _, SqL.of hH3⟩, _, rfl, _, rfl, p, _, _, _, rfl, rfl, SqL.of hH3, (by rw [Int.zero_add]; exact at_ref hb), _, rfl, (by show 1 ≤ sizeLine; decide), fun t1 ht1 => ?_⟩
        refine ⟨b, t1, _, _, rfl, rfl, (by rw [upd_ne (ne_of_none eb3 ht1)]; exact eb3), upd_same, ?_, fun z H4 g4 e4 => ?_⟩
        · rw [List.length_map, List.length_singleton]; exact le_big (by omega)
        have g34 := (gT.trans (Same.new ht1 (.tup [.int ((c : Nat) : Int)]))).trans g4
        refine ⟨p, _, _, rfl, rfl, g34 _ _ hH2, ?_, cs ++ [z], _, _, rfl, ?_, by rw [upd_same, List.map_append]; rfl, ?_, (g2.trans g34).put hp' _⟩
        · rw [List.length_map]; exact lt_big (by omega)
        · rw [hst]
          unfold wordsL
          rw [List.map_append]
          refine ((hw2.same g34).append (WordsAt.one (u := wd ++ [c]) ?_)).upd (g34 _ _ hH2) (by intro _ y; cases y)
          rw [e4, List.map_append]; rfl
        · rw [upd_ne nppr.symm]; exact g34 _ _ hr2
      · have c2 : ¬ vN ((mach k n R T).next i c) = V.int (((cs.map V.ref).length : Nat) : Int) := of_decide_eq_false (Bool.eq_false_iff.mpr c1)
        rw [List.length_map, csl] at c2
        have c3 : ¬ (mach k n R T).next i c = lc.length := fun z => c2 (by rw [z])
        rw [if_neg c3] at hst
        exact ⟨cs, _, _, rfl, by rw [hst]; exact hw2.same gT, hH3, gT _ _ hr2, g2.trans gT⟩
    · rintro σ' H2 ⟨cs, y', z', rfl, hw2, hH2, hr2, g2⟩
      rw [rl] at hw2
      exact ⟨_, cs, _, _, _, rfl, .step hre hwd, hw2, hH2, g2⟩
  · rintro σ H' ⟨lw, bs, x, y, z, rfl, hre, hw, hH, gs⟩
    have e := reachW_det hre hF.re
    subst e
    exact ⟨_, rfl, q p H' bs gs hw hH⟩
end
end Lp
set_option maxRecDepth 100000
set_option maxHeartbeats 4000000
namespace Lp
open PySem L2 Lm
/-! ### words as keys -/
def keyW (u : List Nat) : List Key := u.map kN
theorem keyW_inj : ∀ a b : List Nat, keyW a = keyW b → a = b := fun a b h => List.map_inj_right (fun _ _ e => kN_inj e) |>.mp h
theorem keyW_V (u : List Nat) : (keyW u).map kV = u.map vN := by unfold keyW; rw [List.map_map]; rfl
def wordsT (l : List (List Nat)) : List (List Key × V) := l.map fun u => (keyW u, V.bl true)
theorem wordsT_put {l : List (List Nat)} {u : List Nat} : putK (wordsT l) (keyW u) (.bl true) = wordsT (push l u) := by
  by_cases h : u ∈ l
  · rw [push_in h]
    unfold putK
    have ha : ((wordsT l).any fun kv => decide (kv.1 = keyW u)) = true := by
      rw [List.any_eq_true]
      exact ⟨(keyW u, V.bl true), List.mem_map.mpr ⟨u, h, rfl⟩, decide_eq_true rfl⟩
    rw [if_pos ha]
    unfold wordsT
    rw [List.map_map]
    refine List.map_congr_left fun v _ => ?_
    show (if keyW v = keyW u then (keyW v, V.bl true) else (keyW v, V.bl true)) = _
    split <;> rfl
  · rw [push_out h, putK_new _ (show valV (wordsT l) (keyW u) = none from valV_map_out keyW_inj _ h)]
    unfold wordsT
    rw [List.map_append]; rfl
theorem wordsT_len (l : List (List Nat)) : (wordsT l).length = l.length := List.length_map ..
theorem wordsAt_T {H : Hp} {l : List (List Nat)} {bs : List Addr} (hl : bs.length = (wordsT l).length) (h : ∀ (j : Nat) (k : List Key) (v : V), (wordsT l)[j]? = some (k, v) → ∃ b, bs[j]? = some b ∧ H b = some (.tup (k.map kV))) : WordsAt H l bs := by
  refine ⟨by rw [hl, wordsT_len], fun i u e => ?_⟩
  obtain ⟨b, e1, e2⟩ := h i (keyW u) (.bl true) (by unfold wordsT; rw [List.getElem?_map, e]; rfl)
  rw [keyW_V] at e2
  exact ⟨b, e1, e2⟩
section
variable {P : Program} {w : World} {K : PySem.W.Frag} {mg : Str → Option Value} {base : Heap}
/-! ### tail_words -/
/-- no two states are alike -/
def NotAlike (k n : Nat) (R T : List Nat) : Prop := ∀ i j, i < n → j < n → i ≠ j → ∀ l : List (List Nat × Nat × Nat), ReachW (next2 (mach k n R T) (mach k n R T)) k (i, j) l.length l → (∀ x, x < l.length → ∀ w p, l[x]? = some (w, p) → alike2 (mach k n R T) (mach k n R T) p = true) → False
def Telling (k n : Nat) (R T : List Nat) (j i : Nat) : Prop := ∃ u, Sw38.apartFrom k (mach k n R T) (mach k n R T) 2000 [(j, i)] [([], j, i)] = some u
def spTail (K : PySem.W.Frag) : Sp := fun vs H Q _ => ∃ (a b : Addr) (k n : Nat) (R T : List Nat), vs = [.int k, .int n, .ref a, .ref b] ∧ SqL K H a (R.map vN) ∧ SqL K H b (T.map vN) ∧ Two k n n R T R T ∧ n ≤ 12 ∧ NotAlike k n R T ∧
  ∀ p H' bs, Same H H' → WordsAt H' (tailW k (mach k n R T) n) bs → H' p = some (.lst (bs.map V.ref)) → (∀ u ∈ tailW k (mach k n R T) n, u.length ≤ 143) → (∀ i j, i < j → j < n → Telling k n R T j i) → Q (.ref p) H'
theorem scTail : FnScope ["k", "n", "rows", "takes", "words", "state", "other", "word"] ["k", "n", "rows", "takes"] (defScope sTail) := ⟨rfl, rfl, rfl, by decide +kernel, rfl, by decide +kernel, by decide +kernel⟩
theorem ok_tail {f fF : Addr} {fd fdF : FuncData} (F : Fun K "tail_words" "tail_words" sTail f fd)
    (GF : FnOk P w K mg base CX0 2 fF fdF ["k", "rows", "takes", "rows2", "takes2", "start"] (spFirst K)) (bF : Binds K fdF ["k", "rows", "takes", "rows2", "takes2", "start"] []) (kF : PySem.W.keepIn K (.ref fF) = true) (mF : mg "first_word_apart" = some (.ref fF))
    (mr : mg "range" = none) (mt : mg "tuple" = none) (mi : mg "list" = none) : FnOk P w K mg base CX0 3 f fd ["k", "n", "rows", "takes"] (spTail K) := by
  refine F.ok scTail (fun vs H Q E h => ?_) (fun cdv A outer s H vs Q E hr h => ?_)
  · obtain ⟨a, b, k, n, R, T, rfl, _⟩ := h
    rfl
  obtain ⟨a, b, k, n, R, T, rfl, hA, hB, h2m, hn12, hna, q⟩ := h
  have hu := hu_of hr
  refine ⟨_, pss_cons (ps_set (i := 4) scTail.nd rfl (Or.inl rfl) (pe_dispT hu (pe_tup pa_nil) pe_bl))
    (pss_cons (ps_for PassesOwn.never rfl (pi_range1 (by rfl) mr (pa_cons (pv 1) pa_nil)) (pg_name (i := 5) scTail.nd rfl (Or.inl rfl))
      (pss_one (ps_for PassesOwn.never rfl (pi_range1 (by rfl) mr (pa_cons (pv 5) pa_nil)) (pg_name (i := 6) scTail.nd rfl (Or.inl rfl))
        (pss_cons (ps_set (i := 7) scTail.nd rfl (Or.inl rfl) (pe_call GF hr rfl mF kF bF .nil pass0 (pa_cons (pv 0) (pa_cons (pv 2) (pa_cons (pv 3) (pa_cons (pv 2) (pa_cons (pv 3) (pa_cons (pe_tup (pa_cons (pv 5) (pa_cons (pv 6) pa_nil))) pa_nil))))))))
        (pss_one (ps_dput hu (pv 4) (pe_callTy call_tuple_of (by rfl) mt PyProof.Rows.boot_tuple (pa_cons (pv 7) pa_nil)) pe_bl rfl))))))
    (pss_one (ps_ret (pe_callTy (call_listD rfl) (by rfl) mi PyProof.Rows.boot_list (pa_cons (pv 4) pa_nil))))), ?_⟩
  have nn : n * n ≤ 144 := Nat.mul_le_mul hn12 hn12
  intro ps hps
  refine ⟨(by show 0 ≤ sizeLine; decide), fun t0 ht0 => ⟨t0, [], rfl, upd_same, ?_, ?_⟩⟩
  · rw [upd_ne (fun z => by subst z; rw [upd_same] at ht0; cases ht0), upd_same]
  have nt0 : ps ≠ t0 := fun z => by subst z; rw [upd_same] at ht0; cases ht0
  have ht0' : H t0 = none := by rw [upd_ne nt0.symm] at ht0; exact ht0
  generalize hH1 : upd (upd (upd H ps (.dT [])) t0 (.tup [])) ps (.dT [([], .bl true)]) = H1
  have g1 : Same H H1 := by rw [← hH1]; exact ((Same.new hps _).put ht0' _).put hps _
  have e1 : H1 ps = some (.dT (wordsT [[]])) := by rw [← hH1, upd_same]; rfl
  refine ⟨_, rfl, (n : Int), rfl, by omega, by omega, for_range (n := n) (fun j σ H' => ∃ (x y z : Option V), σ = [some (.int k), some (.int n), some (.ref a), some (.ref b), some (.ref ps), x, y, z] ∧
      H' ps = some (.dT (wordsT (ext [[]] (tailV k (mach k n R T) j)))) ∧ (∀ u ∈ ext [[]] (tailV k (mach k n R T) j), u.length ≤ 143) ∧ (∀ i j', i < j' → j' < j → Telling k n R T j' i) ∧ Same H H')
    ⟨_, _, _, rfl, e1, by simp [tailV, ext], fun i j' _ h => absurd h (Nat.not_lt_zero _), g1⟩ ?_ ?_⟩
  · rintro j σ H' hj ⟨x, y, z, rfl, e2, hb2, ht2, g2⟩
    refine ⟨_, rfl, (j : Int), (by rw [Int.zero_add]), by omega, by omega, for_range (n := j) (fun i σ H' => ∃ (y z : Option V), σ = [some (.int k), some (.int n), some (.ref a), some (.ref b), some (.ref ps), some (.int (0 + (j : Int))), y, z] ∧
        H' ps = some (.dT (wordsT (ext [[]] (tailV k (mach k n R T) j ++ (List.range i).map (tw k (mach k n R T) j))))) ∧ (∀ u ∈ ext [[]] (tailV k (mach k n R T) j ++ (List.range i).map (tw k (mach k n R T) j)), u.length ≤ 143) ∧
        (∀ i' j', i' < j' → (j' < j ∨ (j' = j ∧ i' < i)) → Telling k n R T j' i') ∧ Same H H')
      ⟨_, _, rfl, by rw [List.range_zero, List.map_nil, List.append_nil]; exact e2, by rw [List.range_zero, List.map_nil, List.append_nil]; exact hb2, fun i' j' h h' => h'.elim (ht2 i' j' h) (fun z => absurd z.2 (Nat.not_lt_zero _)), g2⟩ ?_ ?_⟩
    · rintro i σ' H3 hi ⟨y', z', rfl, e3, hb3, ht3, g3⟩
      refine ⟨_, rfl, _, rfl, _, rfl, _, rfl, _, rfl, _, rfl, _, rfl, (by show 2 ≤ sizeLine; decide), fun t ht => ?_⟩
      have gt := g3.trans (Same.new ht (.tup [.int (0 + (j : Int)), .int (0 + (i : Int))]))
      refine ⟨a, b, a, b, t, k, n, n, j, i, R, T, R, T, rfl, h2m, gt.seq hA, gt.seq hB, gt.seq hA, gt.seq hB, (by rw [upd_same, Int.zero_add, Int.zero_add]), hj, by omega, fun p H4 wd g4 e4 hl hd => ?_, fun H4 l _ hre hal => ?_⟩
      · have due := hd 2000 (by omega)
        have etw : tw k (mach k n R T) j i = wd := by
          unfold tw
          rw [show Sw38.apartFrom k (mach k n R T) (mach k n R T) 2000 [(j, i)] [([], j, i)] = some wd from due]; rfl
        have g34 := (Same.new ht (.tup [.int (0 + (j : Int)), .int (0 + (i : Int))])).trans g4
        have e5 := g34 _ _ e3
        have vl := len_tailV k (mach k n R T) j
        have jj : j * j ≤ 12 * 12 := Nat.mul_le_mul (by omega) (by omega)
        have xl := dd_len (tailV k (mach k n R T) j ++ (List.range i).map (tw k (mach k n R T) j)) [[]]
        rw [List.length_append, List.length_map, List.length_range, List.length_singleton] at xl
        refine ⟨_, rfl, _, rfl, p, _, rfl, .inl ⟨SqL.of e4, fun t2 ht2 => ?_⟩⟩
        have e6 : (upd H4 t2 (.tup (wd.map vN))) ps = some (.dT (wordsT (ext [[]] (tailV k (mach k n R T) j ++ (List.range i).map (tw k (mach k n R T) j))))) := by rw [upd_ne (ne_of_none e5 ht2)]; exact e5
        refine ⟨ps, _, rfl, DPut.t (k := keyW wd) e6 (by rw [upd_same, keyW_V]) ?_, ?_⟩
        · rw [wordsT_len]; exact lt_big (by omega)
        have epush : push (ext [[]] (tailV k (mach k n R T) j ++ (List.range i).map (tw k (mach k n R T) j))) wd = ext [[]] (tailV k (mach k n R T) j ++ (List.range (i + 1)).map (tw k (mach k n R T) j)) := by
          rw [List.range_succ, List.map_append, ← List.append_assoc, List.map_singleton, ext_snoc, etw]
        refine ⟨_, _, rfl, ?_, fun u hu => ?_, fun i' j' h h' => ?_, ((g3.trans g34).trans (Same.new ht2 _)).put hps _⟩
        · rw [upd_same, wordsT_put, epush]
        · rw [← epush] at hu
          rcases mem_push.mp hu with hu | hu
          · exact hb3 u hu
          · rw [hu]; omega
        · rcases h' with h' | ⟨rfl, h'⟩
          · exact ht3 i' j' h (.inl h')
          · by_cases e : i' < i
            · exact ht3 i' j' h (.inr ⟨rfl, e⟩)
            · have : i' = i := by omega
              subst this
              exact ⟨wd, due⟩
      · exact (hna j i hj (by omega) (by omega) l hre hal).elim
    · rintro σ' H3 ⟨y', z', rfl, e3, hb3, ht3, g3⟩
      refine ⟨_, _, _, rfl, by rw [tailV_succ]; exact e3, by rw [tailV_succ]; exact hb3, fun i' j' h h' => ht3 i' j' h ?_, g3⟩
      by_cases e : j' < j
      · exact .inl e
      · exact .inr ⟨by omega, by omega⟩
  · rintro σ H' ⟨x, y, z, rfl, e2, hb2, ht2, g2⟩
    refine ⟨_, rfl, ps, _, rfl, e2, fun l bs hl hlen hbs => ?_⟩
    exact q l _ bs (g2.trans (Same.new hl _)) ((wordsAt_T hlen hbs).same (Same.new hl _)) upd_same hb2 ht2
end
end Lp
set_option maxRecDepth 100000
set_option maxHeartbeats 4000000
namespace Lp
open PySem L2 Lm
/-! ### words in order, as numbers -/
abbrev intsW (u : List Nat) : List Int := u.map fun (x : Nat) => (x : Int)
theorem lex_less : ∀ {u v : List Nat}, u.length = v.length → HT.lexLt (intsW u) (intsW v) = Sw38.less u v
  | [], [], _ => rfl
  | [], _ :: _, h => by simp at h
  | _ :: _, [], h => by simp at h
  | x :: u, y :: v, h => by
    have ih := lex_less (u := u) (v := v) (by simpa using h)
    show HT.lexLt ((x : Int) :: intsW u) ((y : Int) :: intsW v) = _
    rw [HT.lexLt_cons]
    unfold Sw38.less
    by_cases e : x = y
    · subst e; rw [if_pos rfl, if_pos rfl, ih]
    · rw [if_neg e, if_neg (by omega), decide_eq_decide]; omega
theorem wordLt_before (u v : List Nat) : wordLt (intsW u) (intsW v) = Sw38.before u v := by
  by_cases h : u.length = v.length
  · rw [wordLt_same (by rw [List.length_map, List.length_map, h]), lex_less h]
    unfold Sw38.before
    rw [h]; simp
  · rw [wordLt_diff (by rw [List.length_map, List.length_map]; omega), List.length_map, List.length_map]
    unfold Sw38.before
    rw [show (u.length == v.length) = false from by rw [beq_eq_false_iff_ne]; exact h, Bool.false_and, Bool.or_false, decide_eq_decide]
    omega
theorem sorted_words {l : List (List Nat)} {ws' : List (List Int)} (hn : l.Nodup) (hp : ws'.Perm (l.map intsW)) (hs : ws'.Pairwise (fun a b => wordLt b a = false)) : ∃ us : List (List Nat), ws' = us.map intsW ∧ us.Perm l ∧ InOrder us := by
  obtain ⟨us, h1, rfl⟩ := perm_map (f := intsW) hp rfl
  refine ⟨us, rfl, h1, ?_⟩
  have nd : us.Nodup := h1.nodup_iff.mpr hn
  have hs' := List.pairwise_map.mp hs
  refine (hs'.and nd).imp fun {a b} h => ?_
  obtain ⟨h, hne⟩ := h
  rw [wordLt_before] at h
  rcases before_total hne with z | z
  · exact z
  · rw [h] at z; cases z
theorem len_tailV2 (k : Nat) (m : Sw38.Machine) : ∀ j, 2 * (tailV k m j).length + j = j * j
  | 0 => by simp [tailV]
  | j + 1 => by
    rw [tailV_succ, List.length_append, List.length_map, List.length_range]
    have := len_tailV2 k m j
    have e : (j + 1) * (j + 1) = j * j + j + j + 1 := by rw [Nat.add_mul, Nat.mul_add]; omega
    omega
theorem tail_few {k n : Nat} {m : Sw38.Machine} (h : n ≤ 12) : (tailW k m n).length ≤ 67 := by
  have h1 := len_tailV2 k m n
  have h2 : n * n ≤ 12 * n := Nat.mul_le_mul_right n h
  have h3 := dd_len (tailV k m n) [[]]
  rw [List.length_singleton] at h3
  show (ext [[]] (tailV k m n)).length ≤ 67
  omega
section
variable {P : Program} {w : World} {K : PySem.W.Frag} {mg : Str → Option Value} {base : Heap}
/-- a def whose code is known -/
theorem Fun.okC {x qual : Str} {st : Stmt} {f c : Addr} {fd : FuncData} {N ps : List Str} {k : Nat} {sp : Sp} (F : Fun K x qual st f fd)
    (hc : ∀ (oc : Value) (od : Option Addr) (kV doc pm : Value) (an : Option Addr) (cdv ct : Value) (osl : Array (Option Value)), K.lookup f = some ⟨oc, od, .func (PySem.W.fnOf x qual (defArgs st) (defBody st) (defScope st) .none kV doc pm an cdv ct), osl⟩ → cdv = .ref c)
    (S : FnScope N ps (defScope st)) (len : ∀ vs H Q E, sp vs H Q E → vs.length = ps.length)
    (hbody : ∀ (A : Around) (outer : List Env) (s : Shared) (H : Hp) (vs : List V) (Q : VK) (E : XK), Room k (A.deeper (PyProof.Rows.envOfC qual (defScope st) s.heap.objs.size f (.ref c))) → sp vs H Q E →
      ∃ t, PSs (cxOf CX0 P w K mg base N qual (defScope st) f (.ref c) A outer s H E).nox (defBody st) t ∧ t { nx := fun _ H' => Q .non H', rt := Q } (start N vs) H) : FnOk P w K mg base CX0 (k + 1) f fd ps sp := by
  obtain ⟨oc, od, kV, doc, pm, an, cdv, ct, osl, rfl, lk, hcd⟩ := F.ex
  have e := hc _ _ _ _ _ _ _ _ _ lk
  subst e
  refine fn_of lk hcd S len fun A outer s H vs Q E hr hsp => ?_
  obtain ⟨t, h, q⟩ := hbody A outer s H vs Q E hr hsp
  exact ⟨t, h.nox, q⟩
/-! ### the key that words are sorted by -/
def lam : Expr := match (defBody sThree).getD 5 (.Pass ⟨0, 0, 0, 0⟩) with
  | .Return (some (.Call _ _ (kw :: _) _)) _ => kw.value
  | _ => .Constant .none 0 ⟨0, 0, 0, 0⟩
def lamScope : Scope := match lam with
  | .Lambda _ _ sc _ => sc
  | _ => { kind := .function, names := [], isGenerator := false, isCoroutine := false }
def lamBody : Expr := match lam with
  | .Lambda _ b _ _ => b
  | x => x
theorem scLam : FnScope ["word"] ["word"] lamScope := ⟨rfl, rfl, rfl, by decide +kernel, rfl, by decide +kernel, by decide +kernel⟩
theorem key_ok {X : Cx} (ml : X.mg "len" = none) : KeyBody X "word" lamScope lamBody := fun f qual cdv A outer s H E =>
  ⟨_, pe_tup (pa_cons (pe_callB call_len_seq (by rfl) ml PySem.boot_len (pa_cons (pv 0) pa_nil)) (pa_cons (pv 0) pa_nil)), fun b a H' Q e q => ⟨_, rfl, b, _, rfl, .inr (SqT.of e), _, rfl, (by show 2 ≤ sizeLine; decide), fun t ht => by
    have z := q t ht
    rw [← List.length_map (f := V.int)] at z
    exact z⟩⟩
/-! ### words_of_three_parts -/
structure Given3 (k n e : Nat) (R T : List Nat) (fw : List (List Nat × Nat)) : Prop where
  two : Two k n n R T R T
  rows : Rows k n R
  k4 : k ≤ 4
  n12 : n ≤ 12
  e2 : e ≤ 2
  fst : Firsts k n R T fw
  na : NotAlike k n R T
def spThree (K : PySem.W.Frag) (Pt : Addr) : Sp := fun vs H Q _ => ∃ (a b : Addr) (k n e : Nat) (R T : List Nat) (fw : List (List Nat × Nat)), vs = [.int k, .int n, .int e, .ref a, .ref b] ∧ SqL K H a (R.map vN) ∧ SqL K H b (T.map vN) ∧ Given3 k n e R T fw ∧ H Pt = some (.tbl #[]) ∧
  ∀ p H' bs, WordsAt H' (Sw38.testOf k (mach k n R T) e) bs → H' p = some (.lst (bs.map V.ref)) → (Sw38.spelled (Sw38.testOf k (mach k n R T) e)).length ≤ 16000000 → Q (.ref p) H'
theorem scThree : FnScope ["k", "n", "more", "rows", "takes", "heads", "middles", "tails", "words", "head", "middle", "tail"] ["k", "n", "more", "rows", "takes"] (defScope sThree) := ⟨rfl, rfl, rfl, by decide +kernel, rfl, by decide +kernel, by decide +kernel⟩
theorem ok_three {f fH fF fU fT c Pt : Addr} {fd fdH fdF fdU fdT : FuncData} (F : Fun K "words_of_three_parts" "words_of_three_parts" sThree f fd)
    (hcd : ∀ (oc : Value) (od : Option Addr) (kV doc pm : Value) (an : Option Addr) (cdv ct : Value) (osl : Array (Option Value)), K.lookup f = some ⟨oc, od, .func (PySem.W.fnOf "words_of_three_parts" "words_of_three_parts" (defArgs sThree) (defBody sThree) (defScope sThree) .none kV doc pm an cdv ct), osl⟩ → cdv = .ref c)
    (hC : PySem.W.CodeHd base c Pt) (hbm : base.BuiltinsAt mg Pt)
    (GH : FnOk P w K mg base CX0 1 fH fdH ["k", "firsts"] (spHead K)) (bH : Binds K fdH ["k", "firsts"] []) (kH : PySem.W.keepIn K (.ref fH) = true) (mH : mg "head_words" = some (.ref fH))
    (GF : FnOk P w K mg base CX0 2 fF fdF ["k", "n", "rows"] (spFirsts K)) (bF : Binds K fdF ["k", "n", "rows"] []) (kF : PySem.W.keepIn K (.ref fF) = true) (mF : mg "first_words" = some (.ref fF))
    (GU : FnOk P w K mg base CX0 1 fU fdU ["k", "longest"] (spUpTo K)) (bU : Binds K fdU ["k", "longest"] []) (kU : PySem.W.keepIn K (.ref fU) = true) (mU : mg "words_up_to" = some (.ref fU))
    (GT : FnOk P w K mg base CX0 3 fT fdT ["k", "n", "rows", "takes"] (spTail K)) (bT : Binds K fdT ["k", "n", "rows", "takes"] []) (kT : PySem.W.keepIn K (.ref fT) = true) (mT : mg "tail_words" = some (.ref fT))
    (ml : mg "len" = none) (ms : mg "sorted" = none) : FnOk P w K mg base CX0 4 f fd ["k", "n", "more", "rows", "takes"] (spThree K Pt) := by
  refine Fun.okC F hcd scThree (fun vs H Q E h => ?_) (fun A outer s H vs Q E hr h => ?_)
  · obtain ⟨a, b, k, n, e, R, T, fw, rfl, _⟩ := h
    rfl
  obtain ⟨a, b, k, n, e, R, T, fw, rfl, hA, hB, G, hPt, q⟩ := h
  have hu := hu_of hr
  have hr1 := hr.mono (j := 1) (by decide)
  have hr2 := hr.mono (j := 2) (by decide)
  refine ⟨_, pss_cons (ps_set (i := 5) scThree.nd rfl (Or.inl rfl) (pe_call GH hr1 rfl mH kH bH .nil pass0 (pa_cons (pv 0) (pa_cons (pe_call GF hr2 rfl mF kF bF .nil pass0 (pa_cons (pv 0) (pa_cons (pv 1) (pa_cons (pv 3) pa_nil)))) pa_nil))))
    (pss_cons (ps_set (i := 6) scThree.nd rfl (Or.inl rfl) (pe_call GU hr1 rfl mU kU bU .nil pass0 (pa_cons (pv 0) (pa_cons (pv 2) pa_nil))))
    (pss_cons (ps_set (i := 7) scThree.nd rfl (Or.inl rfl) (pe_call GT hr rfl mT kT bT .nil pass0 (pa_cons (pv 0) (pa_cons (pv 1) (pa_cons (pv 3) (pa_cons (pv 4) pa_nil))))))
    (pss_cons (ps_set (i := 8) scThree.nd rfl (Or.inl rfl) pe_dnewT)
    (pss_cons (ps_for PassesOwn.never rfl (pi_list (pv 5)) (pg_name (i := 9) scThree.nd rfl (Or.inl rfl))
      (pss_one (ps_for PassesOwn.never rfl (pi_list (pv 6)) (pg_name (i := 10) scThree.nd rfl (Or.inl rfl))
        (pss_one (ps_for PassesOwn.never rfl (pi_list (pv 7)) (pg_name (i := 11) scThree.nd rfl (Or.inl rfl))
          (pss_one (ps_dput hu (pv 8) (pe_op op_catW (pe_op op_catW (pv 9) (pv 10)) (pv 11)) pe_bl rfl)))))))
    (pss_one (ps_ret (pe_sorted (x := "word") (sc := lamScope) (body := lamBody) (by rfl) ms (pa_cons (pv 8) pa_nil) rfl hC hbm rfl hr scLam rfl rfl (fun _ _ _ _ _ => rfl) (key_ok ml)))))))), ?_⟩
  have k1 := G.rows.k1
  have hlenF := G.fst.len
  have n1 := G.rows.n1
  have hn12 := G.n12
  have longF := G.fst.long n1
  have hfw : (wordsL fw).length ≤ 12 := by unfold wordsL; rw [List.length_map]; omega
  have hfl : ∀ u ∈ wordsL fw, u.length ≤ 11 := fun u hu => by
    obtain ⟨x, hx, rfl⟩ := List.mem_map.mp hu
    have := longF x hx
    omega
  -- heads, middles, tails
  refine ⟨_, rfl, _, rfl, _, rfl, _, rfl, a, k, n, R, T, fw, rfl, hA, G.rows, G.n12, G.fst, fun p1 H1 bs1 g1 w1 e1 => ?_⟩
  refine ⟨k, p1, wordsL fw, bs1, rfl, G.k4, w1, e1, hfw, fun u hu => Nat.le_succ_of_le (hfl u hu), fun ph H2 hs g2 w2 e2 => ?_⟩
  refine ⟨_, rfl, _, rfl, k, e, rfl, k1, G.k4, G.e2, fun pm H3 us g3 w3 e3 => ?_⟩
  have g13 := (g1.trans g2).trans g3
  refine ⟨_, rfl, _, rfl, _, rfl, _, rfl, a, b, k, n, R, T, rfl, g13.seq hA, g13.seq hB, G.two, G.n12, G.na, fun pt H4 ts g4 w4 e4 hb4 ht4 => ?_⟩
  have w2' := (w2.same g3).same g4
  have w3' := w3.same g4
  have e2' := g4 _ _ (g3 _ _ e2)
  have e3' := g4 _ _ e3
  have hPt4 := g4 _ _ (g13 _ _ hPt)
  have few4 := tail_few (k := k) (m := mach k n R T) G.n12
  have few2 : (headW k (wordsL fw)).length ≤ 60 := by
    have := len_headW (k := k) (fs := wordsL fw)
    have h2 : (wordsL fw).length * (k + 1) ≤ 12 * 5 := Nat.mul_le_mul hfw (by have := G.k4; omega)
    omega
  have few3 : (midsOf k e).length ≤ 21 := by
    obtain ⟨z1, z2⟩ := wl_facts k1 G.k4 G.e2
    rw [← z1]
    exact (z2 _ (Nat.le_refl _)).2.1
  have len2 : ∀ u ∈ headW k (wordsL fw), u.length ≤ 12 := fun u hu => by
    unfold headW at hu
    rcases List.mem_append.mp hu with hu | hu
    · have := hfl u hu; omega
    · obtain ⟨v, hv, hu⟩ := List.mem_flatMap.mp hu
      obtain ⟨c, _, rfl⟩ := List.mem_map.mp hu
      have := hfl v hv
      rw [List.length_append, List.length_singleton]; omega
  have len3 : ∀ u ∈ midsOf k e, u.length ≤ 2 := fun u hu => Nat.le_trans (mem_mids.mp hu).1 G.e2
  generalize htl : tailW k (mach k n R T) n = tl at w4 hb4 few4
  generalize hmd : midsOf k e = md at w3' few3 len3
  generalize hhd : headW k (wordsL fw) = hd at w2' few2 len2
  have l2 := w2'.1
  have l3 := w3'.1
  have l4 := w4.1
  -- words = {}
  intro ps hps
  have nhs : ph ≠ ps := ne_of_none e2' hps
  have nms : pm ≠ ps := ne_of_none e3' hps
  have nts : pt ≠ ps := ne_of_none e4 hps
  have cnt1 : ∀ i, ((hd.take i).flatMap fun p => md.flatMap fun u => tl.map fun t => p ++ u ++ t).length ≤ i * 1407 := fun i => by
    have := len_flat (l := hd.take i) (f := fun p => md.flatMap fun u => tl.map fun t => p ++ u ++ t) (b := 1407) fun p _ => by
      have := len_flat (l := md) (f := fun u => tl.map fun t => p ++ u ++ t) (b := 67) fun u _ => by rw [List.length_map]; exact few4
      have h2 : md.length * 67 ≤ 21 * 67 := Nat.mul_le_mul_right _ few3
      omega
    rw [List.length_take] at this
    have h2 : min i hd.length * 1407 ≤ i * 1407 := Nat.mul_le_mul_right _ (Nat.min_le_left _ _)
    omega
  have cnt2 : ∀ (p : List Nat) (j : Nat), ((md.take j).flatMap fun u => tl.map fun t => p ++ u ++ t).length ≤ j * 67 := fun p j => by
    have := len_flat (l := md.take j) (f := fun u => tl.map fun t => p ++ u ++ t) (b := 67) fun u _ => by rw [List.length_map]; exact few4
    rw [List.length_take] at this
    have h2 : min j md.length * 67 ≤ j * 67 := Nat.mul_le_mul_right _ (Nat.min_le_left _ _)
    omega
  refine ⟨_, rfl, ph, rfl, ⟨_, SqL.of (by rw [upd_ne nhs]; exact e2')⟩, for_list (xs := hs.map V.ref) (fun i σ H' => (∃ x y z, σ = [some (.int k), some (.int n), some (.int e), some (.ref a), some (.ref b), some (.ref ph), some (.ref pm), some (.ref pt), some (.ref ps), x, y, z]) ∧
      H' ps = some (.dT (wordsT (ext [] ((hd.take i).flatMap fun p => md.flatMap fun u => tl.map fun t => p ++ u ++ t)))) ∧ Same H4 H')
    ⟨⟨_, _, _, rfl⟩, upd_same, Same.new hps _⟩ (fun i σ H' _ z => SqL.of (z.2.2 _ _ e2')) ?_ ?_⟩
  · rintro i x σ H' hx ⟨⟨x', y', z', rfl⟩, f1, f2⟩
    obtain ⟨bh, pp, rfl, hbh, hpi, ebh⟩ := w2'.of hx
    have hil : i < hd.length := (List.getElem?_eq_some_iff.mp hpi).1
    have lp := len2 pp (List.mem_of_getElem? hpi)
    refine ⟨_, rfl, pm, rfl, ⟨_, SqL.of (f2 _ _ e3')⟩, for_list (xs := us.map V.ref) (fun j σ H' => (∃ y z, σ = [some (.int k), some (.int n), some (.int e), some (.ref a), some (.ref b), some (.ref ph), some (.ref pm), some (.ref pt), some (.ref ps), some (.ref bh), y, z]) ∧
        H' ps = some (.dT (wordsT (ext [] (((hd.take i).flatMap fun p => md.flatMap fun u => tl.map fun t => p ++ u ++ t) ++ (md.take j).flatMap fun u => tl.map fun t => pp ++ u ++ t)))) ∧ Same H4 H')
      ⟨⟨_, _, rfl⟩, by rw [List.take_zero, List.flatMap_nil, List.append_nil]; exact f1, f2⟩ (fun j σ H' _ z => SqL.of (z.2.2 _ _ e3')) ?_ ?_⟩
    · rintro j x2 σ2 H6 hx2 ⟨⟨y2, z2, rfl⟩, f3, f4⟩
      obtain ⟨bm, uu, rfl, hbm', huj, ebm⟩ := w3'.of hx2
      have hjl : j < md.length := (List.getElem?_eq_some_iff.mp huj).1
      have lu := len3 uu (List.mem_of_getElem? huj)
      refine ⟨_, rfl, pt, rfl, ⟨_, SqL.of (f4 _ _ e4)⟩, for_list (xs := ts.map V.ref) (fun l σ H' => (∃ z, σ = [some (.int k), some (.int n), some (.int e), some (.ref a), some (.ref b), some (.ref ph), some (.ref pm), some (.ref pt), some (.ref ps), some (.ref bh), some (.ref bm), z]) ∧
          H' ps = some (.dT (wordsT (ext [] ((((hd.take i).flatMap fun p => md.flatMap fun u => tl.map fun t => p ++ u ++ t) ++ (md.take j).flatMap fun u => tl.map fun t => pp ++ u ++ t) ++ (tl.take l).map fun t => pp ++ uu ++ t)))) ∧ Same H4 H')
        ⟨⟨_, rfl⟩, by rw [List.take_zero, List.map_nil, List.append_nil]; exact f3, f4⟩ (fun l σ H' _ z => SqL.of (z.2.2 _ _ e4)) ?_ ?_⟩
      · rintro l x3 σ3 H7 hx3 ⟨⟨z3, rfl⟩, f5, f6⟩
        obtain ⟨bt, tt, rfl, hbt, htl', ebt⟩ := w4.of hx3
        have hll : l < tl.length := (List.getElem?_eq_some_iff.mp htl').1
        have lt := hb4 tt (List.mem_of_getElem? htl')
        refine ⟨_, rfl, _, rfl, _, rfl, bh, bm, _, _, rfl, rfl, f6 _ _ ebh, f6 _ _ ebm, by rw [List.length_map, List.length_map]; exact le_big (by omega), fun z1 H8 g8 e8 => ?_⟩
        refine ⟨_, rfl, z1, bt, _, _, rfl, rfl, e8, g8 _ _ (f6 _ _ ebt), by rw [List.length_append, List.length_map, List.length_map, List.length_map]; exact le_big (by omega), fun z2 H9 g9 e9 => ?_⟩
        have f7 := g9 _ _ (g8 _ _ f5)
        have ekey : H9 z2 = some (.tup ((keyW (pp ++ uu ++ tt)).map kV)) := by rw [e9, keyW_V, List.map_append, List.map_append]
        refine ⟨ps, _, rfl, DPut.t (k := keyW (pp ++ uu ++ tt)) f7 ekey ?_, ⟨_, rfl⟩, ?_, ((f6.trans g8).trans g9).put hps _⟩
        · rw [wordsT_len]
          have c1 := cnt1 i
          have c2 := cnt2 pp j
          have c3 := dd_len ((((hd.take i).flatMap fun p => md.flatMap fun u => tl.map fun t => p ++ u ++ t) ++ (md.take j).flatMap fun u => tl.map fun t => pp ++ u ++ t) ++ (tl.take l).map fun t => pp ++ uu ++ t) []
          rw [List.length_append, List.length_append, List.length_map, List.length_take, List.length_nil] at c3
          exact lt_big (by omega)
        · rw [upd_same, wordsT_put, ← ext_snoc, take_get htl', List.map_append, List.map_singleton, List.append_assoc]
      · rintro σ3 H7 ⟨⟨z3, rfl⟩, f5, f6⟩
        rw [List.length_map, l4, List.take_length] at f5
        refine ⟨⟨_, _, rfl⟩, ?_, f6⟩
        rw [take_get huj, List.flatMap_append, List.flatMap_singleton, ← List.append_assoc]
        exact f5
    · rintro σ2 H6 ⟨⟨y2, z2, rfl⟩, f3, f4⟩
      rw [List.length_map, l3, List.take_length] at f3
      refine ⟨⟨_, _, _, rfl⟩, ?_, f4⟩
      rw [take_get hpi, List.flatMap_append, List.flatMap_singleton]
      exact f3
  · rintro σ H' ⟨⟨x', y', z', rfl⟩, f1, f2⟩
    rw [List.length_map, l2, List.take_length] at f1
    have f1' : H' ps = some (.dT (wordsT (ext [] (allW hd md tl)))) := f1
    have cA := len_allW hd md tl
    have cA2 : hd.length * (md.length * tl.length) ≤ 60 * (21 * 67) := Nat.mul_le_mul few2 (Nat.mul_le_mul few3 few4)
    refine ⟨_, rfl, ps, _, (ext [] (allW hd md tl)).map intsW, #[], rfl, f1', ?_, f2 _ _ hPt4, trivial, rfl, fun l H2' bs ws' more hl hkeep hP2 hperm hsort hlen hbs hlst => ?_⟩
    · unfold wordsT keysI
      rw [List.map_map, List.map_map]
      refine List.map_congr_left fun u _ => ?_
      show keyW u = (intsW u).map _
      unfold keyW intsW
      rw [List.map_map]; rfl
    obtain ⟨us', rfl, hp2, hord⟩ := sorted_words (nodup_dd (allW hd md tl)) hperm hsort
    have hmem : ∀ u, u ∈ us' ↔ u ∈ allW hd md tl := fun u => hp2.mem_iff.trans mem_dd
    have due : Sw38.testOf k (mach k n R T) e = us' := test_words (fw := fw) G.fst (by omega) ht4 hord fun u => by
      rw [hmem u, ← hhd, ← hmd, ← htl]
    have hwA : WordsAt H2' us' bs := by
      refine ⟨by rw [hlen, List.length_map], fun i u ei => ?_⟩
      obtain ⟨b', e1', e2''⟩ := hbs i (intsW u) (by rw [List.getElem?_map, ei]; rfl)
      refine ⟨b', e1', ?_⟩
      rw [e2'', vN_ints]
    have hlenU : us'.length ≤ 84420 := by
      rw [hp2.length_eq]
      have := dd_len (allW hd md tl) []
      rw [List.length_nil] at this
      show (ext [] (allW hd md tl)).length ≤ 84420
      omega
    have hsp : (Sw38.spelled us').length ≤ 16000000 := by
      have h1 := len_spelled (l := us') (b := 157) fun u hu => by
        obtain ⟨pp, hpp, hu⟩ := List.mem_flatMap.mp ((hmem u).mp hu)
        obtain ⟨uu, huu, hu⟩ := List.mem_flatMap.mp hu
        obtain ⟨tt, htt, rfl⟩ := List.mem_map.mp hu
        have a1 := len2 pp hpp
        have a2 := len3 uu huu
        have a3 := hb4 tt htt
        rw [List.length_append, List.length_append]; omega
      have h2 : us'.length * (157 + 1) ≤ 84420 * 158 := Nat.mul_le_mul_right _ hlenU
      omega
    rw [due] at q
    exact q l H2' bs hwA hlst hsp
end
end Lp
set_option maxRecDepth 100000
set_option maxHeartbeats 4000000
namespace Lp
open PySem L2 Lm
section
variable {P : Program} {w : World} {K : PySem.W.Frag} {mg : Str → Option Value} {base : Heap}
/-! ### test -/
theorem rows_of {k n : Nat} {R T : List Nat} (h : IsMach k n R T) (k1 : 1 ≤ k) (k16 : k ≤ 16) (n1 : 1 ≤ n) (n64 : n ≤ 64) : Rows k n R := ⟨k1, k16, n1, n64, h.rl, h.rlt⟩
def spTest (K : PySem.W.Frag) (Pt : Addr) : Sp := fun vs H Q _ => ∃ (a b : Addr) (k n e o : Int) (ns ts : List Int), vs = [.int k, .int n, .int e, .int o, .ref a, .ref b] ∧ SqL K H a (ns.map V.int) ∧ SqL K H b (ts.map V.int) ∧ PySw38.test_asked k n e o ns ts = true ∧ H Pt = some (.tbl #[]) ∧
  ∀ p H', H' p = some (.lst ((PySw38.test k n e o ns ts).map V.int)) → Q (.ref p) H'
theorem scTest : FnScope ["k", "n", "more", "most", "rows", "takes", "told"] ["k", "n", "more", "most", "rows", "takes"] (defScope sTest) := ⟨rfl, rfl, rfl, by decide +kernel, rfl, by decide +kernel, by decide +kernel⟩
theorem ok_test {f fI fL fW fT Pt : Addr} {fd fdI fdL fdW fdT : FuncData} {t1 t2 t3 t4 t5 t6 t7 : Tok} (F : Fun K "test" "test" sTest f fd)
    (m1 : mg "OUT_OF_RANGE" = some (.int (-2) t1)) (m2 : mg "NO_MACHINE" = some (.int (-3) t2)) (m3 : mg "MOST_TEST_LETTERS" = some (.int 4 t3)) (m4 : mg "MOST_TEST_STATES" = some (.int 12 t4)) (m5 : mg "TOO_MANY" = some (.int (-1) t5))
    (m6 : mg "MOST_MORE" = some (.int 2 t6)) (m7 : mg "MOST_BYTES" = some (.int 2097152 t7))
    (GI : FnOk P w K mg base CX0 1 fI fdI ["n", "rows", "takes"] (spIs K)) (bI : Binds K fdI ["n", "rows", "takes"] []) (kI : PySem.W.keepIn K (.ref fI) = true) (mI : mg "is_machine" = some (.ref fI))
    (GL : FnOk P w K mg base CX0 5 fL fdL ["k", "n", "rows", "takes"] (spIsL K)) (bL : Binds K fdL ["k", "n", "rows", "takes"] []) (kL : PySem.W.keepIn K (.ref fL) = true) (mL : mg "is_least" = some (.ref fL))
    (GW : FnOk P w K mg base CX0 4 fW fdW ["k", "n", "more", "rows", "takes"] (spThree K Pt)) (bW : Binds K fdW ["k", "n", "more", "rows", "takes"] []) (kW : PySem.W.keepIn K (.ref fW) = true) (mW : mg "words_of_three_parts" = some (.ref fW))
    (GT : FnOk P w K mg base CX0 1 fT fdT ["words"] (spTold K)) (bT : Binds K fdT ["words"] []) (kT : PySem.W.keepIn K (.ref fT) = true) (mT : mg "told_words" = some (.ref fT)) (ml : mg "len" = none) :
    FnOk P w K mg base CX0 6 f fd ["k", "n", "more", "most", "rows", "takes"] (spTest K Pt) := by
  refine F.ok scTest (fun vs H Q E h => ?_) (fun cdv A outer s H vs Q E hr h => ?_)
  · obtain ⟨a, b, k, n, e, o, ns, ts, rfl, _⟩ := h
    rfl
  obtain ⟨a, b, k, n, e, o, ns, ts, rfl, hA, hB, hask, hPt, q⟩ := h
  have hr1 := hr.mono (j := 1) (by decide)
  have hr4 := hr.mono (j := 4) (by decide)
  refine ⟨_, pss_cons (ps_if (pt_not (PW.pt (pw_and (pt_chain op_le op_le pe_int (pv 0) (pe_glob (v := .int 4) rfl m3 ⟨_, rfl⟩)) (pw_and1 (pt_chain op_le op_le pe_int (pv 1) (pe_glob (v := .int 12) rfl m4 ⟨_, rfl⟩))))))
      (pss_one (ps_ret (pe_lst (pa_cons (pe_glob (v := .int (-2)) rfl m1 ⟨_, rfl⟩) pa_nil)))) pss_nil)
    (pss_cons (ps_if (pt_not (PW.pt (pw_and (pt_chain op_le op_le pe_int (pv 2) (pe_glob (v := .int 2) rfl m6 ⟨_, rfl⟩)) (pw_and1 (pt_chain op_le op_le pe_int (pv 3) (pe_glob (v := .int 2097152) rfl m7 ⟨_, rfl⟩))))))
      (pss_one (ps_ret (pe_lst (pa_cons (pe_glob (v := .int (-2)) rfl m1 ⟨_, rfl⟩) pa_nil)))) pss_nil)
    (pss_cons (ps_if (pt_not (PW.pt (pw_and (pt_val (pe_call GI hr1 rfl mI kI bI .nil pass0 (pa_cons (pv 1) (pa_cons (pv 4) (pa_cons (pv 5) pa_nil))))) (pw_and1 (pt_val (pe_call GL hr rfl mL kL bL .nil pass0 (pa_cons (pv 0) (pa_cons (pv 1) (pa_cons (pv 4) (pa_cons (pv 5) pa_nil))))))))))
      (pss_one (ps_ret (pe_lst (pa_cons (pe_glob (v := .int (-3)) rfl m2 ⟨_, rfl⟩) pa_nil)))) pss_nil)
    (pss_cons (ps_set (i := 6) scTest.nd rfl (Or.inl rfl) (pe_call GT hr1 rfl mT kT bT .nil pass0 (pa_cons (pe_call GW hr4 rfl mW kW bW .nil pass0 (pa_cons (pv 0) (pa_cons (pv 1) (pa_cons (pv 2) (pa_cons (pv 4) (pa_cons (pv 5) pa_nil)))))) pa_nil)))
    (pss_cons (ps_if (pt_cmpR op_gt (pe_callB call_len_seq (by rfl) ml PySem.boot_len (pa_cons (pv 6) pa_nil)) (pv 3) (nomark _)) (pss_one (ps_ret (pe_lst (pa_cons (pe_glob (v := .int (-1)) rfl m5 ⟨_, rfl⟩) pa_nil)))) pss_nil)
    (pss_one (ps_ret (pe_op op_cat (pe_lst (pa_cons (pe_callB call_len_seq (by rfl) ml PySem.boot_len (pa_cons (pv 6) pa_nil)) pa_nil)) (pv 6)))))))), ?_⟩
  have out : ¬ inTest k n e o → (1 ≤ sizeLine ∧ ∀ p, H p = none → Q (.ref p) (upd H p (.lst [.int (-2)]))) := fun z => by
    refine ⟨(by decide), fun p hp => q p _ ?_⟩
    rw [upd_same, test_out z]; rfl
  refine ⟨_, rfl, _, _, rfl, rfl, _, rfl, ?_⟩
  refine ite2 (fun c1 => ?_) (fun c1 => ?_)
  rotate_left
  · refine ⟨_, rfl, ?_⟩
    exact iteF (iteT (out (by have : ¬ 1 ≤ k := by simpa using c1
                              unfold inTest; omega)))
  have d1 : 1 ≤ k := of_decide_eq_true c1
  refine ⟨_, _, rfl, rfl, _, rfl, ?_⟩
  refine ite2 (fun c2 => ?_) (fun c2 => ?_)
  rotate_left
  · exact iteT (out (by have : ¬ k ≤ 4 := by simpa using c2
                        unfold inTest; omega))
  have d2 : k ≤ 4 := of_decide_eq_true c2
  refine ⟨_, rfl, _, _, rfl, rfl, _, rfl, ?_⟩
  refine ite2 (fun c3 => ?_) (fun c3 => ?_)
  rotate_left
  · refine ⟨_, rfl, ?_⟩
    exact iteT (out (by have : ¬ 1 ≤ n := by simpa using c3
                        unfold inTest; omega))
  have d3 : 1 ≤ n := of_decide_eq_true c3
  refine ⟨_, _, rfl, rfl, _, rfl, ?_⟩
  refine ite2 (fun c4 => ?_) (fun c4 => ?_)
  · exact out (by have : ¬ n ≤ 12 := by simpa using c4
                  unfold inTest; omega)
  have d4 : n ≤ 12 := by simpa using c4
  refine ⟨_, rfl, _, _, rfl, rfl, _, rfl, ?_⟩
  refine ite2 (fun c5 => ?_) (fun c5 => ?_)
  rotate_left
  · refine ⟨_, rfl, ?_⟩
    exact iteF (iteT (out (by have : ¬ 0 ≤ e := by simpa using c5
                              unfold inTest; omega)))
  have d5 : 0 ≤ e := of_decide_eq_true c5
  refine ⟨_, _, rfl, rfl, _, rfl, ?_⟩
  refine ite2 (fun c6 => ?_) (fun c6 => ?_)
  rotate_left
  · exact iteT (out (by have : ¬ e ≤ 2 := by simpa using c6
                        unfold inTest; omega))
  have d6 : e ≤ 2 := of_decide_eq_true c6
  refine ⟨_, rfl, _, _, rfl, rfl, _, rfl, ?_⟩
  refine ite2 (fun c7 => ?_) (fun c7 => ?_)
  rotate_left
  · refine ⟨_, rfl, ?_⟩
    exact iteT (out (by have : ¬ 0 ≤ o := by simpa using c7
                        unfold inTest; omega))
  have d7 : 0 ≤ o := of_decide_eq_true c7
  refine ⟨_, _, rfl, rfl, _, rfl, ?_⟩
  refine ite2 (fun c8 => ?_) (fun c8 => ?_)
  · exact out (by have : ¬ o ≤ 2097152 := by simpa using c8
                  unfold inTest; omega)
  have d8 : o ≤ 2097152 := by simpa using c8
  have hin : inTest k n e o := ⟨⟨d1, d2⟩, ⟨d3, d4⟩, ⟨d5, d6⟩, d7, d8⟩
  have bad : ∀ H' : Hp, PySw38.test k n e o ns ts = [-3] → (1 ≤ sizeLine ∧ ∀ p, H' p = none → Q (.ref p) (upd H' p (.lst [.int (-3)]))) := fun H' z => by
    refine ⟨(by decide), fun p hp => q p _ ?_⟩
    rw [upd_same, z]; rfl
  refine ⟨_, rfl, _, rfl, _, rfl, a, b, n, ns, ts, rfl, hA, hB, fun H1 g1 => ⟨_, rfl, ?_⟩⟩
  refine ite2 (fun c9 => ?_) (fun c9 => ?_)
  rotate_left
  · exact iteT (bad H1 (test_bad hin hask (Bool.eq_false_iff.mpr c9)))
  have e9 : okM n ns ts = true := c9
  obtain ⟨l1, l2, p1, p2⟩ := (test_asked hask).1 hin
  have M1 := isMach_of ⟨d1, d3⟩ l1 l2 e9
  obtain ⟨kk, rfl⟩ : ∃ kk : Nat, k = (kk : Int) := ⟨k.toNat, by omega⟩
  obtain ⟨nn, rfl⟩ : ∃ nn : Nat, n = (nn : Int) := ⟨n.toNat, by omega⟩
  obtain ⟨ee, rfl⟩ : ∃ ee : Nat, e = (ee : Int) := ⟨e.toNat, by omega⟩
  have M : IsMach kk nn (natsOf ns) (natsOf ts) := M1
  have hR : Rows kk nn (natsOf ns) := rows_of M (by omega) (by omega) (by omega) (by omega)
  have due := test_due hin hask e9
  rw [nats_V p1] at hA
  rw [nats_V p2] at hB
  refine ⟨_, rfl, _, rfl, _, rfl, _, rfl, a, b, kk, nn, natsOf ns, natsOf ts, rfl, g1.seq hA, g1.seq hB, hR, M.tl, M.tlt, fun H2 l g g2 hre hD hcan => ⟨_, rfl, ?_⟩⟩
  have self := least_self (k := kk) (n := nn) M (by omega) (by omega) hre hD hcan
  refine ite2 (fun c10 => ?_) (fun c10 => ?_)
  · refine bad H2 ?_
    have ht : ¬ told (rowA kk (natsOf ns)) (tkOf (natsOf ts)) g l = nn :: (natsOf ns ++ natsOf ts) := by simpa using c10
    rw [due]
    exact if_neg fun z => ht (self.mp z)
  have ht : told (rowA kk (natsOf ns)) (tkOf (natsOf ts)) g l = nn :: (natsOf ns ++ natsOf ts) := by simpa using c10
  have hself : Sw38.leastOf (mach kk nn (natsOf ns) (natsOf ts)) = mach kk nn (natsOf ns) (natsOf ts) := self.mpr ht
  obtain ⟨hl, hg⟩ := told_id M (by omega) hre hcan ht
  subst hl
  have hD2 := done_id hD hg
  rw [List.length_range] at hre
  obtain ⟨fw, hF⟩ := firsts_of M (by omega) hre
  have G : Given3 kk nn ee (natsOf ns) (natsOf ts) fw := ⟨⟨by omega, by omega, by omega, by omega, by omega, M, M⟩, hR, by omega, by omega, by omega, hF, fun i j hi hj hne l hr hal => not_alike M hD2 hi hj hne hr hal⟩
  have g12 := g1.trans g2
  refine ⟨_, rfl, _, rfl, _, rfl, _, rfl, _, rfl, a, b, kk, nn, ee, natsOf ns, natsOf ts, fw, rfl, g12.seq hA, g12.seq hB, G, g12 _ _ hPt, fun p H3 bs w3 e3 hsp => ?_⟩
  refine ⟨p, _, bs, rfl, w3, e3, hsp, fun pT H4 g4 e4 => ?_⟩
  have due2 : PySw38.test (kk : Int) (nn : Int) (ee : Int) o ns ts = (if o < ((Sw38.spelled (Sw38.testOf kk (mach kk nn (natsOf ns) (natsOf ts)) ee)).length : Int) then [-1]
      else ((Sw38.spelled (Sw38.testOf kk (mach kk nn (natsOf ns) (natsOf ts)) ee)).length : Int) :: (Sw38.spelled (Sw38.testOf kk (mach kk nn (natsOf ns) (natsOf ts)) ee)).map fun (x : Nat) => (x : Int)) := by
    rw [due]
    exact if_pos hself
  generalize Sw38.spelled (Sw38.testOf kk (mach kk nn (natsOf ns) (natsOf ts)) ee) = sp at hsp e4 due2
  refine ⟨_, rfl, pT, _, rfl, .inl (SqL.of e4), _, rfl, _, _, rfl, rfl, _, rfl, ?_⟩
  refine ite2 (fun c11 => ?_) (fun c11 => ?_)
  · have c' : o < (((sp.map vN).length : Nat) : Int) := of_decide_eq_true c11
    rw [List.length_map] at c'
    refine ⟨(by show 1 ≤ sizeLine; decide), fun p' hp' => q p' _ ?_⟩
    rw [upd_same, due2, if_pos c']; rfl
  · have c' : ¬ o < (((sp.map vN).length : Nat) : Int) := of_decide_eq_false (Bool.eq_false_iff.mpr c11)
    rw [List.length_map] at c'
    refine ⟨_, rfl, pT, _, rfl, .inl (SqL.of e4), (by show 1 ≤ sizeLine; decide), fun p1' hp1 => ?_⟩
    have n1 : pT ≠ p1' := ne_of_none e4 hp1
    refine ⟨_, rfl, p1', pT, _, _, rfl, rfl, upd_same, (by rw [upd_ne n1]; exact e4), ?_, fun p2' hp2 => q p2' _ ?_⟩
    · simp only [List.length_map, List.length_singleton]; exact le_big (by omega)
    · rw [upd_same, due2, if_neg c', List.map_cons, ← vN_ints, List.length_map]
      rfl
end
end Lp
set_option maxRecDepth 100000
set_option maxHeartbeats 4000000
/-! A CALL OF A DEF IN WHICH A FUNCTION IS MADE: the table of its own codes may grow. -/
namespace L2
open PySem PySem.Spec PyProof.Rows
def givenT (K : PySem.W.Frag) (fr : Given) (Pt : Addr) : Hp := fun b => if b = Pt then some (.tbl #[]) else givenH K fr b
theorem spec_callT {P : Program} {w : World} {K : PySem.W.Frag} {mg mb : Str → Option Value} {k : Nat} {fa c Pt : Addr} {fd : FuncData} {ps : List Str} {sp : Sp} {s₁ : Shared} {fr : Given} {us : List Value} {vs : List V} {out : List Int}
    (KX : K.In s₁.heap) (hns : s₁.heap.Ns mainGlobals mg) (hb : s₁.heap.Ns builtinsNs mb) (hbb : ∀ x : Str, x ≠ "__name__" → mb x = bootBuiltins x) (hlim : s₁.heap.NoLimit) (hg : s₁.gens = #[])
    (tab : s₁.heap.TableAt c Pt #[]) (ptK : K.lookup Pt = none) (ok : GivenOk s₁.heap fr) (hr : Room k callerA) (hv : Vals vs us)
    (F : ∀ base : Heap, K.In base → (∀ b o, s₁.heap.get? b = some o → (∀ e ∈ fr, e.1 ≠ b) → b ≠ Pt → base.get? b = some o) → FnOk P w K mg base CX0 k fa fd ps sp) (hbind : BindsTo s₁ fd ⟨us, []⟩ (ps.zip us))
    (hsp : ∀ H : Hp, (∀ e ∈ fr, SqL K H e.1 (e.2.2.map V.int)) → H Pt = some (.tbl #[]) → sp vs H (fun v H' => ∃ p, v = .ref p ∧ H' p = some (.lst (out.map V.int))) fun _ _ _ => False) :
    codeAny (model P w) callerA (.call (.ref fa) ⟨us, []⟩) (fun r s' => (∃ p its n, r = .ok (.ret (.ref p)) ∧ s'.heap.get? p = some { cls := .type "list", data := .seq its n } ∧ IntsAre its.toList out) ∧ OldK s₁.heap s'.heap ∧ s'.os = s₁.os ∧ AllBare s'.gens) s₁ := by
  have nPt : ∀ e ∈ fr, e.1 ≠ Pt := fun e he z => by
    obtain ⟨h1, _, _⟩ := ok e he
    rw [z, tab.2] at h1
    cases h1
  have hO : ∀ b, givenT K fr Pt b = none ∨ b = Pt ∨ ∃ o xs, givenT K fr Pt b = some (.frz o (.lst xs)) := fun b => by
    by_cases hbP : b = Pt
    · exact .inr (.inl hbP)
    · unfold givenT
      rw [if_neg hbP]
      cases q : givenH K fr b with
      | none => exact .inl rfl
      | some u => obtain ⟨_, e, _, _, rfl⟩ := givenH_some q; exact .inr (.inr ⟨_, _, rfl⟩)
  have hPt : givenT K fr Pt Pt = some (.tbl #[]) := if_pos rfl
  have hne : ∀ b, b ≠ Pt → givenT K fr Pt b = givenH K fr b := fun b nb => if_neg nb
  have hok : HOk P w (givenT K fr Pt) s₁.heap := fun b u z => by
    by_cases hbP : b = Pt
    · subst hbP
      rw [hPt] at z
      cases z
      exact tab.2
    · rw [hne b hbP] at z
      obtain ⟨_, e, he, rfl, rfl⟩ := givenH_some z
      obtain ⟨h1, h2, h3⟩ := ok e he
      exact ⟨h1, by rw [List.length_map]; exact h3, e.2.1, _, vals_ints h2, h1⟩
  have hseq : ∀ e ∈ fr, SqL K (givenT K fr Pt) e.1 (e.2.2.map V.int) := fun e he => by
    rcases givenH_sq ok KX he with z | z
    · refine .inl ?_
      rcases z with z | ⟨o, z⟩
      · exact .inl (by rw [hne _ (nPt e he)]; exact z)
      · exact .inr ⟨o, by rw [hne _ (nPt e he)]; exact z⟩
    · exact .inr z
  have hfree : ∀ b o, s₁.heap.get? b = some o → (∀ e ∈ fr, e.1 ≠ b) → b ≠ Pt → givenT K fr Pt b = none := fun b o eb nb np => by
    rw [hne b np]
    cases q : givenH K fr b with
    | none => rfl
    | some u => obtain ⟨_, e, he, e1, _⟩ := givenH_some q; exact absurd e1 (nb e he)
  have hKn : ∀ b o, K.lookup b = some o → givenT K fr Pt b = none := fun b o e => by
    have np : b ≠ Pt := fun z => by rw [z, ptK] at e; cases e
    rw [hne b np]
    cases q : givenH K fr b with
    | none => rfl
    | some u => obtain ⟨z, _⟩ := givenH_some q; rw [z] at e; cases e
  generalize givenT K fr Pt = H at hO hPt hok hseq hfree hKn
  have noA : ∀ {b : Addr} {o : Obj} {es : Array DictEntry} {ep : Nat}, s₁.heap.get? b = some o → o.data = .dict es ep → H b = none := fun {b o es ep} e d => by
    refine hfree b o e (fun x hx z => ?_) fun z => ?_
    · obtain ⟨h1, _, _⟩ := ok x hx
      rw [z, e] at h1; cases h1; cases d
    · rw [z, tab.2] at e; cases e; cases d
  have nsK : ∀ {b : Addr} {m : Str → Option Value}, s₁.heap.Ns b m → (hidT s₁.heap H).Ns b m := fun {b m} ⟨o, es, ep, e, d, r⟩ => ⟨o, es, ep, hidT_get e (noA e d), d, r⟩
  have hKb : K.In (hidT s₁.heap H) := fun b o e => hidT_get (KX b o e) (hKn b o e)
  have hM : Mod K mg (hidT s₁.heap H) := ⟨hKb, nsK hns, ⟨mb, nsK hb, hbb⟩, let ⟨mc, h1, h2⟩ := hlim; ⟨mc, nsK h1, h2⟩⟩
  have e0 : Env0 P w K mg (hidT s₁.heap H) callerA [] s₁ H := ⟨rfl, hM, fun b o e => of_hidT e, Nat.le_of_eq (hidT_size _ _), trivial, fun b hb => absurd (show b ∈ ([] : List Addr) from hb) (by simp), hok, .of_eq hg⟩
  refine codeAny_mono ((F _ hKb fun b o e n1 n2 => hidT_get e (hfree b o e n1 n2)).run callerA [] s₁ H ⟨us, []⟩ us vs _ _ hr e0 hbind hv (hsp H hseq hPt)) fun r s' h => ?_
  cases r with
  | error e => exact (show False from h).elim
  | ok fl =>
    cases fl with
    | next => exact False.elim h
    | brk => exact False.elim h
    | cont => exact False.elim h
    | ret u =>
      obtain ⟨v, H', os, bare, un, hok', r', p, hp, q⟩ := h
      subst hp
      obtain rfl : u = Value.ref p := r'
      obtain ⟨_, its, n, rv, e⟩ := (show ObjOk P w H' s'.heap p (.lst (out.map V.int)) from hok' p _ q)
      have each : ∀ b o, s₁.heap.get? b = some o → asItWas s₁.heap s'.heap b o ∧ ∃ o', s'.heap.get? b = some o' := fun b o e => by
        rcases hO b with z | rfl | ⟨ob, xs, z⟩
        · have y := un.keep b o e z (by intro z; exact absurd (show b ∈ ([] : List Addr) from z) (by simp)) (by simp)
          exact ⟨.inl y, _, y⟩
        · obtain ⟨more, y⟩ := un.tbls _ _ hPt
          have y2 := (show ObjOk P w H' s'.heap b (.tbl (#[] ++ more)) from hok' b _ y)
          rw [tab.2] at e
          cases e
          exact ⟨.inr (.inl ⟨tab.isCodeTable, rfl, #[], more, rfl, y2⟩), _, y2⟩
        · have z2 := un.frzs b ob _ z
          obtain ⟨e1, _⟩ := hok b _ z
          obtain ⟨e2, _⟩ := hok' b _ z2
          rw [e] at e1
          cases e1
          exact ⟨.inl e2, _, e2⟩
      exact ⟨⟨p, its.toArray, n, rfl, e, by simpa using intsAre_of rv⟩, ⟨fun b o e => (each b o e).1, fun b o e => (each b o e).2⟩, os, bare⟩
end L2
namespace Lp
open PySem L2 Lm
/-! ### the program's top -/
theorem all_mk {P : Program} {w : World} {K : PySem.W.Frag} {h : Heap} {mg : Str → Option Value} {fa f1 f2 f3 f4 f5 f6 f7 f8 f9 f10 f11 f12 f13 f14 f15 f16 f17 f18 : Addr} (X : K.In h) (G : h.Ns mainGlobals mg) (hfa : mg "test" = some (.ref fa))
    {od1 an1 od2 an2 od3 an3 od4 an4 od5 an5 od6 an6 od7 an7 od8 an8 od9 an9 od10 an10 od11 an11 od12 an12 od13 an13 od14 an14 od15 an15 od16 an16 od17 an17 od18 an18 : Option Addr} {sl1 sl2 sl3 sl4 sl5 sl6 sl7 sl8 sl9 sl10 sl11 sl12 sl13 sl14 sl15 sl16 sl17 sl18 : Array (Option Value)}
    {oc1 kV1 dc1 pm1 cd1 ct1 oc2 kV2 dc2 pm2 cd2 ct2 oc3 kV3 dc3 pm3 cd3 ct3 oc4 kV4 dc4 pm4 cd4 ct4 oc5 kV5 dc5 pm5 cd5 ct5 oc6 kV6 dc6 pm6 cd6 ct6 oc7 kV7 dc7 pm7 cd7 ct7 oc8 kV8 dc8 pm8 cd8 ct8 oc9 kV9 dc9 pm9 cd9 ct9 oc10 kV10 dc10 pm10 cd10 ct10 oc11 kV11 dc11 pm11 cd11 ct11 oc12 kV12 dc12 pm12 cd12 ct12 oc13 kV13 dc13 pm13 cd13 ct13 oc14 kV14 dc14 pm14 cd14 ct14 oc15 kV15 dc15 pm15 cd15 ct15 oc16 kV16 dc16 pm16 cd16 ct16 oc17 kV17 dc17 pm17 cd17 ct17 oc18 kV18 dc18 pm18 cd18 ct18 : Value} {t1 t2 t3 t4 t5 t6 t7 t8 t9 : Tok}
    (a1 : PySem.W.nsIn K mainGlobals "least" = some (some (.ref f1))) (l1 : K.lookup f1 = some ⟨oc1, od1, .func (PySem.W.fnOf "least" "least" (defArgs sLeast) (defBody sLeast) (defScope sLeast) .none kV1 dc1 pm1 an1 cd1 ct1), sl1⟩) (c1 : PySem.W.codeIn K cd1 "least" = true) (k1 : PySem.W.keepIn K (.ref f1) = true)
    (a2 : PySem.W.nsIn K mainGlobals "test" = some (some (.ref f2))) (l2 : K.lookup f2 = some ⟨oc2, od2, .func (PySem.W.fnOf "test" "test" (defArgs sTest) (defBody sTest) (defScope sTest) .none kV2 dc2 pm2 an2 cd2 ct2), sl2⟩) (c2 : PySem.W.codeIn K cd2 "test" = true) (k2 : PySem.W.keepIn K (.ref f2) = true)
    (a3 : PySem.W.nsIn K mainGlobals "is_machine" = some (some (.ref f3))) (l3 : K.lookup f3 = some ⟨oc3, od3, .func (PySem.W.fnOf "is_machine" "is_machine" (defArgs sIs) (defBody sIs) (defScope sIs) .none kV3 dc3 pm3 an3 cd3 ct3), sl3⟩) (c3 : PySem.W.codeIn K cd3 "is_machine" = true) (k3 : PySem.W.keepIn K (.ref f3) = true)
    (a4 : PySem.W.nsIn K mainGlobals "is_least" = some (some (.ref f4))) (l4 : K.lookup f4 = some ⟨oc4, od4, .func (PySem.W.fnOf "is_least" "is_least" (defArgs sIsLeast) (defBody sIsLeast) (defScope sIsLeast) .none kV4 dc4 pm4 an4 cd4 ct4), sl4⟩) (c4 : PySem.W.codeIn K cd4 "is_least" = true) (k4 : PySem.W.keepIn K (.ref f4) = true)
    (a5 : PySem.W.nsIn K mainGlobals "row_of" = some (some (.ref f5))) (l5 : K.lookup f5 = some ⟨oc5, od5, .func (PySem.W.fnOf "row_of" "row_of" (defArgs sRow) (defBody sRow) (defScope sRow) .none kV5 dc5 pm5 an5 cd5 ct5), sl5⟩) (c5 : PySem.W.codeIn K cd5 "row_of" = true) (k5 : PySem.W.keepIn K (.ref f5) = true)
    (a6 : PySem.W.nsIn K mainGlobals "reached_states" = some (some (.ref f6))) (l6 : K.lookup f6 = some ⟨oc6, od6, .func (PySem.W.fnOf "reached_states" "reached_states" (defArgs sReach) (defBody sReach) (defScope sReach) .none kV6 dc6 pm6 an6 cd6 ct6), sl6⟩) (c6 : PySem.W.codeIn K cd6 "reached_states" = true) (k6 : PySem.W.keepIn K (.ref f6) = true)
    (a7 : PySem.W.nsIn K mainGlobals "alike_states" = some (some (.ref f7))) (l7 : K.lookup f7 = some ⟨oc7, od7, .func (PySem.W.fnOf "alike_states" "alike_states" (defArgs sAlike) (defBody sAlike) (defScope sAlike) .none kV7 dc7 pm7 an7 cd7 ct7), sl7⟩) (c7 : PySem.W.codeIn K cd7 "alike_states" = true) (k7 : PySem.W.keepIn K (.ref f7) = true)
    (a8 : PySem.W.nsIn K mainGlobals "split_groups" = some (some (.ref f8))) (l8 : K.lookup f8 = some ⟨oc8, od8, .func (PySem.W.fnOf "split_groups" "split_groups" (defArgs sSplit) (defBody sSplit) (defScope sSplit) .none kV8 dc8 pm8 an8 cd8 ct8), sl8⟩) (c8 : PySem.W.codeIn K cd8 "split_groups" = true) (k8 : PySem.W.keepIn K (.ref f8) = true)
    (a9 : PySem.W.nsIn K mainGlobals "number_marks" = some (some (.ref f9))) (l9 : K.lookup f9 = some ⟨oc9, od9, .func (PySem.W.fnOf "number_marks" "number_marks" (defArgs sNum) (defBody sNum) (defScope sNum) .none kV9 dc9 pm9 an9 cd9 ct9), sl9⟩) (c9 : PySem.W.codeIn K cd9 "number_marks" = true) (k9 : PySem.W.keepIn K (.ref f9) = true)
    (a10 : PySem.W.nsIn K mainGlobals "joined_machine" = some (some (.ref f10))) (l10 : K.lookup f10 = some ⟨oc10, od10, .func (PySem.W.fnOf "joined_machine" "joined_machine" (defArgs sJoin) (defBody sJoin) (defScope sJoin) .none kV10 dc10 pm10 an10 cd10 ct10), sl10⟩) (c10 : PySem.W.codeIn K cd10 "joined_machine" = true) (k10 : PySem.W.keepIn K (.ref f10) = true)
    (a11 : PySem.W.nsIn K mainGlobals "first_word_apart" = some (some (.ref f11))) (l11 : K.lookup f11 = some ⟨oc11, od11, .func (PySem.W.fnOf "first_word_apart" "first_word_apart" (defArgs sFirst) (defBody sFirst) (defScope sFirst) .none kV11 dc11 pm11 an11 cd11 ct11), sl11⟩) (c11 : PySem.W.codeIn K cd11 "first_word_apart" = true) (k11 : PySem.W.keepIn K (.ref f11) = true)
    (a12 : PySem.W.nsIn K mainGlobals "word_back" = some (some (.ref f12))) (l12 : K.lookup f12 = some ⟨oc12, od12, .func (PySem.W.fnOf "word_back" "word_back" (defArgs sBack) (defBody sBack) (defScope sBack) .none kV12 dc12 pm12 an12 cd12 ct12), sl12⟩) (c12 : PySem.W.codeIn K cd12 "word_back" = true) (k12 : PySem.W.keepIn K (.ref f12) = true)
    (a13 : PySem.W.nsIn K mainGlobals "words_of_three_parts" = some (some (.ref f13))) (l13 : K.lookup f13 = some ⟨oc13, od13, .func (PySem.W.fnOf "words_of_three_parts" "words_of_three_parts" (defArgs sThree) (defBody sThree) (defScope sThree) .none kV13 dc13 pm13 an13 cd13 ct13), sl13⟩) (c13 : PySem.W.codeIn K cd13 "words_of_three_parts" = true) (k13 : PySem.W.keepIn K (.ref f13) = true)
    (a14 : PySem.W.nsIn K mainGlobals "first_words" = some (some (.ref f14))) (l14 : K.lookup f14 = some ⟨oc14, od14, .func (PySem.W.fnOf "first_words" "first_words" (defArgs sFirsts) (defBody sFirsts) (defScope sFirsts) .none kV14 dc14 pm14 an14 cd14 ct14), sl14⟩) (c14 : PySem.W.codeIn K cd14 "first_words" = true) (k14 : PySem.W.keepIn K (.ref f14) = true)
    (a15 : PySem.W.nsIn K mainGlobals "head_words" = some (some (.ref f15))) (l15 : K.lookup f15 = some ⟨oc15, od15, .func (PySem.W.fnOf "head_words" "head_words" (defArgs sHead) (defBody sHead) (defScope sHead) .none kV15 dc15 pm15 an15 cd15 ct15), sl15⟩) (c15 : PySem.W.codeIn K cd15 "head_words" = true) (k15 : PySem.W.keepIn K (.ref f15) = true)
    (a16 : PySem.W.nsIn K mainGlobals "words_up_to" = some (some (.ref f16))) (l16 : K.lookup f16 = some ⟨oc16, od16, .func (PySem.W.fnOf "words_up_to" "words_up_to" (defArgs sUpTo) (defBody sUpTo) (defScope sUpTo) .none kV16 dc16 pm16 an16 cd16 ct16), sl16⟩) (c16 : PySem.W.codeIn K cd16 "words_up_to" = true) (k16 : PySem.W.keepIn K (.ref f16) = true)
    (a17 : PySem.W.nsIn K mainGlobals "tail_words" = some (some (.ref f17))) (l17 : K.lookup f17 = some ⟨oc17, od17, .func (PySem.W.fnOf "tail_words" "tail_words" (defArgs sTail) (defBody sTail) (defScope sTail) .none kV17 dc17 pm17 an17 cd17 ct17), sl17⟩) (c17 : PySem.W.codeIn K cd17 "tail_words" = true) (k17 : PySem.W.keepIn K (.ref f17) = true)
    (a18 : PySem.W.nsIn K mainGlobals "told_words" = some (some (.ref f18))) (l18 : K.lookup f18 = some ⟨oc18, od18, .func (PySem.W.fnOf "told_words" "told_words" (defArgs sTold) (defBody sTold) (defScope sTold) .none kV18 dc18 pm18 an18 cd18 ct18), sl18⟩) (c18 : PySem.W.codeIn K cd18 "told_words" = true) (k18 : PySem.W.keepIn K (.ref f18) = true)
    (v1 : PySem.W.nsIn K mainGlobals "OUT_OF_RANGE" = some (some (.int (-2) t1)))    (v2 : PySem.W.nsIn K mainGlobals "NO_MACHINE" = some (some (.int (-3) t2)))    (v3 : PySem.W.nsIn K mainGlobals "MOST_LETTERS" = some (some (.int 16 t3)))    (v4 : PySem.W.nsIn K mainGlobals "MOST_STATES" = some (some (.int 64 t4)))    (v5 : PySem.W.nsIn K mainGlobals "MOST_TEST_LETTERS" = some (some (.int 4 t5)))    (v6 : PySem.W.nsIn K mainGlobals "MOST_TEST_STATES" = some (some (.int 12 t6)))    (v7 : PySem.W.nsIn K mainGlobals "TOO_MANY" = some (some (.int (-1) t7)))    (v8 : PySem.W.nsIn K mainGlobals "MOST_MORE" = some (some (.int 2 t8)))    (v9 : PySem.W.nsIn K mainGlobals "MOST_BYTES" = some (some (.int 2097152 t9)))
    (z1 : PySem.W.nsIn K mainGlobals "len" = some none)    (z2 : PySem.W.nsIn K mainGlobals "tuple" = some none)    (z3 : PySem.W.nsIn K mainGlobals "zip" = some none)    (z4 : PySem.W.nsIn K mainGlobals "list" = some none)    (z5 : PySem.W.nsIn K mainGlobals "range" = some none)    (z6 : PySem.W.nsIn K mainGlobals "enumerate" = some none)    (z7 : PySem.W.nsIn K mainGlobals "sorted" = some none) :
    ∃ fd : FuncData, (∀ (s : Shared) (u1 u2 u3 u4 u5 u6 : Value), BindsTo s fd ⟨[u1, u2, u3, u4, u5, u6], []⟩ [("k", u1), ("n", u2), ("more", u3), ("most", u4), ("rows", u5), ("takes", u6)]) ∧ ∀ (base : Heap) (c Pt : Addr), PySem.W.CodeHd base c Pt → base.BuiltinsAt mg Pt → (∀ (f : Addr) (o : Obj) (fd : FuncData), mg "words_of_three_parts" = some (.ref f) → h.get? f = some o → o.data = .func fd → fd.code = .ref c) →
      FnOk P w K mg base CX0 6 fa fd ["k", "n", "more", "most", "rows", "takes"] (spTest K Pt) := by
  have e := hfa.symm.trans (PySem.W.mg_of X G a2)
  cases e
  have F1 := fun_mk (st := sLeast) l1 c1 k1
  have F2 := fun_mk (st := sTest) l2 c2 k2
  have F3 := fun_mk (st := sIs) l3 c3 k3
  have F4 := fun_mk (st := sIsLeast) l4 c4 k4
  have F5 := fun_mk (st := sRow) l5 c5 k5
  have F6 := fun_mk (st := sReach) l6 c6 k6
  have F7 := fun_mk (st := sAlike) l7 c7 k7
  have F8 := fun_mk (st := sSplit) l8 c8 k8
  have F9 := fun_mk (st := sNum) l9 c9 k9
  have F10 := fun_mk (st := sJoin) l10 c10 k10
  have F11 := fun_mk (st := sFirst) l11 c11 k11
  have F12 := fun_mk (st := sBack) l12 c12 k12
  have F13 := fun_mk (st := sThree) l13 c13 k13
  have F14 := fun_mk (st := sFirsts) l14 c14 k14
  have F15 := fun_mk (st := sHead) l15 c15 k15
  have F16 := fun_mk (st := sUpTo) l16 c16 k16
  have F17 := fun_mk (st := sTail) l17 c17 k17
  have F18 := fun_mk (st := sTold) l18 c18 k18
  have b1 := F1.binds (ps := ["k", "n", "rows", "takes"]) fun _ _ _ _ _ _ us hl => match us, hl with | [_, _, _, _], _ => rfl
  have b3 := F3.binds (ps := ["n", "rows", "takes"]) fun _ _ _ _ _ _ us hl => match us, hl with | [_, _, _], _ => rfl
  have b4 := F4.binds (ps := ["k", "n", "rows", "takes"]) fun _ _ _ _ _ _ us hl => match us, hl with | [_, _, _, _], _ => rfl
  have b5 := F5.binds (ps := ["k", "rows", "state"]) fun _ _ _ _ _ _ us hl => match us, hl with | [_, _, _], _ => rfl
  have b6 := F6.binds (ps := ["k", "rows"]) fun _ _ _ _ _ _ us hl => match us, hl with | [_, _], _ => rfl
  have b7 := F7.binds (ps := ["k", "rows", "takes", "order"]) fun _ _ _ _ _ _ us hl => match us, hl with | [_, _, _, _], _ => rfl
  have b8 := F8.binds (ps := ["k", "rows", "order", "groups"]) fun _ _ _ _ _ _ us hl => match us, hl with | [_, _, _, _], _ => rfl
  have b9 := F9.binds (ps := ["order", "marks"]) fun _ _ _ _ _ _ us hl => match us, hl with | [_, _], _ => rfl
  have b10 := F10.binds (ps := ["k", "rows", "takes", "order", "groups"]) fun _ _ _ _ _ _ us hl => match us, hl with | [_, _, _, _, _], _ => rfl
  have b11 := F11.binds (ps := ["k", "rows", "takes", "rows2", "takes2", "start"]) fun _ _ _ _ _ _ us hl => match us, hl with | [_, _, _, _, _, _], _ => rfl
  have b12 := F12.binds (ps := ["place", "earlier", "letters"]) fun _ _ _ _ _ _ us hl => match us, hl with | [_, _, _], _ => rfl
  have b13 := F13.binds (ps := ["k", "n", "more", "rows", "takes"]) fun _ _ _ _ _ _ us hl => match us, hl with | [_, _, _, _, _], _ => rfl
  have b14 := F14.binds (ps := ["k", "n", "rows"]) fun _ _ _ _ _ _ us hl => match us, hl with | [_, _, _], _ => rfl
  have b15 := F15.binds (ps := ["k", "firsts"]) fun _ _ _ _ _ _ us hl => match us, hl with | [_, _], _ => rfl
  have b16 := F16.binds (ps := ["k", "longest"]) fun _ _ _ _ _ _ us hl => match us, hl with | [_, _], _ => rfl
  have b17 := F17.binds (ps := ["k", "n", "rows", "takes"]) fun _ _ _ _ _ _ us hl => match us, hl with | [_, _, _, _], _ => rfl
  have b18 := F18.binds (ps := ["words"]) fun _ _ _ _ _ _ us hl => match us, hl with | [_], _ => rfl
  have m_len := PySem.W.mg_none_of X G z1
  have m_tuple := PySem.W.mg_none_of X G z2
  have m_zip := PySem.W.mg_none_of X G z3
  have m_list := PySem.W.mg_none_of X G z4
  have m_range := PySem.W.mg_none_of X G z5
  have m_enumerate := PySem.W.mg_none_of X G z6
  have m_sorted := PySem.W.mg_none_of X G z7
  refine ⟨PySem.W.fnOf "test" "test" (defArgs sTest) (defBody sTest) (defScope sTest) .none kV2 dc2 pm2 an2 cd2 ct2, fun s u1 u2 u3 u4 u5 u6 => .of_eq rfl, fun base c Pt hC hbm hcode => ?_⟩
  have hcd : cd13 = .ref c := hcode f13 _ _ (PySem.W.mg_of X G a13) (X _ _ l13) rfl
  have GR : FnOk P w K mg base CX0 1 f5 _ ["k", "rows", "state"] (spRow K) := ok_row F5
  have GT : FnOk P w K mg base CX0 1 f9 _ ["order", "marks"] (spNumT K) := ok_numT F9 m_len
  have GD : FnOk P w K mg base CX0 1 f9 _ ["order", "marks"] (spNumD K) := ok_numD F9 m_len
  have GS := ok_split (P := P) (w := w) (base := base) F8 GR b5 k5 (PySem.W.mg_of X G a5) GD b9 k9 (PySem.W.mg_of X G a9) m_tuple
  have GA := ok_alike F7 GT b9 k9 (PySem.W.mg_of X G a9) GS b8 k8 (PySem.W.mg_of X G a8)
  have GE := ok_reach F6 GR b5 k5 (PySem.W.mg_of X G a5) m_len
  have GJ := ok_join F10 GR b5 k5 (PySem.W.mg_of X G a5) m_len
  have GI : FnOk P w K mg base CX0 1 f3 _ ["n", "rows", "takes"] (spIs K) := ok_is F3
  have GL := ok_leastM F1 (PySem.W.mg_of X G v1) (PySem.W.mg_of X G v2) (PySem.W.mg_of X G v3) (PySem.W.mg_of X G v4) GI b3 k3 (PySem.W.mg_of X G a3) GE b6 k6 (PySem.W.mg_of X G a6) GA b7 k7 (PySem.W.mg_of X G a7) GJ b10 k10 (PySem.W.mg_of X G a10)
  have GIL := ok_isL F4 GL b1 k1 (PySem.W.mg_of X G a1)
  have GB : FnOk P w K mg base CX0 1 f12 _ ["place", "earlier", "letters"] (spBack K) := ok_back F12
  have GF := ok_first F11 GR b5 k5 (PySem.W.mg_of X G a5) GB b12 k12 (PySem.W.mg_of X G a12) m_len m_zip m_list m_range
  have GW : FnOk P w K mg base CX0 1 f16 _ ["k", "longest"] (spUpTo K) := ok_upTo F16 m_len m_range
  have GH : FnOk P w K mg base CX0 1 f15 _ ["k", "firsts"] (spHead K) := ok_head F15 m_list m_range
  have GO : FnOk P w K mg base CX0 1 f18 _ ["words"] (spTold K) := ok_told F18 m_len
  have GN := ok_firsts F14 GR b5 k5 (PySem.W.mg_of X G a5) m_len m_range m_enumerate
  have GX := ok_tail F17 GF b11 k11 (PySem.W.mg_of X G a11) m_range m_tuple m_list
  have G3 := ok_three (c := c) (Pt := Pt) F13 (fun _ _ _ _ _ _ _ _ _ z => by
    rw [l13] at z
    have z2 := congrArg (fun o => o.bind fun (x : Obj) => match x.data with | .func fd => some fd.code | _ => none) z
    exact (Option.some.inj z2).symm.trans hcd) hC hbm GH b15 k15 (PySem.W.mg_of X G a15) GN b14 k14 (PySem.W.mg_of X G a14) GW b16 k16 (PySem.W.mg_of X G a16) GX b17 k17 (PySem.W.mg_of X G a17) m_len m_sorted
  exact ok_test F2 (PySem.W.mg_of X G v1) (PySem.W.mg_of X G v2) (PySem.W.mg_of X G v5) (PySem.W.mg_of X G v6) (PySem.W.mg_of X G v7) (PySem.W.mg_of X G v8) (PySem.W.mg_of X G v9) GI b3 k3 (PySem.W.mg_of X G a3) GIL b4 k4 (PySem.W.mg_of X G a4) G3 b13 k13 (PySem.W.mg_of X G a13) GO b18 k18 (PySem.W.mg_of X G a18) m_len
theorem walk {r : PySem.W.OpenSpec} (hr : r = PySem.Challenge.rw_leastone_s03_test) {q : Program} {loose : List Str} {XP : (Str → Option Value) → Heap → Prop} {YP : World → Heap → Prop} {d : DefRec} {K : Params → PySem.W.Frag} (hdf : d.params.defaults = [])
    (hY : ∀ (w : World) (h : Heap), YP w h → (K w.params).In h) (hT : ∀ P, PySem.W.noTabs (K P) = true) (hq : ∃ d' ∈ PyProof.Rows.recsOf q, d'.name = "words_of_three_parts")
    (F : ∀ (w : World) (mg : Str → Option Value) (fa : Addr) (h : Heap), (K w.params).In h → h.Ns mainGlobals mg → mg d.name = some (.ref fa) →
      ∃ fd : FuncData, (∀ (s : Shared) (u1 u2 u3 u4 u5 u6 : Value), BindsTo s fd ⟨[u1, u2, u3, u4, u5, u6], []⟩ [("k", u1), ("n", u2), ("more", u3), ("most", u4), ("rows", u5), ("takes", u6)]) ∧ ∀ (base : Heap) (c Pt : Addr), PySem.W.CodeHd base c Pt → base.BuiltinsAt mg Pt → (∀ (f : Addr) (o : Obj) (fd : FuncData), mg "words_of_three_parts" = some (.ref f) → h.get? f = some o → o.data = .func fd → fd.code = .ref c) →
        FnOk r.prog w (K w.params) mg base CX0 6 fa fd ["k", "n", "more", "most", "rows", "takes"] (spTest (K w.params) Pt)) :
    PySem.W.WalkOS q loose XP YP r d [] (fun f vs => PySem.call f vs) := by
  intro w s₀ s₁ mg mb G Y fa o pm cd doc dV kV ho hd hcd hD hmg hg args vals as hpre hlay hrd hwl hlo
  have KX := hY w _ Y
  obtain ⟨fd, hb, hF⟩ := F w mg fa _ KX G.T.g hmg
  obtain ⟨d', hd', hn'⟩ := hq
  obtain ⟨a', o', fd', c, Pt, i1, i2, i3, i4, i5, i6⟩ := G.T.tab d' hd'
  rw [hn'] at i1
  obtain ⟨bm, ob, b1, b2, b3, b4, b5, b6⟩ := G.T.bmain
  have hPK : (K w.params).lookup Pt = none := by
    cases z : (K w.params).lookup Pt with
    | none => rfl
    | some ox =>
      have z2 := KX _ _ z
      rw [i6.2] at z2
      cases z2
      have z3 := List.all_eq_true.mp (hT w.params) _ (PySem.W.mem_of_lookupK z)
      exact absurd (show false = true from z3) Bool.false_ne_true
  have hsh := PySem.W.os_shapes _ hpre
  subst hr
  obtain ⟨d1, r1, rfl, x1, hsh⟩ := PySem.W.hasAllW_cons hsh
  obtain ⟨d2, r2, rfl, x2, hsh⟩ := PySem.W.hasAllW_cons hsh
  obtain ⟨d3, r3, rfl, x3, hsh⟩ := PySem.W.hasAllW_cons hsh
  obtain ⟨d4, r4, rfl, x4, hsh⟩ := PySem.W.hasAllW_cons hsh
  obtain ⟨d5, r5, rfl, x5, hsh⟩ := PySem.W.hasAllW_cons hsh
  obtain ⟨d6, r6, rfl, x6, hsh⟩ := PySem.W.hasAllW_cons hsh
  obtain rfl := PySem.W.hasAllW_nil hsh
  obtain ⟨k, rfl⟩ := PySem.W.hasW_int x1
  obtain ⟨n, rfl⟩ := PySem.W.hasW_int x2
  obtain ⟨e, rfl⟩ := PySem.W.hasW_int x3
  obtain ⟨m, rfl⟩ := PySem.W.hasW_int x4
  obtain ⟨xs5, rfl, y5⟩ := PySem.W.hasW_list x5
  obtain ⟨ns, rfl⟩ := PySem.W.items_int y5
  obtain ⟨xs6, rfl, y6⟩ := PySem.W.hasW_list x6
  obtain ⟨ts, rfl⟩ := PySem.W.items_int y6
  obtain ⟨⟨a1, e1⟩, hs⟩ := L2.sdec_cons (PySem.W.os_pre_isSome hpre)
  obtain ⟨⟨a2, e2⟩, hs⟩ := L2.sdec_cons hs
  obtain ⟨⟨a3, e3⟩, hs⟩ := L2.sdec_cons hs
  obtain ⟨⟨a4, e4⟩, hs⟩ := L2.sdec_cons hs
  obtain ⟨⟨a5, e5⟩, hs⟩ := L2.sdec_cons hs
  obtain ⟨⟨a6, e6⟩, hs⟩ := L2.sdec_cons hs
  obtain ⟨e1, _, _⟩ := L2.sdec_int e1
  obtain ⟨e2, _, _⟩ := L2.sdec_int e2
  obtain ⟨e3, _, _⟩ := L2.sdec_int e3
  obtain ⟨e4, _, _⟩ := L2.sdec_int e4
  obtain ⟨e5, ln5, _⟩ := L2.sdec_ints e5
  obtain ⟨e6, ln6, _⟩ := L2.sdec_ints e6
  have ed := L2.sdec_join e1 (L2.sdec_join e2 (L2.sdec_join e3 (L2.sdec_join e4 (L2.sdec_join e5 (L2.sdec_join e6 (show PySem.W.Codec.decAll [] [] = some () from rfl))))))
  have hask : PySw38.test_asked k n e m ns ts = true := PySem.W.os_pre_asked hpre ed
  have hpost : (PySem.Challenge.rw_leastone_s03_test).post [.int k, .int n, .int e, .int m, .list (ns.map .int), .list (ts.map .int)] (.list ((PySw38.test k n e m ns ts).map .int)) = true := PySem.W.os_post ed (PySem.W.same_self _)
  cases hwl with
  | cons w1 hwl =>
  cases hwl with
  | cons w2 hwl =>
  cases hwl with
  | cons w3 hwl =>
  cases hwl with
  | cons w4 hwl =>
  cases hwl with
  | cons w5 hwl =>
  cases hwl with
  | cons w6 hwl =>
  cases hwl
  cases w1
  cases w2
  cases w3
  cases w4
  cases w5 with
  | @list ar vr _ hor har =>
  cases w6 with
  | @list at' vt _ hot hat =>
  have ir := Att.ints_of_wellAll ns _ har
  have it := Att.ints_of_wellAll ts _ hat
  refine PySem.W.enter_call (codeAny_mono (spec_callT (k := 6) (fd := fd) (sp := spTest (K w.params) Pt) (ps := ["k", "n", "more", "most", "rows", "takes"]) (c := c) (Pt := Pt) (fr := [(ar, vr, ns), (at', vt, ts)]) (vs := [.int k, .int n, .int e, .int m, .ref ar, .ref at']) (out := PySw38.test k n e m ns ts) KX G.T.g G.T.b G.T.builtins G.T.nolimit hg i6 hPK ?_ ⟨rfl, by decide, by decide⟩
    (.cons ⟨_, rfl⟩ (.cons ⟨_, rfl⟩ (.cons ⟨_, rfl⟩ (.cons ⟨_, rfl⟩ (.cons rfl (.cons rfl .nil)))))) (fun base kb hB => ?_) (hb _ _ _ _ _ _ _) ?_) fun r s' hq => goodS hpost hq)
  · intro e he
    rcases List.mem_cons.mp he with rfl | he
    · exact ⟨hor, ir, Nat.le_trans ln5 (by decide)⟩
    rcases List.mem_cons.mp he with rfl | he
    · exact ⟨hot, it, Nat.le_trans ln6 (by decide)⟩
    · cases he
  · have stays : ∀ b ob, s₁.heap.get? b = some ob → ob.cls ≠ .type "list" → b ≠ Pt → base.get? b = some ob := fun b ob eb nc nb => hB b ob eb (fun x hx z => by
      rcases List.mem_cons.mp hx with rfl | hx
      · have z' : ar = b := z
        rw [← z', hor] at eb
        cases eb
        exact nc rfl
      rcases List.mem_cons.mp hx with rfl | hx
      · have z' : at' = b := z
        rw [← z', hot] at eb
        cases eb
        exact nc rfl
      · cases hx) nb
    have hbmP : bm ≠ Pt := fun z => by rw [z, i6.2] at b3; cases b3; cases b4
    have hbG : bm ≠ mainGlobals := fun z => by
      obtain ⟨og, es, ep, eg, dg, _⟩ := G.T.g
      rw [z, eg] at b3; cases b3; rw [dg] at b6; cases b6
    refine hF base c Pt ?_ ⟨bm, ob, b1, b2, hbG, hbmP, stays bm ob b3 (by rw [b4]; intro z; injection z with z; exact absurd z (by decide)) hbmP, b4, b5, b6⟩ fun f of fdf hf hof hdf => ?_
    · obtain ⟨oc, vs, file, tf, flags, tg, inF, text, tt, f1, f2, f3, f4, f5, f6, f7, f8, f9, f10⟩ := PySem.W.CodeHd.of i5 i6
      exact ⟨oc, vs, file, tf, flags, tg, inF, text, tt, stays c oc f1 (by rw [f2]; intro z; injection z with z; exact absurd z (by decide)) f10, f2, f3, f4, f5, f6, f7, f8, f9, f10⟩
    · rw [i1] at hf
      cases hf
      rw [i2] at hof
      cases hof
      rw [i3] at hdf
      cases hdf
      exact i4
  · intro H hS hPH
    exact ⟨ar, at', k, n, e, m, ns, ts, rfl, hS _ List.mem_cons_self, hS _ (List.mem_cons_of_mem _ List.mem_cons_self), hask, hPH, fun p H' e => ⟨p, rfl, e⟩⟩
end Lp
open PySem PySem.W PyProof.Rows
set_option maxRecDepth 100000 in
set_option maxHeartbeats 0 in
theorem PySem.Challenge.cw_leastone_s03_test_holds : PySem.Challenge.rw_leastone_s03_test.Holds := by
  w_on; k_headS; (case hw => exact ⟨[.int 0, .int 0, .int 0, .int 0, .list [], .list []], by decide +kernel, by decide +kernel⟩)
  k_fillS
  refine Lp.walk rfl rfl (fun w h Y => PySem.W.kIn_of Y) ?noT ?recs ?F
  case noT => exact fun P => by rfl
  case recs => exact ⟨_, List.mem_of_find?_eq_some (p := fun e : DefRec => e.name == (Str.ofString "words_of_three_parts")) rfl, rfl⟩
  case F =>
    intro w mg fa h KX G hmg
    refine' Lp.all_mk KX G hmg ?a1 ?l1 ?c1 ?k1 ?a2 ?l2 ?c2 ?k2 ?a3 ?l3 ?c3 ?k3 ?a4 ?l4 ?c4 ?k4 ?a5 ?l5 ?c5 ?k5 ?a6 ?l6 ?c6 ?k6 ?a7 ?l7 ?c7 ?k7 ?a8 ?l8 ?c8 ?k8 ?a9 ?l9 ?c9 ?k9 ?a10 ?l10 ?c10 ?k10 ?a11 ?l11 ?c11 ?k11 ?a12 ?l12 ?c12 ?k12 ?a13 ?l13 ?c13 ?k13 ?a14 ?l14 ?c14 ?k14 ?a15 ?l15 ?c15 ?k15 ?a16 ?l16 ?c16 ?k16 ?a17 ?l17 ?c17 ?k17 ?a18 ?l18 ?c18 ?k18 ?v1 ?v2 ?v3 ?v4 ?v5 ?v6 ?v7 ?v8 ?v9 ?z1 ?z2 ?z3 ?z4 ?z5 ?z6 ?z7
    (case a1 => k_is)
    (case l1 => k_is)
    (case c1 => k_is)
    (case k1 => k_is)
    (case a2 => k_is)
    (case l2 => k_is)
    (case c2 => k_is)
    (case k2 => k_is)
    (case a3 => k_is)
    (case l3 => k_is)
    (case c3 => k_is)
    (case k3 => k_is)
    (case a4 => k_is)
    (case l4 => k_is)
    (case c4 => k_is)
    (case k4 => k_is)
    (case a5 => k_is)
    (case l5 => k_is)
    (case c5 => k_is)
    (case k5 => k_is)
    (case a6 => k_is)
    (case l6 => k_is)
    (case c6 => k_is)
    (case k6 => k_is)
    (case a7 => k_is)
    (case l7 => k_is)
    (case c7 => k_is)
    (case k7 => k_is)
    (case a8 => k_is)
    (case l8 => k_is)
    (case c8 => k_is)
    (case k8 => k_is)
    (case a9 => k_is)
    (case l9 => k_is)
    (case c9 => k_is)
    (case k9 => k_is)
    (case a10 => k_is)
    (case l10 => k_is)
    (case c10 => k_is)
    (case k10 => k_is)
    (case a11 => k_is)
    (case l11 => k_is)
    (case c11 => k_is)
    (case k11 => k_is)
    (case a12 => k_is)
    (case l12 => k_is)
    (case c12 => k_is)
    (case k12 => k_is)
    (case a13 => k_is)
    (case l13 => k_is)
    (case c13 => k_is)
    (case k13 => k_is)
    (case a14 => k_is)
    (case l14 => k_is)
    (case c14 => k_is)
    (case k14 => k_is)
    (case a15 => k_is)
    (case l15 => k_is)
    (case c15 => k_is)
    (case k15 => k_is)
    (case a16 => k_is)
    (case l16 => k_is)
    (case c16 => k_is)
    (case k16 => k_is)
    (case a17 => k_is)
    (case l17 => k_is)
    (case c17 => k_is)
    (case k17 => k_is)
    (case a18 => k_is)
    (case l18 => k_is)
    (case c18 => k_is)
    (case k18 => k_is)
    (case v1 => k_is)
    (case v2 => k_is)
    (case v3 => k_is)
    (case v4 => k_is)
    (case v5 => k_is)
    (case v6 => k_is)
    (case v7 => k_is)
    (case v8 => k_is)
    (case v9 => k_is)
    (case z1 => k_is)
    (case z2 => k_is)
    (case z3 => k_is)
    (case z4 => k_is)
    (case z5 => k_is)
    (case z6 => k_is)
    (case z7 => k_is)
#print axioms PySem.Challenge.cw_leastone_s03_test_holds
