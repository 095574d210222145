import PyProof.Rows.All
import Wide.All
import OpenK.AllK
import Wide.FinOn
import PyProof.EqAt
import PyProof.EqKinds
import PyProof.TupleCall
import KE.BitLaws
import KE.KEqDict
import KE.KDictLaws
import KE.OsGo
import PyProof.Rows.TupDisplay
import PyProof.ZipIter
import PyProof.ListNew
import PySem.Challenge.RW_leastone_s02_apart
-- CHANGE: your row's module here, as the last of these rows
set_option Elab.async false
set_option linter.all false
set_option maxRecDepth 100000
namespace PySem
open Sem (wp)
abbrev NKey := Int × List Int
def IsNest (prog : Program) (w : World) (h : Heap) (k : NKey) (a : Addr) : Prop :=
  ∃ o n t b, h.get? a = some o ∧ o.cls = .type "tuple" ∧ o.data = .seq #[.int k.1 t, .ref b] n ∧ IsTupleKey (intKind prog w) h k.2 b
def nestHash (prog : Program) (w : World) (k : NKey) : Int := reduceHash (Builtin.Tuple.tupleHashOf [(intKind prog w).hash k.1, tupleKeyHash (intKind prog w) k.2])
section
variable {prog : Program} {w : World} {A : Around} {E : Value → Shared → Prop} {s : Shared}
theorem IsNest.typeIs {k : NKey} {a : Addr} (x : IsNest prog w s.heap k a) : s.TypeIs (.ref a) "tuple" := let ⟨o, _, _, _, ho, hc, _⟩ := x; ⟨o, ho, hc⟩
theorem IsNest.inj {h : Heap} {a : Addr} {x y : NKey} (hx : IsNest prog w h x a) (hy : IsNest prog w h y a) : x = y := by
  obtain ⟨o, n, t, b, ho, _, hd, hi⟩ := hx
  obtain ⟨o', n', t', b', ho', _, hd', hi'⟩ := hy
  obtain rfl : o = o' := Option.some.inj (ho.symm.trans ho')
  rw [hd] at hd'
  injection hd' with h1 _
  have h2 := congrArg Array.toList h1
  simp only [List.cons.injEq, Value.int.injEq, Value.ref.injEq, and_true] at h2
  obtain ⟨⟨e1, _⟩, e2⟩ := h2
  subst e2
  exact Prod.ext e1 (hi.inj hi')
theorem IsNest.keeps {h h' : Heap} {k : NKey} {a d : Addr} {o : Obj} {es ep} (x : IsNest prog w h k a) (ho : h.get? d = some o) (hd : o.data = .dict es ep) (hs : Heap.SameBut d h h') : IsNest prog w h' k a := by
  obtain ⟨o', n, t, b, ho', hc, hd', hi⟩ := x
  have hne : a ≠ d := by
    rintro rfl
    obtain rfl : o' = o := Option.some.inj (ho'.symm.trans ho)
    rw [hd] at hd'; exact nomatch hd'
  exact ⟨o', n, t, b, (hs.2 a hne).trans ho', hc, hd', hi.keeps ho hd hs⟩
theorem nestInt_is (i : Int) (t : Tok) : (intKind prog w).is i (.int i t) = true := by
  show Value.isInt i (.int i t) = true
  simp [Value.isInt]
theorem wpAny_pyHash_nest {k : NKey} {a : Addr} {Q : Int → Shared → Prop} (hu : A.units + 1 < cLine) (hk : IsNest prog w s.heap k a) (h : Q (nestHash prog w k) { s with toks := s.toks + (k.2.length + 3) }) :
    wpAny (model prog w) A (pyHash (.ref a)) Q E s := by
  have hT := hk.typeIs
  obtain ⟨o, n, t, b, ho, _, hd, hi⟩ := hk
  unfold pyHash
  first | unfold pyHashByItsType | skip
  first | refine wpAny_bind (wpAny_cRoomFor_or (.inr (by omega)) ?_) | skip
  refine wpAny_bind (wpAny_specialOf hT F.slot_tuple_hash.lookup ?_)
  show wpAny _ _ (if (some (Value.builtin "tuple.__hash__") == some Value.none) = true then _ else _) Q E s
  rw [if_neg (by rw [beq_builtin_none]; exact Bool.false_ne_true)]
  refine wpAny_bind (wpAny_specialOf hT F.slot_tuple_hash.lookup ?_)
  show wpAny _ _ (callSpecialIfBoundUnlessNone? (.ref a) "__hash__" _ >>= _) Q E s
  refine wpAny_bind (wpAny_callSpecialIfBoundUnlessNone?_slot hT F.slot_tuple_hash (wpAny_call_entry F.slot_tuple_hash hT F.entry_tuple_hash ?_ (F.args_tuple_hash_1 _)))
  show wpAny _ _ (Builtin.Tuple.tupleItemsOf (.ref a) >>= _) _ _ s
  refine wpAny_bind (wpAny_tupleItemsOf ho hd ?_)
  refine wpAny_bind ?_
  rw [← Array.forIn_toList]
  refine wpAny_forIn_list _
    (fun rest (c : Array Int) s' => (rest = [.int k.1 t, .ref b] ∧ c = #[] ∧ s' = s) ∨ (rest = [.ref b] ∧ c = #[(intKind prog w).hash k.1] ∧ s' = { s with toks := s.toks + 1 }) ∨
      (rest = [] ∧ c = #[(intKind prog w).hash k.1, tupleKeyHash (intKind prog w) k.2] ∧ s' = { s with toks := s.toks + 1 + (k.2.length + 1) }))
    _ ?_ ?_ _ _ (.inl ⟨rfl, rfl, rfl⟩)
  · rintro x rest c s' (⟨e, rfl, rfl⟩ | ⟨e, rfl, rfl⟩ | ⟨e, _⟩)
    · cases e
      refine wpAny_bind ((intKind prog w).pyHash (nestInt_is k.1 t) ?_)
      first
        | exact wpAny_pure (.inr (.inl ⟨rfl, rfl, rfl⟩))
        | exact wpAny_bind (wpAny_pure (wpAny_pure (.inr (.inl ⟨rfl, rfl, rfl⟩))))
    · cases e
      refine wpAny_bind (wpAny_pyHash_tuple (knd := intKind prog w) (A := A.in1) hu hi ?_)
      first
        | exact wpAny_pure (.inr (.inr ⟨rfl, rfl, rfl⟩))
        | exact wpAny_bind (wpAny_pure (wpAny_pure (.inr (.inr ⟨rfl, rfl, rfl⟩))))
    · cases e
  · rintro c s' (⟨e, _⟩ | ⟨e, _⟩ | ⟨_, rfl, rfl⟩)
    · cases e
    · cases e
    show wpAny _ _ (retInt (Builtin.Tuple.tupleHashOf [(intKind prog w).hash k.1, tupleKeyHash (intKind prog w) k.2])) _ _ _
    refine wpAny_ret_mkInt ?_
    show wpAny _ _ (if (decide (-(2 : Int) ^ 63 ≤ Builtin.Tuple.tupleHashOf [(intKind prog w).hash k.1, tupleKeyHash (intKind prog w) k.2]) && decide (Builtin.Tuple.tupleHashOf [(intKind prog w).hash k.1, tupleKeyHash (intKind prog w) k.2] < 2 ^ 63)) = true then _ else _) Q E _
    unfold nestHash reduceHash at h
    have et : s.toks + 1 + (k.2.length + 1) + 1 = s.toks + (k.2.length + 3) := by omega
    by_cases hr : (decide (-(2 : Int) ^ 63 ≤ Builtin.Tuple.tupleHashOf [(intKind prog w).hash k.1, tupleKeyHash (intKind prog w) k.2]) && decide (Builtin.Tuple.tupleHashOf [(intKind prog w).hash k.1, tupleKeyHash (intKind prog w) k.2] < 2 ^ 63)) = true
    · rw [if_pos hr]
      rw [if_pos hr, ← et] at h
      exact wpAny_pure h
    · rw [if_neg hr]
      rw [if_neg hr, ← et] at h
      exact wpAny_bind (wpAny_rule (wpAny_pure h))
theorem nest_eq_tree {x y : NKey} {a b : Addr} {P : Fin → Shared → Prop} (hu : A.units < cLine) (hx : IsNest prog w s.heap x a) (hy : IsNest prog w s.heap y b) (h : P (.done (.ret (.bool (decide (x = y))))) s) :
    wpAny (model prog w) A (Builtin.«tuple.__eq__» ⟨[.ref a, .ref b], []⟩) P E s := by
  have hTb := hy.typeIs
  obtain ⟨oa, na, ta, ca, hoa, _, hda, hia⟩ := hx
  obtain ⟨ob, nb, tb, cb, hob, _, hdb, hib⟩ := hy
  show wpAny _ _ (isInstance (.ref b) (.type "tuple") >>= _) _ _ s
  refine wpAny_bind (wpAny_isInstance hTb isSubtype_tuple_tuple ?_)
  simp only [Bool.not_true, Bool.false_eq_true, if_false]
  refine wpAny_bind (wpAny_tupleItemsOf hoa hda ?_)
  refine wpAny_bind (wpAny_tupleItemsOf hob hdb ?_)
  refine wpAny_bind ?_
  refine wpAny_forIn_list _
    (fun rest r s' => r.1 = none ∧ s' = s ∧ (rest = [(.int x.1 ta, .int y.1 tb), (.ref ca, .ref cb)] ∨ (rest = [(.ref ca, .ref cb)] ∧ x.1 = y.1) ∨ (rest = [] ∧ x = y)))
    _ ?_ ?_ _ _ ⟨rfl, rfl, .inl rfl⟩
  · rintro ⟨u, v⟩ rest r s' ⟨hr, rfl, e | ⟨e, e1⟩ | ⟨e, _⟩⟩
    · cases e
      refine wpAny_bind ((intKind prog w).eqBool (a := x.1) (b := y.1) (nestInt_is _ _) (nestInt_is _ _) ?_)
      by_cases hk : x.1 = y.1
      · rw [decide_eq_true hk]
        simp only [Bool.not_true, Bool.false_eq_true, if_false]
        exact wpAny_pure ⟨rfl, rfl, .inr (.inl ⟨by trivial, hk⟩)⟩
      · rw [decide_eq_false hk]
        simp only [Bool.not_false, if_true]
        have hf : decide (x = y) = false := decide_eq_false fun q => hk (by rw [q])
        rw [hf] at h
        exact wpAny_bind (wpAny_pure (wpAny_pure (wpAny_pure h)))
    · cases e
      refine wpAny_bind (wpAny_eqBool_tuple (knd := intKind prog w) hu hia hib ?_)
      by_cases hk : x.2 = y.2
      · rw [decide_eq_true hk]
        simp only [Bool.not_true, Bool.false_eq_true, if_false]
        exact wpAny_pure ⟨rfl, rfl, .inr (.inr ⟨by trivial, Prod.ext e1 hk⟩)⟩
      · rw [decide_eq_false hk]
        simp only [Bool.not_false, if_true]
        have hf : decide (x = y) = false := decide_eq_false fun q => hk (by rw [q])
        rw [hf] at h
        exact wpAny_bind (wpAny_pure (wpAny_pure (wpAny_pure h)))
    · cases e
  · rintro ⟨r1, r2⟩ s' ⟨hr, rfl, e | ⟨e, _⟩ | ⟨_, e⟩⟩
    · cases e
    · cases e
    simp only at hr
    subst hr
    refine wpAny_pure ?_
    show P (.done (.ret (.bool (2 == 2)))) s'
    rw [decide_eq_true e] at h
    exact h
theorem wpAny_eqBool_nest {x y : NKey} {a b : Addr} {Q : Bool → Shared → Prop} (hu : A.units + 1 < cLine) (hx : IsNest prog w s.heap x a) (hy : IsNest prog w s.heap y b) (h : Q (decide (x = y)) s) :
    wpAny (model prog w) A (eqBool (.ref a) (.ref b)) Q E s := by
  unfold eqBool
  try with_reducible refine wpAny_holding ?_
  show wpAny _ _ (if (Value.ref a == Value.ref b) = true then _ else _) Q E s
  by_cases hab : (Value.ref a == Value.ref b) = true
  · rw [if_pos hab]
    have e : a = b := by have := eq_of_beq hab; injection this
    subst e
    obtain rfl := hx.inj hy
    exact wpAny_bind (wpAny_rule (wpAny_pure (by simpa using h)))
  · rw [if_neg hab]
    exact wpAny_bind (wpAny_richCompare_same_room (op := .Eq) hx.typeIs hy.typeIs F.slot_tuple_eq
      (wpAny_call_entry F.slot_tuple_eq hx.typeIs F.entry_tuple_eq (nest_eq_tree (A := A.in1) hu hx hy ⟨_, rfl, (fun e => nomatch e), wpAny_truthy_bool h⟩) (F.args_tuple_eq_2 _ _)) (by omega))
theorem wpAny_eqIsQuiet_tupleN {K : Type} [DecidableEq K] {knd : KeyKind prog w K} (n : Nat) {ks : List K} {a : Addr} {Q : Bool → Shared → Prop} (hk : IsTupleKey knd s.heap ks a) (h : Q true s) : wpAny (model prog w) A (eqIsQuiet (n + 1) (.ref a)) Q E s := by
  have hT := hk.typeIs
  obtain ⟨o, items, n, ho, _, hd, hi⟩ := hk
  unfold eqIsQuiet
  refine wpAny_bind (wpAny_specialOf hT F.slot_tuple_eq.lookup ?_)
  show wpAny _ _ (isInstance (.ref a) (.type "tuple") >>= _) _ _ s
  refine wpAny_bind (wpAny_isInstance hT isSubtype_tuple_tuple ?_)
  simp only [Bool.not_true, Bool.false_eq_true, if_false]
  refine wpAny_bind (wpAny_seqItems ho hd ?_)
  refine wpAny_bind ?_
  show wpAny _ _ (forIn items _ _) _ _ s
  rw [← Array.forIn_toList]
  refine wpAny_forIn_list _ (fun rest r s' => r.1 = none ∧ s' = s ∧ ∀ v ∈ rest, carriedByValue v = true) _ ?_ ?_ _ _ ⟨rfl, rfl, hi.byValue⟩
  · rintro v rest r s' ⟨hr, rfl, hall⟩
    rw [eqIsQuiet_byValue _ (hall v List.mem_cons_self)]
    refine wpAny_bind (wpAny_pure ?_)
    simp only [Bool.not_true, Bool.false_eq_true, if_false]
    exact wpAny_pure ⟨rfl, rfl, fun u hu' => hall u (List.mem_cons_of_mem _ hu')⟩
  · rintro ⟨r1, r2⟩ s' ⟨hr, rfl, _⟩
    simp only at hr
    subst hr
    exact wpAny_pure h
theorem wpAny_eqIsQuiet_nest {k : NKey} {a : Addr} {Q : Bool → Shared → Prop} (hk : IsNest prog w s.heap k a) (h : Q true s) : wpAny (model prog w) A (eqIsQuiet 8 (.ref a)) Q E s := by
  have hT := hk.typeIs
  obtain ⟨o, n, t, b, ho, _, hd, hi⟩ := hk
  unfold eqIsQuiet
  refine wpAny_bind (wpAny_specialOf hT F.slot_tuple_eq.lookup ?_)
  show wpAny _ _ (isInstance (.ref a) (.type "tuple") >>= _) _ _ s
  refine wpAny_bind (wpAny_isInstance hT isSubtype_tuple_tuple ?_)
  simp only [Bool.not_true, Bool.false_eq_true, if_false]
  refine wpAny_bind (wpAny_seqItems ho hd ?_)
  refine wpAny_bind ?_
  show wpAny _ _ (forIn (#[Value.int k.1 t, Value.ref b] : Array Value) _ _) _ _ s
  rw [← Array.forIn_toList]
  refine wpAny_forIn_list _ (fun rest r s' => r.1 = none ∧ s' = s ∧ (rest = [.int k.1 t, .ref b] ∨ rest = [.ref b] ∨ rest = [])) _ ?_ ?_ _ _ ⟨rfl, rfl, .inl rfl⟩
  · rintro v rest r s' ⟨hr, rfl, e | e | e⟩
    · cases e
      rw [eqIsQuiet_byValue _ (show carriedByValue (.int k.1 t) = true from rfl)]
      refine wpAny_bind (wpAny_pure ?_)
      simp only [Bool.not_true, Bool.false_eq_true, if_false]
      exact wpAny_pure ⟨rfl, rfl, .inr (.inl (by trivial))⟩
    · cases e
      refine wpAny_bind (wpAny_eqIsQuiet_tupleN 6 hi ?_)
      simp only [Bool.not_true, Bool.false_eq_true, if_false]
      exact wpAny_pure ⟨rfl, rfl, .inr (.inr (by trivial))⟩
    · cases e
  · rintro ⟨r1, r2⟩ s' ⟨hr, rfl, _⟩
    simp only at hr
    subst hr
    exact wpAny_pure h
end
def nestKind (prog : Program) (w : World) : HeapKind prog w NKey where
  is := IsNest prog w
  hash := nestHash prog w
  draws := fun k => k.2.length + 3
  room := fun A => A.units + 1 < cLine
  inj := fun hx hy => hx.inj hy
  keeps := fun x ho hd hs => x.keeps ho hd hs
  pyHash := fun hu hk h => wpAny_pyHash_nest hu hk h
  eqBool := fun hu hx hy h => wpAny_eqBool_nest hu hx hy h
  quiet := fun hk h => wpAny_eqIsQuiet_nest hk h
section
variable {prog : Program} {w : World} {K : Type} [DecidableEq K] {knd : HeapKind prog w K} {A : Around} {E : Value → Shared → Prop} {s : Shared}
theorem dictSetDefault_heap {d a : Addr} {xs : List (K × Addr × Value)} {k : K} {v : Value} {Q : Value → Shared → Prop} (hu : knd.room A) (hkey : knd.is s.heap k a) (hm : s.heap.DictOfH knd d xs) (hsz : xs.length ≤ sizeLine)
    (h1 : ∀ p, atKey xs k = some p → Q p.2 { s with toks := s.toks + knd.draws k })
    (h2 : atKey xs k = none → ∀ h', h'.DictOfH knd d (storedH xs k a v) → Heap.SameBut d s.heap h' → Q v { s with heap := h', toks := s.toks + knd.draws k }) :
    wpAny (model prog w) A (dictSetDefault d (.ref a) v) Q E s := by
  obtain ⟨o, es, ep, ho, hc, hd, he, his, hn⟩ := hm
  unfold dictSetDefault
  try with_reducible refine wpAny_holding ?_
  refine wpAny_bind (knd.pyHash hu hkey ?_)
  refine wpAny_bind (wpAny_dictFind_heap (s := { s with toks := s.toks + knd.draws k }) hu hkey ho hd he his hn ?_ ?_)
  · intro hno
    have hnot : k ∉ xs.map (·.1) := not_mem_keys_of_get hno
    refine wpAny_bind (wpAny_rule (wpAny_bind (wpAny_updateDictKeys (hz := by have e := size_of_entries he; omega) (s := { s with toks := s.toks + knd.draws k }) ho hd (wpAny_pure (h2 (atKey_none_of_get hno) _ ⟨_, _, ep + 1, Heap.get?_update_self _ ho (Obj.isFreed_of_dict (Obj.data_mapDictKeys hd _)),
      hc.mapDictKeys _, Obj.data_mapDictKeys hd _, ?_, ?_, ?_⟩ (Heap.SameBut.update ..))))))
    · rw [storedH_new (atKey_none_of_get hno)]
      simp [he, entryOfKey]
    · rw [storedH_new (atKey_none_of_get hno)]
      intro x hx
      rcases List.mem_append.mp hx with hx | hx
      · exact knd.keeps (his x hx) ho hd (Heap.SameBut.update ..)
      · simp only [List.mem_singleton] at hx
        subst hx
        exact knd.keeps hkey ho hd (Heap.SameBut.update ..)
    · rw [storedH_new (atKey_none_of_get hno)]
      rw [List.map_append, List.nodup_append]
      refine ⟨hn, by simp, ?_⟩
      intro x hx y hy
      simp only [List.map_cons, List.map_nil, List.mem_singleton] at hy
      subst hy
      exact fun e => hnot (e ▸ hx)
  · intro j p hj
    have q := h1 p (atKey_of_get hn hj)
    refine wpAny_bind (wpAny_dictEntries (s := { s with toks := s.toks + knd.draws k }) ho hd ?_)
    rw [entry_at he j, hj]
    exact wpAny_bind (wpAny_rule (wpAny_pure q))
theorem meetsH_setdefault (knd : HeapKind prog w K) (d a : Addr) (hd : (d == sysModules) = false) (dflt : Value) :
    MeetsIn prog w (Builtin.«dict.setdefault» ⟨[.ref d, .ref a, dflt], []⟩) (fun A R s => knd.room A.in1 ∧ ∃ k xs, knd.is s.heap k a ∧ s.heap.DictOfH knd d xs ∧ xs.length ≤ sizeLine ∧
      (∀ p, atKey xs k = some p → R (.ok (.ret p.2)) { s with toks := s.toks + knd.draws k }) ∧
      (atKey xs k = none → ∀ h', h'.DictOfH knd d (storedH xs k a dflt) → Heap.SameBut d s.heap h' → R (.ok (.ret dflt)) { s with heap := h', toks := s.toks + knd.draws k })) :=
  .of_wp fun A R s ⟨hu, k, xs, hkey, hm, hz, h1, h2⟩ => by
    unfold Builtin.«dict.setdefault»
    refine wpAny_bind ?_
    unfold Builtin.Dict.keyAndDefault
    refine wpAny_bind (wpAny_notOrdered_dict hm.typeIs ?_)
    show wpAny _ _ (pure (d, Value.ref a, some dflt)) _ _ s
    refine wpAny_pure ?_
    show wpAny _ _ (if (d == sysModules) = true then _ else (dictSetDefault d (.ref a) dflt >>= _)) _ _ s
    rw [if_neg (by rw [hd]; exact Bool.false_ne_true)]
    exact wpAny_bind (dictSetDefault_heap hu hkey hm hz (fun p hp => wpAny_pure ⟨p.2, rfl, h1 p hp⟩) fun hn h' hm' hs' => wpAny_pure ⟨dflt, rfl, h2 hn h' hm' hs'⟩)
theorem meetsH_len (knd : HeapKind prog w K) (d : Addr) (hd : (d == sysModules) = false) :
    MeetsIn prog w (Builtin.«dict.__len__» ⟨[.ref d], []⟩) (fun _ R s => ∃ xs, s.heap.DictOfH knd d xs ∧ R (.ok (.ret (.int xs.length s.toks))) { s with toks := s.toks + 1 }) :=
  .of_wp fun A R s ⟨xs, hm, h⟩ => by
    obtain ⟨o, es, ep, ho, hc, hdat, he, his, hn⟩ := hm
    show wpAny _ _ (dictSize d >>= _) _ _ s
    unfold dictSize
    refine wpAny_bind (wpAny_bind (wpAny_dictEntries ho hdat (wpAny_pure ?_)))
    show wpAny _ _ (Builtin.Dict.pendingCount d >>= _) _ _ s
    refine wpAny_bind (wpAny_pendingCount_other hd ?_)
    refine wpAny_ret_mkInt ?_
    rw [Nat.add_zero, size_of_entries he]; exact h
/-- len(d) -/
theorem call_len_heap {d : Addr} {xs : List (K × Addr × Value)} {Q : Value → Shared → Prop} (hd : (d == sysModules) = false) (hm : s.heap.DictOfH knd d xs) (hfit : (xs.length : Int) < 2 ^ 63)
    (h : Q (.int xs.length (s.toks + 1)) { s with toks := s.toks + 1 + 1 }) : wpAny (model prog w) A (call (.builtin "len") [.ref d]) Q E s := by
  refine Calls.call_function_entry kind_len plain_len entry_len (args_len1 _) ?_
  unfold Builtin.«len»
  refine wpAny_bind (m := oneArg "len" _) (wpAny_pure ?_)
  refine wpAny_bind (m := callSpecial? (.ref d) (Str.ofString "__len__")) (wpAny_callSpecial?_slot (name := Str.ofString "__len__") hm.typeIs F.slot_dict_len
    (call_meetsIn F.slot_dict_len hm.typeIs F.entry_dict_len (F.args_dict_len_1 _) (meetsH_len knd d hd) ⟨xs, hm, ?_⟩))
  show wpAny _ _ _ _ _ { s with toks := s.toks + 1 }
  refine wpAny_bind (wpAny_holding (wpAny_pure ?_))
  refine wpAny_bind (wpAny_letGo ?_)
  show wpAny _ _ (if ((xs.length : Nat) : Int) < 0 then _ else _) _ _ _
  rw [if_neg (by omega)]
  show wpAny _ _ (if ((xs.length : Nat) : Int) ≥ 2 ^ 63 then _ else _) _ _ _
  rw [if_neg (by omega)]
  exact wpAny_bind (wpAny_mkInt (wpAny_pure ⟨_, rfl, h⟩))
end
end PySem
namespace L2
open PySem PySem.Spec PyProof.Rows

/-- a key: an int or a str -/
abbrev Key := Sum Int Str
def keyIs : Key → Value → Bool
  | .inl k, v => Value.isInt k v
  | .inr x, v => Value.isStrOf x v
def keyH (w : World) : Key → Int
  | .inl k => hashInt k
  | .inr x => hashStr w x
theorem keyIs_shape : ∀ {k : Key} {v : Value}, keyIs k v = true → (∃ i t, k = Sum.inl i ∧ v = Value.int i t) ∨ (∃ x t, k = Sum.inr x ∧ v = Value.str x t)
  | .inl i, v, h => by
    obtain ⟨t, e⟩ := Value.isInt_shape (k := i) (v := v) h
    exact .inl ⟨i, t, rfl, e⟩
  | .inr x, v, h => by
    obtain ⟨t, e⟩ := Value.isStrOf_shape (x := x) (v := v) h
    exact .inr ⟨x, t, rfl, e⟩
theorem keyIs_int (i : Int) (t : Tok) : keyIs (.inl i) (.int i t) = true := by simp [keyIs, Value.isInt]
theorem keyIs_str (x : Str) (t : Tok) : keyIs (.inr x) (.str x t) = true := by simp [keyIs, Value.isStrOf]
theorem key_ll (a b : Int) : decide ((Sum.inl a : Key) = Sum.inl b) = (a == b) := by
  by_cases e : a = b
  · subst e; simp
  · have h : ¬ (Sum.inl a : Key) = Sum.inl b := fun q => e (Sum.inl.inj q)
    rw [decide_eq_false h]
    exact (beq_eq_false_iff_ne.mpr e).symm
theorem key_rr (a b : Str) : decide ((Sum.inr a : Key) = Sum.inr b) = decide (a = b) := by
  by_cases e : a = b
  · subst e; simp
  · have h : ¬ (Sum.inr a : Key) = Sum.inr b := fun q => e (Sum.inr.inj q)
    rw [decide_eq_false h, decide_eq_false e]
theorem key_lr (a : Int) (b : Str) : decide ((Sum.inl a : Key) = Sum.inr b) = false := decide_eq_false (fun q => nomatch q)
theorem key_rl (a : Str) (b : Int) : decide ((Sum.inr a : Key) = Sum.inl b) = false := decide_eq_false (fun q => nomatch q)

def mixKind (prog : Program) (w : World) : PySem.KeyKind prog w Key where
  is := keyIs
  hash := keyH w
  inj := fun v a b ha hb => by
    rcases keyIs_shape ha with ⟨i, t, rfl, rfl⟩ | ⟨x, t, rfl, rfl⟩
    · rcases keyIs_shape hb with ⟨j, u, rfl, e⟩ | ⟨y, u, rfl, e⟩
      · injection e with e1 _; rw [e1]
      · exact nomatch e
    · rcases keyIs_shape hb with ⟨j, u, rfl, e⟩ | ⟨y, u, rfl, e⟩
      · exact nomatch e
      · injection e with e1 _; rw [e1]
  byValue := fun k v h => by
    rcases keyIs_shape h with ⟨i, t, rfl, rfl⟩ | ⟨x, t, rfl, rfl⟩ <;> rfl
  pyHash := fun hv h => by
    rcases keyIs_shape hv with ⟨i, t, rfl, rfl⟩ | ⟨x, t, rfl, rfl⟩
    · exact wpAny_pyHash_int h
    · exact wpAny_pyHash_str h
  eqBool := fun hu hv h => by
    rcases keyIs_shape hu with ⟨i, t, rfl, rfl⟩ | ⟨x, t, rfl, rfl⟩
    · rcases keyIs_shape hv with ⟨j, u, rfl, rfl⟩ | ⟨y, u, rfl, rfl⟩
      · rw [key_ll] at h; exact wpAny_eqBool_int h
      · rw [key_lr] at h; exact SeqAt.EqAt.int_str i t y u _ _ _ _ h
    · rcases keyIs_shape hv with ⟨j, u, rfl, rfl⟩ | ⟨y, u, rfl, rfl⟩
      · rw [key_rl] at h; exact SeqAt.EqAt.str_int x t j u _ _ _ _ h
      · rw [key_rr] at h; exact wpAny_eqBool_str h
  «strs» := fun k x t v h => by
    rcases keyIs_shape h with ⟨i, u, rfl, e⟩ | ⟨y, u, rfl, e⟩
    · exact nomatch e
    · injection e with e1 _
      subst e1
      cases v <;> rfl

theorem mixKind_int (prog : Program) (w : World) (i : Int) (t : Tok) : (mixKind prog w).is (.inl i) (.int i t) = true := keyIs_int i t
theorem mixKind_str (prog : Program) (w : World) (x : Str) (t : Tok) : (mixKind prog w).is (.inr x) (.str x t) = true := keyIs_str x t
end L2

namespace L2
open PySem PySem.Spec PyProof.Rows

/-- a value, without the heap -/
inductive V where
  | non | bl (b : Bool) | int (i : Int) | str (x : Str) | byt (b : Array UInt8) | flt (b : UInt64) | ref (a : Addr) | ty (n : String)
  deriving DecidableEq

def RelV : V → Value → Prop
  | .non, u => u = Value.none
  | .bl b, u => u = Value.bool b
  | .int i, u => ∃ t, u = Value.int i t
  | .str x, u => ∃ t, u = Value.str x t
  | .byt b, u => ∃ t, u = Value.bytes b t
  | .flt b, u => ∃ t, u = Value.float b t
  | .ref a, u => u = Value.ref a
  | .ty n, u => u = Value.type n

abbrev Vals : List V → List Value → Prop := Paired RelV
theorem Vals.length {xs : List V} {us : List Value} (r : Vals xs us) : xs.length = us.length := Paired.length r
theorem Vals.get : ∀ {xs : List V} {us : List Value} {i : Nat} {x : V}, Vals xs us → xs[i]? = some x → ∃ u, us[i]? = some u ∧ RelV x u
  | _, _, _, _, .nil, e => by simp at e
  | _, _, 0, _, .cons r _, e => by simp at e; subst e; exact ⟨_, rfl, r⟩
  | _, _, i + 1, x, .cons _ t, e => by
    obtain ⟨u, h1, h2⟩ := Vals.get (i := i) (x := x) t (by simpa using e)
    exact ⟨u, by simpa using h1, h2⟩
theorem Vals.set {x : V} {u : Value} (r : RelV x u) : ∀ {xs : List V} {us : List Value} (i : Nat), Vals xs us → Vals (xs.set i x) (us.set i u)
  | _, _, _, .nil => .nil
  | _, _, 0, .cons _ t => .cons r t
  | _, _, i + 1, .cons q t => .cons q (Vals.set r i t)
theorem Vals.append : ∀ {xs ys : List V} {us ws : List Value}, Vals xs us → Vals ys ws → Vals (xs ++ ys) (us ++ ws)
  | _, _, _, _, .nil, s => s
  | _, _, _, _, .cons r t, s => .cons r (Vals.append t s)
theorem Vals.take : ∀ {xs : List V} {us : List Value} (n : Nat), Vals xs us → Vals (xs.take n) (us.take n)
  | _, _, 0, _ => .nil
  | _, _, _ + 1, .nil => .nil
  | _, _, n + 1, .cons r t => .cons r (Vals.take n t)
theorem Vals.drop : ∀ {xs : List V} {us : List Value} (n : Nat), Vals xs us → Vals (xs.drop n) (us.drop n)
  | _, _, 0, r => r
  | _, _, _ + 1, .nil => .nil
  | _, _, n + 1, .cons _ t => Vals.drop n t
theorem Vals.none_of : ∀ {xs : List V} {us : List Value} {i : Nat}, Vals xs us → xs[i]? = none → us[i]? = none := fun {xs us i} r e => by
  have h1 := r.length
  have h2 : xs.length ≤ i := List.getElem?_eq_none_iff.mp e
  exact List.getElem?_eq_none_iff.mpr (by omega)

def RelO : Option V → Option Value → Prop
  | some v, some u => RelV v u
  | none, none => True
  | _, _ => False
def KV {κ : Type} : List (κ × V) → List (κ × Value) → Prop := Paired fun (p : κ × V) (q : κ × Value) => p.1 = q.1 ∧ RelV p.2 q.2

/-- a key of a dict (00_mix): an int or a text -/
def kV : Key → V
  | .inl i => .int i
  | .inr x => .str x

/-- what stands at a tracked address -/
inductive HO where
  /-- a list -/
  | lst (xs : List V)
  /-- a tuple (never changes) -/
  | tup (xs : List V)
  /-- a dict whose keys are ints and texts; one whose keys are tuples of ints and texts (the empty one is both) -/
  | dK (kvs : List (Key × V)) | dT (kvs : List (List Key × V))
  /-- one whose keys are a number and a tuple of numbers -/
  | dN (kvs : List (NKey × V))
  /-- a set of ints: its members, its size -/
  | set (S : Int → Bool) (n : Nat)
  /-- an instance of the class at C, its dict at dx, its attributes -/
  | ins (C dx : Addr) (fs : List (Str × V))
  /-- the dict of the instance at x -/
  | own (x : Addr)
  /-- the dict of an exception -/
  | xd (fs : List (Str × V))
  /-- a bound method, f of x -/
  | met (f x : Addr)
  /-- a range object lo, lo + 1, .. below hi -/
  | rng (lo hi : Int)
  /-- a thing that is known to the object (the script; a dict while a loop walks it): read, never written while it is so -/
  | frz (o : Obj) (u : HO)
  /-- a code object's table -/
  | tbl (ps : Array Value)
  /-- any other thing, by what is true of its one object (a def of one's own: SetO a S n := HO.ext fun h => ..) -/
  | ext (φ : Heap → Prop)

abbrev Hp := Addr → Option HO
def upd (H : Hp) (a : Addr) (o : HO) : Hp := fun b => if b = a then some o else H b
theorem upd_same {H : Hp} {a : Addr} {o : HO} : upd H a o a = some o := by unfold upd; rw [if_pos rfl]
theorem upd_ne {H : Hp} {a b : Addr} {o : HO} (h : b ≠ a) : upd H a o b = H b := by unfold upd; rw [if_neg h]
/-- two objects of different content stand apart -/
theorem ne_of {H : Hp} {a b : Addr} {o u : HO} (h : H a = some o) (h' : H b = some u) (d : o ≠ u) : a ≠ b := by
  intro e; subst e; rw [h] at h'; exact d (Option.some.inj h')
theorem ne_of_none {H : Hp} {a b : Addr} {o : HO} (h : H a = some o) (h' : H b = none) : a ≠ b := by
  intro e; subst e; rw [h] at h'; cases h'

/-- a number and a tuple of numbers, as a tuple -/
def NestAt (H : Hp) (k : NKey) (b : Addr) : Prop := ∃ c, H b = some (.tup [.int k.1, .ref c]) ∧ H c = some (.tup (k.2.map V.int))
theorem NestAt.mono {H H' : Hp} {k : NKey} {b : Addr} (x : NestAt H k b) (ht : ∀ b xs, H b = some (.tup xs) → H' b = some (.tup xs)) : NestAt H' k b := let ⟨c, e1, e2⟩ := x; ⟨c, ht _ _ e1, ht _ _ e2⟩
section
variable (P : Program) (w : World)
def ObjOk (H : Hp) (h : Heap) (a : Addr) : HO → Prop
  | .lst xs => xs.length ≤ sizeLine ∧ ∃ (its : List Value) (n : Nat), Vals xs its ∧ h.get? a = some { cls := .type "list", data := .seq its.toArray n }
  | .tup xs => xs.length ≤ sizeLine ∧ ∃ its : List Value, Vals xs its ∧ IsTup h a its.toArray
  | .dK kvs => kvs.length ≤ sizeLine ∧ (a == sysModules) = false ∧ ∃ vs, KV kvs vs ∧ h.DictOf (mixKind P w) a vs
  | .dT kvs => kvs.length ≤ sizeLine ∧ (a == sysModules) = false ∧ ∃ xs : List (List Key × Addr × Value),
      Paired (fun (p : List Key × V) (q : List Key × Addr × Value) => p.1 = q.1 ∧ H q.2.1 = some (.tup (p.1.map kV)) ∧ RelV p.2 q.2.2) kvs xs ∧
      ∃ o es ep, h.get? a = some o ∧ o.ExactDict ∧ o.data = .dict es ep ∧ es.toList = xs.map (entryOfKey (tupleKind (mixKind P w))) ∧ (xs.map (·.1)).Nodup
  | .dN kvs => kvs.length ≤ sizeLine ∧ (a == sysModules) = false ∧ ∃ xs : List (NKey × Addr × Value),
      Paired (fun (p : NKey × V) (q : NKey × Addr × Value) => p.1 = q.1 ∧ NestAt H p.1 q.2.1 ∧ RelV p.2 q.2.2) kvs xs ∧
      ∃ o es ep, h.get? a = some o ∧ o.ExactDict ∧ o.data = .dict es ep ∧ es.toList = xs.map (entryOfKey (nestKind P w)) ∧ (xs.map (·.1)).Nodup
  | .set S n => h.SetOf (intKind P w) a S n
  | .ins C dx fs => H dx = some (.own a) ∧ fs.length ≤ 1000 ∧ dx ≠ a ∧ h.get? a = some (PySem.W.instObj C dx) ∧
      ∃ mA, h.Ns1 dx mA ∧ (∀ f, RelO (fs.lookup f) (mA f)) ∧ PySem.Within mA (fs.map (·.1))
  | .own _ => ∃ o, h.get? a = some o
  | .xd fs => ∃ mA, h.Ns1 a mA ∧ ∀ f, RelO (fs.lookup f) (mA f)
  | .rng lo hi => ∃ t u v, h.get? a = some { cls := .type "range", data := .fields #[.int lo t, .int hi u, .int 1 v] }
  | .frz o u => h.get? a = some o ∧ ObjOk H h a u
  | .tbl ps => h.get? a = some { cls := .none, data := .fields ps }
  | .met f x => h.get? a = some (PySem.W.methodObj (.ref f) (.ref x))
  | .ext φ => φ h ∧ (∃ o, h.get? a = some o) ∧ ∀ h1 h2 : Heap, φ h1 → (∀ o, h1.get? a = some o → h2.get? a = some o) → φ h2
/-- the abstract heap is held -/
def HOk (H : Hp) (h : Heap) : Prop := ∀ a o, H a = some o → ObjOk P w H h a o
end

section
variable {P : Program} {w : World} {H H' : Hp} {h h' : Heap} {a : Addr} {o : HO}
theorem ObjOk.lt (x : ObjOk P w H h a o) : a < h.objs.size := by
  cases o with
  | lst xs => obtain ⟨_, _, _, _, e⟩ := x; exact Heap.lt_size e
  | tup xs => obtain ⟨_, _, _, p⟩ := x; exact p.lt
  | dK kvs => obtain ⟨_, _, _, _, o, _, _, e, _⟩ := x; exact Heap.lt_size e
  | dT kvs => obtain ⟨_, _, _, _, o, _, _, e, _⟩ := x; exact Heap.lt_size e
  | dN kvs => obtain ⟨_, _, _, _, o, _, _, e, _⟩ := x; exact Heap.lt_size e
  | set S n => obtain ⟨o, _, _, _, e, _⟩ := x; exact Heap.lt_size e
  | ins C dx fs => obtain ⟨_, _, _, e, _⟩ := x; exact Heap.lt_size e
  | own y => obtain ⟨_, e⟩ := x; exact Heap.lt_size e
  | xd fs => obtain ⟨_, ⟨_, _, _, e, _⟩, _⟩ := x; exact Heap.lt_size e
  | rng lo hi => obtain ⟨_, _, _, e⟩ := x; exact Heap.lt_size e
  | frz ob u => obtain ⟨e, _⟩ := x; exact Heap.lt_size e
  | tbl ps => exact Heap.lt_size (show h.get? a = some _ from x)
  | met f y => exact Heap.lt_size (show h.get? a = some _ from x)
  | ext φ => obtain ⟨_, ⟨_, e⟩, _⟩ := x; exact Heap.lt_size e
theorem Paired.mapP {α β : Type} {F G : α → β → Prop} : ∀ {l₁ : List α} {l₂ : List β}, Paired F l₁ l₂ → (∀ a b, F a b → G a b) → Paired G l₁ l₂
  | _, _, .nil, _ => .nil
  | _, _, .cons r t, f => .cons (f _ _ r) (Paired.mapP t f)
/-- what an object's description leans on: its own object, its own dict, the tuples -/
theorem ObjOk.stay (x : ObjOk P w H h a o) (k : ∀ b u, (b = a ∨ H b = some (.own a)) → h.get? b = some u → h'.get? b = some u)
    (ho : ∀ b, H b = some (.own a) → H' b = some (.own a)) (ht : ∀ b xs, H b = some (.tup xs) → H' b = some (.tup xs)) : ObjOk P w H' h' a o := by
  induction o with
  | lst xs => obtain ⟨z, its, n, r, e⟩ := x; exact ⟨z, its, n, r, k _ _ (.inl rfl) e⟩
  | tup xs => obtain ⟨z, its, r, ob, e, c⟩ := x; exact ⟨z, its, r, ob, k _ _ (.inl rfl) e, c⟩
  | dK kvs => obtain ⟨z, y, vs, r, ob, es, ep, e, c⟩ := x; exact ⟨z, y, vs, r, ob, es, ep, k _ _ (.inl rfl) e, c⟩
  | dT kvs =>
    obtain ⟨z, y, xs, r, ob, es, ep, e, c⟩ := x
    exact ⟨z, y, xs, Paired.mapP r fun p q z => ⟨z.1, ht _ _ z.2.1, z.2.2⟩, ob, es, ep, k _ _ (.inl rfl) e, c⟩
  | dN kvs =>
    obtain ⟨z, y, xs, r, ob, es, ep, e, c⟩ := x
    exact ⟨z, y, xs, Paired.mapP r fun p q z => ⟨z.1, z.2.1.mono ht, z.2.2⟩, ob, es, ep, k _ _ (.inl rfl) e, c⟩
  | set S n => obtain ⟨ob, es, ep, t, e, c⟩ := x; exact ⟨ob, es, ep, t, k _ _ (.inl rfl) e, c⟩
  | ins C dx fs =>
    obtain ⟨d, z, ne, e, mA, ⟨od, es, ep, e2, c⟩, r⟩ := x
    exact ⟨ho _ d, z, ne, k _ _ (.inl rfl) e, mA, ⟨od, es, ep, k _ _ (.inr d) e2, c⟩, r⟩
  | own y => obtain ⟨ob, e⟩ := x; exact ⟨ob, k _ _ (.inl rfl) e⟩
  | xd fs => obtain ⟨mA, ⟨od, es, ep, e, c⟩, r⟩ := x; exact ⟨mA, ⟨od, es, ep, k _ _ (.inl rfl) e, c⟩, r⟩
  | rng lo hi => obtain ⟨t, u, v, e⟩ := x; exact ⟨t, u, v, k _ _ (.inl rfl) e⟩
  | frz ob u ih => obtain ⟨e, q⟩ := x; exact ⟨k _ _ (.inl rfl) e, ih q⟩
  | tbl ps =>
    have e : h.get? a = some { cls := .none, data := .fields ps } := x
    show h'.get? a = some { cls := .none, data := .fields ps }
    exact k a _ (.inl rfl) e
  | met f y =>
    have e : h.get? a = some (PySem.W.methodObj (.ref f) (.ref y)) := x
    show h'.get? a = some (PySem.W.methodObj (.ref f) (.ref y))
    exact k a _ (.inl rfl) e
  | ext φ => obtain ⟨p, ⟨o, e⟩, st⟩ := x; exact ⟨st _ _ p fun o q => k _ _ (.inl rfl) q, ⟨o, k _ _ (.inl rfl) e⟩, st⟩
theorem HOk.lt (x : HOk P w H h) (e : H a = some o) : a < h.objs.size := (x a o e).lt
theorem HOk.fresh (x : HOk P w H h) (e : h.objs.size ≤ a) : H a = none := by
  cases q : H a with
  | none => rfl
  | some u => exact absurd (Nat.lt_of_lt_of_le (x.lt q) e) (Nat.lt_irrefl _)
/-- every object of the heap is kept -/
theorem HOk.kept (x : HOk P w H h) (k : ∀ b u, h.get? b = some u → h'.get? b = some u) : HOk P w H h' := fun a o e =>
  (x a o e).stay (fun b u _ q => k b u q) (fun _ q => q) fun _ _ q => q
/-- a new object is laid and tracked -/
theorem HOk.laid (x : HOk P w H h) (k : ∀ b u, h.get? b = some u → h'.get? b = some u) (hp : h.objs.size ≤ a) (new : ObjOk P w (upd H a o) h' a o) : HOk P w (upd H a o) h' := fun b u e => by
  have hn := x.fresh hp
  by_cases hb : b = a
  · subst hb; rw [upd_same] at e; cases e; exact new
  · rw [upd_ne hb] at e
    exact (x b u e).stay (fun c v _ q => k c v q) (fun c q => by rw [upd_ne (ne_of_none q hn)]; exact q) fun c xs q => by rw [upd_ne (ne_of_none q hn)]; exact q
end

/-- what may be read as u: it is u, or a known u -/
def Rd (H : Hp) (a : Addr) (u : HO) : Prop := H a = some u ∨ ∃ o, H a = some (.frz o u)
theorem Rd.of {H : Hp} {a : Addr} {u : HO} (h : H a = some u) : Rd H a u := .inl h
theorem Rd.ok {P : Program} {w : World} {H : Hp} {h : Heap} {a : Addr} {u : HO} (r : Rd H a u) (x : HOk P w H h) : ObjOk P w H h a u := by
  rcases r with r | ⟨o, r⟩
  · exact x a u r
  · obtain ⟨_, q⟩ := x a _ r
    exact q
/-- what may be written -/
def Mut : Option HO → Prop
  | some (.lst _) => True
  | some (.dK _) => True
  | some (.dT _) => True
  | some (.dN _) => True
  | some (.set _ _) => True
  | some (.ins _ _ _) => True
  | some (.ext _) => True
  | _ => False
section
variable {P : Program} {w : World} {H : Hp} {h h' : Heap} {x e : Addr} {o' : HO}
/-- the object at e is changed: x itself, or the dict of the instance x -/
theorem HOk.write (ok : HOk P w H h) (mu : Mut (H x)) (he : e = x ∨ H e = some (.own x)) (k : ∀ b u, b ≠ e → h.get? b = some u → h'.get? b = some u) (heo : ∃ u, h'.get? e = some u)
    (new : ObjOk P w (upd H x o') h' x o') : HOk P w (upd H x o') h' := fun b u q => by
  have nown : ∀ c y, H c = some (.own y) → c ≠ x := fun c y r z => by subst z; rw [r] at mu; exact mu
  have ntup : ∀ c xs, H c = some (.tup xs) → c ≠ x := fun c xs r z => by subst z; rw [r] at mu; exact mu
  by_cases hb : b = x
  · subst hb; rw [upd_same] at q; cases q; exact new
  · rw [upd_ne hb] at q
    by_cases hbe : b = e
    · have q' : H b = some (.own x) := by
        rcases he with z | z
        · exact absurd (hbe.trans z) hb
        · rw [hbe]; exact z
      rw [q] at q'; cases q'
      obtain ⟨v, hv⟩ := heo
      exact ⟨v, by rw [hbe]; exact hv⟩
    · refine (ok b u q).stay (fun c v hc r => k c v ?_ r) (fun c r => by rw [upd_ne (nown c b r)]; exact r) fun c xs r => by rw [upd_ne (ntup c xs r)]; exact r
      rcases hc with rfl | hc
      · exact hbe
      · rintro rfl
        rcases he with z | z
        · exact nown c b hc z
        · rw [hc] at z; cases z; exact hb rfl
end

structure Un (fs ex : List Addr) (H H' : Hp) (h h' : Heap) : Prop where
  keep : ∀ b o, h.get? b = some o → H b = none → b ∉ fs → b ∉ ex → h'.get? b = some o
  slot : ∀ b o, h.get? b = some o → H b = none → b ∈ fs → b ∉ ex → ∃ sl, h'.get? b = some { o with slots := sl }
  free : ∀ b o, h.get? b = some o → H b = none → b ∉ ex → H' b = none
  there : ∀ b o, h.get? b = some o → b ∉ ex → ∃ o', h'.get? b = some o'
  tups : ∀ b xs, H b = some (.tup xs) → H' b = some (.tup xs)
  frzs : ∀ b o u, H b = some (.frz o u) → H' b = some (.frz o u)
  tbls : ∀ b ps, H b = some (.tbl ps) → ∃ more, H' b = some (.tbl (ps ++ more))
section
variable {fs fs' ex ex' : List Addr} {H H1 H2 : Hp} {h h1 h2 h' : Heap} {a x e : Addr} {o : HO}
theorem Un.any (u : Un fs ex H H1 h h1) {b : Addr} {ob : Obj} (q : h.get? b = some ob) (n : H b = none) (hx : b ∉ ex) : ∃ sl, h1.get? b = some { ob with slots := sl } := by
  by_cases hb : b ∈ fs
  · exact u.slot b ob q n hb hx
  · exact ⟨ob.slots, u.keep b ob q n hb hx⟩
theorem Un.trans (a : Un fs ex H H1 h h1) (b : Un fs ex H1 H2 h1 h2) : Un fs ex H H2 h h2 where
  keep := fun c ob q n hc hx => b.keep c ob (a.keep c ob q n hc hx) (a.free c ob q n hx) hc hx
  slot := fun c ob q n hc hx => by
    obtain ⟨sl, e1⟩ := a.slot c ob q n hc hx
    obtain ⟨sl', e2⟩ := b.slot c _ e1 (a.free c ob q n hx) hc hx
    exact ⟨sl', e2⟩
  free := fun c ob q n hx => by
    obtain ⟨o', e1⟩ := a.there c ob q hx
    exact b.free c o' e1 (a.free c ob q n hx) hx
  there := fun c ob q hx => by
    obtain ⟨o', e1⟩ := a.there c ob q hx
    exact b.there c o' e1 hx
  tups := fun c xs q => b.tups c xs (a.tups c xs q)
  frzs := fun c ob xs q => b.frzs c ob xs (a.frzs c ob xs q)
  tbls := fun c ps q => by
    obtain ⟨m1, e1⟩ := a.tbls c ps q
    obtain ⟨m2, e2⟩ := b.tbls c _ e1
    exact ⟨m1 ++ m2, by rw [e2, Array.append_assoc]⟩
theorem Un.kept (k : ∀ b u, h.get? b = some u → h'.get? b = some u) : Un fs ex H H h h' :=
  ⟨fun b ob q _ _ _ => k b ob q, fun b ob q _ _ _ => ⟨ob.slots, k b ob q⟩, fun _ _ _ n _ => n, fun b ob q _ => ⟨ob, k b ob q⟩, fun _ _ q => q, fun _ _ _ q => q, fun _ ps q => ⟨#[], by rw [q]; simp⟩⟩
theorem Un.refl : Un fs ex H H h h := Un.kept fun _ _ q => q
theorem Un.laid (k : ∀ b u, h.get? b = some u → h'.get? b = some u) (hp : h.objs.size ≤ a) (hn : H a = none) : Un fs ex H (upd H a o) h h' where
  keep := fun b u q _ _ _ => k b u q
  slot := fun b u q _ _ _ => ⟨u.slots, k b u q⟩
  free := fun b u q n _ => by rw [upd_ne (Nat.ne_of_lt (Nat.lt_of_lt_of_le (Heap.lt_size q) hp))]; exact n
  there := fun b u q _ => ⟨u, k b u q⟩
  tups := fun b xs q => by rw [upd_ne (ne_of_none q hn)]; exact q
  frzs := fun b u xs q => by rw [upd_ne (ne_of_none q hn)]; exact q
  tbls := fun b ps q => ⟨#[], by rw [upd_ne (ne_of_none q hn), q]; simp⟩
theorem Un.write (mu : Mut (H x)) (he : e = x ∨ H e = some (.own x)) (k : ∀ b u, b ≠ e → h.get? b = some u → h'.get? b = some u) (heo : ∃ u, h'.get? e = some u) : Un fs ex H (upd H x o) h h' := by
  have hx : ∀ b, H b = none → b ≠ x := fun b n z => by subst z; rw [n] at mu; exact mu
  have hb : ∀ b, H b = none → b ≠ e := fun b n z => by
    subst z
    rcases he with r | r
    · exact hx b n r
    · rw [n] at r; cases r
  have hm : ∀ b u, H b = some u → ¬ Mut (some u) → b ≠ x := fun b u q nm z => by subst z; rw [q] at mu; exact nm mu
  refine ⟨fun b u q n _ _ => k b u (hb b n) q, fun b u q n _ _ => ⟨u.slots, k b u (hb b n) q⟩, fun b u q n _ => by rw [upd_ne (hx b n)]; exact n, fun b u q _ => ?_,
    fun b xs q => by rw [upd_ne (hm b _ q fun z => z)]; exact q, fun b u xs q => by rw [upd_ne (hm b _ q fun z => z)]; exact q, fun b ps q => ⟨#[], by rw [upd_ne (hm b _ q fun z => z), q]; simp⟩⟩
  by_cases hbe : b = e
  · subst hbe; exact heo
  · exact ⟨u, k b u hbe q⟩
theorem Un.mono (u : Un fs ex H H1 h h1) (hs : ∀ b ∈ fs, b ∈ fs') (hx : ∀ b ∈ ex, b ∈ ex') : Un fs' ex' H H1 h h1 :=
  ⟨fun b ob q n hb he => u.keep b ob q n (fun z => hb (hs b z)) fun z => he (hx b z), fun _ _ q n _ he => u.any q n fun z => he (hx _ z), fun b ob q n he => u.free b ob q n fun z => he (hx b z), fun b ob q he => u.there b ob q fun z => he (hx b z), u.tups, u.frzs, u.tbls⟩
end

def trk (h : Heap) (H : Hp) : List Addr := (List.range h.objs.size).filter fun a => (H a).isSome
def hidT (h : Heap) (H : Hp) : Heap := PySem.W.hideAll h (trk h H)
theorem hidT_size (h : Heap) (H : Hp) : (hidT h H).objs.size = h.objs.size := PySem.W.hideAll_size _ _
theorem hidT_get {h : Heap} {H : Hp} {b : Addr} {o : Obj} (e : h.get? b = some o) (n : H b = none) : (hidT h H).get? b = some o :=
  PySem.W.hideAll_get _ e fun hm => by
    have q : (H b).isSome = true := (List.mem_filter.mp hm).2
    rw [n] at q; simp at q
theorem of_hidT {h : Heap} {H : Hp} {b : Addr} {o : Obj} (e : (hidT h H).get? b = some o) : h.get? b = some o ∧ H b = none := by
  have e' : h.get? b = some o := PySem.W.of_hideAll (trk h H) e
  refine ⟨e', ?_⟩
  cases q : H b with
  | none => rfl
  | some x =>
    have hm : b ∈ trk h H := List.mem_filter.mpr ⟨List.mem_range.mpr (Heap.lt_size e'), by simp [q]⟩
    have z : (hidT h H).get? b = none := PySem.W.hideAll_none (trk h H) hm
    rw [z] at e; cases e

def allNews (g h : Heap) (L : Addr) : List (Addr × Obj) := (List.range h.objs.size).filterMap fun a => if a = L ∨ (g.get? a).isSome = true then none else (h.get? a).map fun o => (a, o)
def rest (g h : Heap) (L d : Addr) : List (Addr × Obj) := (allNews g h L).filter fun p => decide (p.1 ≠ d)
end L2

namespace L2
open PySem PySem.Spec PyProof.Rows

/-- the module's facts, over the base: the heap at the law's entry without what is tracked there -/
structure Mod (K : PySem.W.Frag) (mg : Str → Option Value) (base : Heap) : Prop where
  kin : K.In base
  glob : base.Ns mainGlobals mg
  blt : ∃ mb, base.Ns builtinsNs mb ∧ ∀ x : Str, x ≠ "__name__" → mb x = bootBuiltins x
  nolimit : base.NoLimit

/-- the context: a def's body (or a comprehension's block) running. base: fixed through the whole law; s₀, H₀: the entry; outer: the frames whose slots others may change (a def's callers); stack: all frames that run;
   ex: iterators that were made ahead of the entry and are walked here (a comprehension's); fn: the names whose cells were made at the entry (a def: all; a comprehension's block: its own); calm: not within an except suite; pn: pins that every state bears; xe: what is wanted of an exception that leaves the code -/
structure Cx where
  prog : Program
  w : World
  K : PySem.W.Frag
  mg : Str → Option Value
  base : Heap
  A : Around
  N : List Str
  s₀ : Shared
  H₀ : Hp
  env : Env
  outer : List Env
  stack : List Env
  ex : List Addr
  fn : Str → Bool
  calm : Bool
  pn : List (Addr × Obj)
  xe : Value → Shared → Prop
/-- the callers' frames -/
def frs (l : List Env) : List Addr := l.filterMap (·.frame)
abbrev Cx.fs (X : Cx) : List Addr := frs X.outer

def Vis (sc : Scope) (x : Str) : Prop := sc.names.lookup x = some .local ∨ sc.names.lookup x = some .cell ∨ sc.names.lookup x = some .free
def Loc (sc : Scope) (x : Str) : Prop := sc.names.lookup x = some .local ∨ sc.names.lookup x = some .cell
def Look (env : Env) (h : Heap) (m : Str → Option Value) (x : Str) (u : Value) : Prop :=
  (env.kindOf x = some .local ∧ m x = some u) ∨ ((env.kindOf x = some .cell ∨ env.kindOf x = some .free) ∧ ∃ c, env.cells.lookup x = some c ∧ h.IsCell c (some u))

structure Cx.Ok (X : Cx) : Prop where
  mod : Mod X.K X.mg X.base
  kind : X.env.scope.kind = .function
  glob : X.env.globals = mainGlobals
  blt : X.env.builtins = builtinsNs
  above : X.s₀.heap.objs.size ≤ X.env.locals
  inj : ∀ x y c, X.env.cells.lookup x = some c → X.env.cells.lookup y = some c → x = y
  has : ∀ x, (X.env.kindOf x = some .cell ∨ X.env.kindOf x = some .free) → ∃ c, X.env.cells.lookup x = some c
  cab : ∀ x c, X.fn x = true → X.env.cells.lookup x = some c → X.s₀.heap.objs.size ≤ c
  hd : X.calm = true → X.A.handled = none
  frames : X.A.frames = some X.stack
  stk : X.stack = X.outer ∨ (X.stack = X.env :: X.outer ∧ X.env.frame = some X.env.locals)
  exf : ∀ b ∈ X.ex, b ≠ X.env.locals ∧ ∀ x c, X.env.cells.lookup x = some c → c ≠ b
  bs : ∀ b o, X.base.get? b = some o → X.s₀.heap.get? b = some o ∧ X.H₀ b = none
  bsz : X.base.objs.size ≤ X.s₀.heap.objs.size
  noex : ∀ b o, X.base.get? b = some o → b ∉ X.ex
  exfs : ∀ b ∈ X.ex, b ∉ X.fs
  funs : X.s₀.heap.FunFrames X.base X.outer
  frf : ∀ b ∈ X.fs, X.H₀ b = none

structure Inv (X : Cx) (pins : List (Addr × Obj)) (σ : List (Option V)) (H : Hp) (s : Shared) : Prop where
  ok : X.Ok
  os : s.os = X.s₀.os
  bare : AllBare s.gens
  base : Un X.fs X.ex X.H₀ H X.s₀.heap s.heap
  loc : ∃ m, s.heap.Ns X.env.locals m ∧ ∀ (i : Nat) (x : Str) (v : V), X.N[i]? = some x → σ[i]? = some (some v) → Vis X.env.scope x → ∃ u, RelV v u ∧ Look X.env s.heap m x u
  cell : ∀ x c, X.env.cells.lookup x = some c → ∃ v, s.heap.IsCell c v
  free : H X.env.locals = none
  freeC : ∀ x c, X.env.cells.lookup x = some c → H c = none
  pin : ∀ p ∈ X.pn ++ pins, s.heap.get? p.1 = some p.2 ∧ H p.1 = none ∧ p.1 ≠ X.env.locals ∧ p.1 ∉ X.fs ∧ ∀ v, p.2.data ≠ .cell v
  hok : HOk X.prog X.w H s.heap
  len : σ.length = X.N.length

section
variable {X : Cx} {pins : List (Addr × Obj)} {σ : List (Option V)} {H H' : Hp} {s : Shared} {h' : Heap}

theorem Cx.Ok.nofr (ok : X.Ok) {b : Addr} {o : Obj} (e : X.base.get? b = some o) : b ∉ X.fs := fun hb => by
  have := (ok.funs.mem hb).1
  rw [e] at this; cases this
theorem Inv.bs (I : Inv X pins σ H s) : ∀ b o, X.base.get? b = some o → s.heap.get? b = some o ∧ H b = none := fun b o e =>
  ⟨I.base.keep b o (I.ok.bs b o e).1 (I.ok.bs b o e).2 (I.ok.nofr e) (I.ok.noex b o e), I.base.free b o (I.ok.bs b o e).1 (I.ok.bs b o e).2 (I.ok.noex b o e)⟩
theorem Inv.bk (I : Inv X pins σ H s) : ∀ b o, X.base.get? b = some o → s.heap.get? b = some o := fun b o e => (I.bs b o e).1
theorem Inv.mod (I : Inv X pins σ H s) : Mod X.K X.mg X.base := I.ok.mod
theorem Inv.kIn (I : Inv X pins σ H s) : X.K.In s.heap := I.ok.mod.kin.keeps I.bk
theorem Inv.nolimit (I : Inv X pins σ H s) : s.heap.NoLimit := I.ok.mod.nolimit.keeps I.bk
/-- the frame over the base: for OpenK's rules (K.In X.base is I.mod.kin) -/
theorem Inv.fr (I : Inv X pins σ H s) : ∃ m, Fr X.base X.env.locals s.heap m :=
  let ⟨m, hn, _⟩ := I.loc
  ⟨m, hn, I.bk, Nat.le_trans I.ok.bsz I.ok.above⟩
theorem Inv.lt (I : Inv X pins σ H s) : X.env.locals < s.heap.objs.size := let ⟨_, hn, _⟩ := I.loc; hn.lt
theorem Inv.sz (I : Inv X pins σ H s) : X.s₀.heap.objs.size ≤ s.heap.objs.size := Nat.le_trans I.ok.above (Nat.le_of_lt I.lt)
theorem Inv.nofs (I : Inv X pins σ H s) {a : Addr} (h : s.heap.objs.size ≤ a) : a ∉ X.fs := fun hb => by
  obtain ⟨_, o, ho, _⟩ := I.ok.funs.mem hb
  exact absurd (Nat.lt_of_lt_of_le (Heap.lt_size ho) (Nat.le_trans I.sz h)) (Nat.lt_irrefl _)
theorem Inv.cne (I : Inv X pins σ H s) : ∀ x c, X.env.cells.lookup x = some c → c ≠ X.env.locals := fun x c e z => by
  obtain ⟨v, o, ho, hd⟩ := I.cell x c e
  obtain ⟨m, ⟨o', es, ep, ho', hd', _⟩, _⟩ := I.loc
  rw [z, ho'] at ho; cases ho; rw [hd'] at hd; cases hd
theorem Inv.funs (I : Inv X pins σ H s) : s.heap.FunFrames X.base X.outer := by
  have all : ∀ (l : List Env), (∀ b ∈ frs l, b ∈ X.fs) → X.s₀.heap.FunFrames X.base l → s.heap.FunFrames X.base l := by
    intro l
    induction l with
    | nil => intro _ _; trivial
    | cons env r ih =>
      intro hs hl
      obtain ⟨hk, ⟨L, o, hf, hn, ho, hd⟩, hr⟩ := hl
      have hL : L ∈ X.fs := hs L (by unfold frs; rw [List.filterMap_cons, hf]; exact List.mem_cons_self)
      obtain ⟨sl, e⟩ := I.base.slot L o ho (I.ok.frf L hL) hL fun z => I.ok.exfs L z hL
      exact ⟨hk, ⟨L, _, hf, hn, e, hd⟩, ih (fun b hb => hs b (by unfold frs; rw [List.filterMap_cons, hf]; exact List.mem_cons_of_mem _ hb)) hr⟩
  exact all X.outer (fun _ hb => hb) I.ok.funs

/-- the frames that run, for a call -/
theorem Inv.stack (I : Inv X pins σ H s) : s.heap.FunFrames X.base X.stack := by
  rcases I.ok.stk with e | ⟨e, hf⟩
  · rw [e]; exact I.funs
  · rw [e]
    obtain ⟨m, hn, _⟩ := I.loc
    refine .cons (by rw [I.ok.kind]; decide) hf hn ?_ I.funs
    exact Heap.get?_none_of_le (Nat.le_trans I.ok.bsz I.ok.above)
theorem Inv.stkSub (I : Inv X pins σ H s) : ∀ b ∈ frs X.stack, b ∈ X.env.locals :: X.fs := fun b hb => by
  rcases I.ok.stk with e | ⟨e, hf⟩
  · rw [e] at hb; exact List.mem_cons_of_mem _ hb
  · rw [e] at hb
    unfold frs at hb
    rw [List.filterMap_cons, hf] at hb
    exact hb
theorem Inv.stkFree (I : Inv X pins σ H s) : ∀ b ∈ frs X.stack, H b = none := fun b hb => by
  rcases List.mem_cons.mp (I.stkSub b hb) with e | hb
  · rw [e]; exact I.free
  · obtain ⟨_, o, ho, _⟩ := I.ok.funs.mem hb
    exact I.base.free b o ho (I.ok.frf b hb) fun z => I.ok.exfs b z hb

/-- THE STEP: the untracked objects but the frame and the records at ch are kept (the callers' frames up to slots), the frame's map is kept, the new abstract heap is held -/
theorem Inv.step {g' : Array GenState} {t' : Nat} {d' : Drawn} {ch : List Addr} (I : Inv X pins σ H s)
    (hch : ∀ b ∈ ch, (b ∈ X.ex ∨ X.s₀.heap.objs.size ≤ b) ∧ b ≠ X.env.locals ∧ (∀ x c, X.env.cells.lookup x = some c → c ≠ b) ∧ ∀ p ∈ X.pn ++ pins, p.1 ≠ b)
    (keep : ∀ b o, b ≠ X.env.locals → b ∉ X.fs → b ∉ ch → s.heap.get? b = some o → H b = none → h'.get? b = some o)
    (slot : ∀ b o, b ≠ X.env.locals → b ∈ X.fs → b ∉ ch → s.heap.get? b = some o → H b = none → ∃ sl, h'.get? b = some { o with slots := sl }) (free : ∀ b o, b ∉ ch → s.heap.get? b = some o → H b = none → H' b = none)
    (there : ∀ b o, b ∉ ch → s.heap.get? b = some o → ∃ o', h'.get? b = some o')
    (tups : ∀ b xs, H b = some (.tup xs) → H' b = some (.tup xs)) (frzs : ∀ b o u, H b = some (.frz o u) → H' b = some (.frz o u)) (tbls : ∀ b ps, H b = some (.tbl ps) → ∃ more, H' b = some (.tbl (ps ++ more)))
    (ns : ∀ m, s.heap.Ns X.env.locals m → h'.Ns X.env.locals m) (hok : HOk X.prog X.w H' h') (hg : AllBare g') :
    Inv X pins σ H' { s with heap := h', gens := g', drawn := d', toks := t' } := by
  have neL : ∀ b o, X.s₀.heap.get? b = some o → b ≠ X.env.locals := fun b o e => Nat.ne_of_lt (Nat.lt_of_lt_of_le (Heap.lt_size e) I.ok.above)
  have neC : ∀ b o, X.s₀.heap.get? b = some o → b ∉ X.ex → b ∉ ch := fun b o e hx hb => by
    rcases (hch b hb).1 with z | z
    · exact hx z
    · exact absurd (Nat.lt_of_lt_of_le (Heap.lt_size e) z) (Nat.lt_irrefl _)
  have cellK : ∀ x c, X.env.cells.lookup x = some c → ∀ v, s.heap.IsCell c v → h'.IsCell c v := fun x c e v ⟨o, ho, hd⟩ => by
    have nch : c ∉ ch := fun z => (hch c z).2.2.1 x c e rfl
    by_cases hc : c ∈ X.fs
    · obtain ⟨sl, q⟩ := slot c o (I.cne x c e) hc nch ho (I.freeC x c e)
      exact ⟨_, q, hd⟩
    · exact ⟨o, keep c o (I.cne x c e) hc nch ho (I.freeC x c e), hd⟩
  refine ⟨I.ok, I.os, hg, ⟨fun b o e n hb hx => ?_, fun b o e n hb hx => ?_, fun b o e n hx => ?_, fun b o e hx => ?_, fun b xs e => tups b xs (I.base.tups b xs e), fun b o xs e => frzs b o xs (I.base.frzs b o xs e), fun b ps e => ?_⟩, ?_, fun x c e => ?_, ?_, fun x c e => ?_, fun p hp => ?_, hok, I.len⟩
  · exact keep b o (neL b o e) hb (neC b o e hx) (I.base.keep b o e n hb hx) (I.base.free b o e n hx)
  · obtain ⟨sl, e1⟩ := I.base.slot b o e n hb hx
    obtain ⟨sl', e2⟩ := slot b _ (neL b o e) hb (neC b o e hx) e1 (I.base.free b o e n hx)
    exact ⟨sl', e2⟩
  · obtain ⟨o', e1⟩ := I.base.there b o e hx
    exact free b o' (neC b o e hx) e1 (I.base.free b o e n hx)
  · obtain ⟨o', e1⟩ := I.base.there b o e hx
    exact there b o' (neC b o e hx) e1
  · obtain ⟨m1, e1⟩ := I.base.tbls b ps e
    obtain ⟨m2, e2⟩ := tbls b _ e1
    exact ⟨m1 ++ m2, by rw [e2, Array.append_assoc]⟩
  · obtain ⟨m, hn, hl⟩ := I.loc
    refine ⟨m, ns m hn, fun i x v e1 e2 e3 => ?_⟩
    obtain ⟨u, r, l⟩ := hl i x v e1 e2 e3
    refine ⟨u, r, ?_⟩
    rcases l with l | ⟨k, c, e, z⟩
    · exact .inl l
    · exact .inr ⟨k, c, e, cellK x c e _ z⟩
  · obtain ⟨v, z⟩ := I.cell x c e
    exact ⟨v, cellK x c e v z⟩
  · obtain ⟨m, ⟨o, _, _, ho, _⟩, _⟩ := I.loc
    exact free _ o (fun z => (hch _ z).2.1 rfl) ho I.free
  · obtain ⟨v, o, ho, hd⟩ := I.cell x c e
    exact free c o (fun z => (hch c z).2.2.1 x c e rfl) ho (I.freeC x c e)
  · obtain ⟨e, n, ne, nf, d⟩ := I.pin p hp
    have nch : p.1 ∉ ch := fun z => (hch p.1 z).2.2.2 p hp rfl
    exact ⟨keep p.1 p.2 ne nf nch e n, free p.1 p.2 nch e n, ne, nf, d⟩
/-- .. where the frame's own object is kept too -/
theorem Inv.un {t' : Nat} (I : Inv X pins σ H s) (u : Un X.fs [] H H' s.heap h') (hok : HOk X.prog X.w H' h') : Inv X pins σ H' { s with heap := h', toks := t' } := by
  obtain ⟨m, ⟨o, es, ep, ho, r⟩, _⟩ := id I.loc
  obtain ⟨sl, hL⟩ := u.any ho I.free (by simp)
  exact I.step (g' := s.gens) (d' := s.drawn) (ch := []) (fun _ z => nomatch z) (fun b o _ hb _ e n => u.keep b o e n hb (by simp)) (fun b o _ hb _ e n => u.slot b o e n hb (by simp)) (fun b o _ e n => u.free b o e n (by simp)) (fun b o _ e => u.there b o e (by simp)) u.tups u.frzs u.tbls (fun m' hm => by
    obtain ⟨o', es', ep', ho', r'⟩ := hm
    rw [ho] at ho'; cases ho'
    exact ⟨_, es', ep', hL, r'⟩) hok I.bare
/-- behind a call (or a comprehension's block): the slots of this frame may have changed too, the records at ch may have turned -/
theorem Inv.call {g' : Array GenState} {t' : Nat} {d' : Drawn} {ch : List Addr} (I : Inv X pins σ H s) (u : Un (frs X.stack) ch H H' s.heap h') (hok : HOk X.prog X.w H' h') (hg : AllBare g')
    (hch : ∀ b ∈ ch, (b ∈ X.ex ∨ X.s₀.heap.objs.size ≤ b) ∧ b ≠ X.env.locals ∧ (∀ x c, X.env.cells.lookup x = some c → c ≠ b) ∧ ∀ p ∈ X.pn ++ pins, p.1 ≠ b) :
    Inv X pins σ H' { s with heap := h', gens := g', drawn := d', toks := t' } := by
  obtain ⟨m, ⟨o, es, ep, ho, r⟩, _⟩ := id I.loc
  obtain ⟨sl, hL⟩ := u.any ho I.free fun z => (hch _ z).2.1 rfl
  exact I.step (ch := ch) hch (fun b o hL hb hc e n => u.keep b o e n (fun z => (List.mem_cons.mp (I.stkSub b z)).elim hL hb) hc) (fun b o _ _ hc e n => u.any e n hc) (fun b o hc e n => u.free b o e n hc) (fun b o hc e => u.there b o e hc) u.tups u.frzs u.tbls (fun m' hm => by
    obtain ⟨o', es', ep', ho', r'⟩ := hm
    rw [ho] at ho'; cases ho'
    exact ⟨_, es', ep', hL, r'⟩) hok hg
/-- an untracked record of ours (an iterator) has turned -/
theorem Inv.turned {t' : Nat} {it : Addr} (I : Inv X pins σ H s) (k : ∀ b o, b ≠ it → s.heap.get? b = some o → h'.get? b = some o) (hn : H it = none) (hL : it ≠ X.env.locals)
    (h1 : it ∈ X.ex ∨ X.s₀.heap.objs.size ≤ it) (h2 : ∀ x c, X.env.cells.lookup x = some c → c ≠ it) (h3 : ∀ p ∈ X.pn ++ pins, p.1 ≠ it) : Inv X pins σ H { s with heap := h', toks := t' } := by
  have nit : ∀ b u, H b = some u → b ≠ it := fun b u e z => by rw [z, hn] at e; cases e
  refine I.step (g' := s.gens) (d' := s.drawn) (ch := [it]) (fun b hb => ?_) (fun b o _ _ hc e _ => k b o (fun z => hc (by simp [z])) e) (fun b o _ _ hc e _ => ⟨o.slots, k b o (fun z => hc (by simp [z])) e⟩) (fun _ _ _ _ n => n)
    (fun b o hc e => ⟨o, k b o (fun z => hc (by simp [z])) e⟩) (fun _ _ e => e) (fun _ _ _ e => e) (fun b ps e => ⟨#[], by rw [e]; simp⟩) (fun m hm => ?_) (fun b u e => ?_) I.bare
  · have e : b = it := by simpa using hb
    subst e
    exact ⟨h1, hL, h2, h3⟩
  · obtain ⟨o, es, ep, ho, r⟩ := hm
    exact ⟨o, es, ep, k _ o (Ne.symm hL) ho, r⟩
  · refine (I.hok b u e).stay (fun c v hc q => k c v ?_ q) (fun _ q => q) fun _ _ q => q
    rcases hc with z | z
    · rw [z]; exact nit b u e
    · exact nit c _ z
theorem Inv.tok (I : Inv X pins σ H s) (t : Nat) : Inv X pins σ H { s with toks := t } := I.un (h' := s.heap) (t' := t) Un.refl I.hok
/-- all objects kept -/
theorem Inv.kept {t' : Nat} (I : Inv X pins σ H s) (k : ∀ b u, s.heap.get? b = some u → h'.get? b = some u) : Inv X pins σ H { s with heap := h', toks := t' } := I.un (Un.kept k) (I.hok.kept k)
/-- a new object laid and tracked -/
theorem Inv.laid {a : Addr} {o : HO} {t' : Nat} (I : Inv X pins σ H s) (k : ∀ b u, s.heap.get? b = some u → h'.get? b = some u) (hp : s.heap.objs.size ≤ a) (new : ObjOk X.prog X.w (upd H a o) h' a o) :
    Inv X pins σ (upd H a o) { s with heap := h', toks := t' } := I.un (Un.laid k hp (I.hok.fresh hp)) (I.hok.laid k hp new)
/-- an object written -/
theorem Inv.write {x e : Addr} {o : HO} {t' : Nat} (I : Inv X pins σ H s) (mu : Mut (H x)) (he : e = x ∨ H e = some (.own x)) (k : ∀ b u, b ≠ e → s.heap.get? b = some u → h'.get? b = some u) (heo : ∃ u, h'.get? e = some u)
    (new : ObjOk X.prog X.w (upd H x o) h' x o) : Inv X pins σ (upd H x o) { s with heap := h', toks := t' } := I.un (Un.write mu he k heo) (I.hok.write mu he k heo new)
theorem Inv.pins_of {pins' : List (Addr × Obj)} (I : Inv X pins σ H s) (h : ∀ p ∈ pins', s.heap.get? p.1 = some p.2 ∧ H p.1 = none ∧ p.1 ≠ X.env.locals ∧ p.1 ∉ X.fs ∧ ∀ v, p.2.data ≠ .cell v) : Inv X pins' σ H s :=
  ⟨I.ok, I.os, I.bare, I.base, I.loc, I.cell, I.free, I.freeC, fun p hp => (List.mem_append.mp hp).elim (fun z => I.pin p (List.mem_append_left _ z)) (h p), I.hok, I.len⟩

theorem nodup_ix {N : List Str} (hN : N.Nodup) {i j : Nat} {x : Str} (a : N[i]? = some x) (b : N[j]? = some x) : i = j := by
  obtain ⟨h1, e1⟩ := List.getElem?_eq_some_iff.mp a
  obtain ⟨h2, e2⟩ := List.getElem?_eq_some_iff.mp b
  exact (List.getElem_inj hN).mp (e1.trans e2.symm)

/-- a name is stored; what changed -/
theorem store_ok2 {M : Model} {A : Around} {E : Value → Shared → Prop} {i : Nat} {x : Str} {v : V} {u : Value} {Q : Unit → Shared → Prop} (I : Inv X pins σ H s) (hN : X.N.Nodup) (hi : X.N[i]? = some x) (hx : Loc X.env.scope x) (r : RelV v u)
    (h : ∀ s', Inv X pins (σ.set i (some v)) H s' → (∃ a, Heap.SameBut a s.heap s'.heap ∧ (a = X.env.locals ∨ X.env.cells.lookup x = some a)) → Q () s') (hf : X.fn x = true ∨ X.env.scope.names.lookup x = some .local := by first | exact .inl rfl | exact .inr rfl | assumption) : wpAny M A (storeName X.env x u) Q E s := by
  obtain ⟨m, hn, hl⟩ := id I.loc
  have hcls : (X.env.scope.kind == .class || (X.env.scope.kind == .module && X.env.locals != X.env.globals)) = false := by rw [I.ok.kind]; rfl
  have hiσ : i < σ.length := by rw [I.len]; exact (List.getElem?_eq_some_iff.mp hi).1
  have cne := I.cne
  have tracked : ∀ {a : Addr} {h' : Heap}, (∃ o, s.heap.get? a = some o ∧ H a = none) → Heap.SameBut a s.heap h' → HOk X.prog X.w H h' := fun {a h'} ha hs b ob e => by
    obtain ⟨_, _, hfree⟩ := ha
    refine (I.hok b ob e).stay (fun c w' hc q => (hs.2 c ?_).trans q) (fun _ q => q) fun _ _ q => q
    rintro rfl
    rcases hc with rfl | hc
    · rw [hfree] at e; cases e
    · rw [hfree] at hc; cases hc
  rcases hx with hk | hk
  · refine wpAny_storeName_local hk hn (fun h' hn' hs => ?_) hcls
    obtain ⟨oL, _, _, hoL, _⟩ := id hn
    refine h _ ⟨I.ok, I.os, I.bare, ⟨fun b o e n hb hx => ?_, fun b o e n hb hx => ?_, I.base.free, fun b o e hx => ?_, I.base.tups, I.base.frzs, I.base.tbls⟩, ⟨_, hn', fun j y v' e1 e2 e3 => ?_⟩, fun y c e => ?_, I.free, I.freeC, fun p hp => ?_, tracked ⟨oL, hoL, I.free⟩ hs, by simpa using I.len⟩ ⟨_, hs, .inl rfl⟩
    · exact (hs.2 b (Nat.ne_of_lt (Nat.lt_of_lt_of_le (Heap.lt_size e) I.ok.above))).trans (I.base.keep b o e n hb hx)
    · obtain ⟨sl, e1⟩ := I.base.slot b o e n hb hx
      exact ⟨sl, (hs.2 b (Nat.ne_of_lt (Nat.lt_of_lt_of_le (Heap.lt_size e) I.ok.above))).trans e1⟩
    · obtain ⟨o', e1⟩ := I.base.there b o e hx
      exact ⟨o', (hs.2 b (Nat.ne_of_lt (Nat.lt_of_lt_of_le (Heap.lt_size e) I.ok.above))).trans e1⟩
    · by_cases hj : j = i
      · subst hj
        rw [hi] at e1; cases e1
        rw [List.getElem?_set_self hiσ] at e2
        cases e2
        exact ⟨u, r, .inl ⟨hk, by simp⟩⟩
      · rw [List.getElem?_set_ne (Ne.symm hj)] at e2
        obtain ⟨u', r', q⟩ := hl j y v' e1 e2 e3
        refine ⟨u', r', ?_⟩
        rcases q with ⟨k, e⟩ | ⟨k, c, e, z⟩
        · refine .inl ⟨k, ?_⟩
          have : y ≠ x := fun e => hj (nodup_ix hN e1 (e ▸ hi))
          simp [this, e]
        · exact .inr ⟨k, c, e, z.sameBut hs (cne y c e)⟩
    · obtain ⟨w', z⟩ := I.cell y c e
      exact ⟨w', z.sameBut hs (cne y c e)⟩
    · obtain ⟨e, n, ne, nf, d⟩ := I.pin p hp
      exact ⟨(hs.2 p.1 ne).trans e, n, ne, nf, d⟩
  · have hfn : X.fn x = true := by
      rcases hf with z | z
      · exact z
      · rw [z] at hk; cases hk
    obtain ⟨c, hc⟩ := I.ok.has x (.inl hk)
    obtain ⟨w', z⟩ := I.cell x c hc
    refine wpAny_storeName_cell I.ok.kind hk hc z (fun h' hc' hs => ?_)
    obtain ⟨oc, hoc, hocd⟩ := id z
    refine h { s with heap := h' } ⟨I.ok, I.os, I.bare, ⟨fun b o e n hb hx => ?_, fun b o e n hb hx => ?_, I.base.free, fun b o e hx => ?_, I.base.tups, I.base.frzs, I.base.tbls⟩, ⟨m, hn.sameBut hs (Ne.symm (cne x c hc)), fun j y v' e1 e2 e3 => ?_⟩, fun y c' e => ?_, I.free, I.freeC, fun p hp => ?_, tracked ⟨oc, hoc, I.freeC x c hc⟩ hs, by simpa using I.len⟩ ⟨c, hs, .inr hc⟩
    · exact (hs.2 b (Nat.ne_of_lt (Nat.lt_of_lt_of_le (Heap.lt_size e) (I.ok.cab x c hfn hc)))).trans (I.base.keep b o e n hb hx)
    · obtain ⟨sl, e1⟩ := I.base.slot b o e n hb hx
      exact ⟨sl, (hs.2 b (Nat.ne_of_lt (Nat.lt_of_lt_of_le (Heap.lt_size e) (I.ok.cab x c hfn hc)))).trans e1⟩
    · obtain ⟨o', e1⟩ := I.base.there b o e hx
      exact ⟨o', (hs.2 b (Nat.ne_of_lt (Nat.lt_of_lt_of_le (Heap.lt_size e) (I.ok.cab x c hfn hc)))).trans e1⟩
    · by_cases hj : j = i
      · subst hj
        rw [hi] at e1; cases e1
        rw [List.getElem?_set_self hiσ] at e2
        cases e2
        exact ⟨u, r, .inr ⟨.inl hk, c, hc, hc'⟩⟩
      · rw [List.getElem?_set_ne (Ne.symm hj)] at e2
        obtain ⟨u', r', q⟩ := hl j y v' e1 e2 e3
        refine ⟨u', r', ?_⟩
        rcases q with q | ⟨k, c', e, z'⟩
        · exact .inl q
        · refine .inr ⟨k, c', e, z'.sameBut hs ?_⟩
          rintro rfl
          exact hj (nodup_ix hN e1 (I.ok.inj _ _ _ e hc ▸ hi))
    · by_cases hcc : c' = c
      · subst hcc; exact ⟨_, hc'⟩
      · obtain ⟨w2, z2⟩ := I.cell y c' e
        exact ⟨w2, z2.sameBut hs hcc⟩
    · obtain ⟨e, n, ne, nf, d⟩ := I.pin p hp
      refine ⟨(hs.2 p.1 ?_).trans e, n, ne, nf, d⟩
      intro q
      rw [q, hoc] at e
      have q' : oc = p.2 := Option.some.inj e
      exact d w' (by rw [← q']; exact hocd)
theorem store_ok {M : Model} {A : Around} {E : Value → Shared → Prop} {i : Nat} {x : Str} {v : V} {u : Value} {Q : Unit → Shared → Prop} (I : Inv X pins σ H s) (hN : X.N.Nodup) (hi : X.N[i]? = some x) (hx : Loc X.env.scope x) (r : RelV v u)
    (h : ∀ s', Inv X pins (σ.set i (some v)) H s' → Q () s') (hf : X.fn x = true ∨ X.env.scope.names.lookup x = some .local := by first | exact .inl rfl | exact .inr rfl | assumption) : wpAny M A (storeName X.env x u) Q E s :=
  store_ok2 I hN hi hx r (fun s' I' _ => h s' I') hf
end

/-- an exception: its class, its own dict's address (where it has one), the abstract heap behind it -/
abbrev XK := Value → Option Addr → Hp → Prop
abbrev St := List (Option V)
abbrev VK := V → Hp → Prop
/-- an expression's reading; a test's; an argument list's -/
abbrev TE := St → Hp → VK → Prop
abbrev TT := St → Hp → (Bool → Hp → Prop) → Prop
abbrev TA := St → Hp → (List V → Hp → Prop) → Prop
/-- what is wanted behind a statement -/
structure Ends where
  nx : St → Hp → Prop
  rt : VK
  bk : St → Hp → Prop := fun _ _ => False
  ct : St → Hp → Prop := fun _ _ => False
abbrev TS := Ends → St → Hp → Prop

def EP (X : Cx) (pins : List (Addr × Obj)) (σ : St) (Q : VK) (u : Value) (s' : Shared) : Prop := ∃ v H', Inv X pins σ H' s' ∧ RelV v u ∧ Q v H'
def TP (X : Cx) (pins : List (Addr × Obj)) (σ : St) (Q : Bool → Hp → Prop) (b : Bool) (s' : Shared) : Prop := ∃ H', Inv X pins σ H' s' ∧ Q b H'
def AP (X : Cx) (pins : List (Addr × Obj)) (σ : St) (Q : List V → Hp → Prop) (us : List Value) (s' : Shared) : Prop := ∃ vs H', Inv X pins σ H' s' ∧ Vals vs us ∧ Q vs H'
def SP (X : Cx) (pins : List (Addr × Obj)) (D : Ends) (f : Flow) (s' : Shared) : Prop :=
  match f with
  | .next => ∃ σ' H', Inv X pins σ' H' s' ∧ D.nx σ' H'
  | .brk => ∃ σ' H', Inv X pins σ' H' s' ∧ D.bk σ' H'
  | .cont => ∃ σ' H', Inv X pins σ' H' s' ∧ D.ct σ' H'
  | .ret u => ∃ v σ' H', Inv X pins σ' H' s' ∧ RelV v u ∧ D.rt v H'

def PE (X : Cx) (e : Expr) (t : TE) : Prop :=
  ∀ (pins : List (Addr × Obj)) (s : Shared) (σ : St) (H : Hp) (Q : VK), Inv X pins σ H s → t σ H Q → wpAny (model X.prog X.w) X.A (eval e X.env) (EP X pins σ Q) X.xe s
def PT (X : Cx) (e : Expr) (t : TT) : Prop :=
  ∀ (pins : List (Addr × Obj)) (s : Shared) (σ : St) (H : Hp) (Q : Bool → Hp → Prop), Inv X pins σ H s → t σ H Q → wpAny (model X.prog X.w) X.A (isTrue e X.env (eval e X.env)) (TP X pins σ Q) X.xe s
/-- a test whatever its 'whole' is (and, or) -/
def PW (X : Cx) (e : Expr) (t : TT) : Prop :=
  ∀ (whole : Sem Value) (pins : List (Addr × Obj)) (s : Shared) (σ : St) (H : Hp) (Q : Bool → Hp → Prop), Inv X pins σ H s → t σ H Q → wpAny (model X.prog X.w) X.A (isTrue e X.env whole) (TP X pins σ Q) X.xe s
theorem PW.pt {X : Cx} {e : Expr} {t : TT} (h : PW X e t) : PT X e t := h _
/-- an argument list (no star), from the left -/
def PA (X : Cx) (es : List Expr) (t : TA) : Prop :=
  ∀ (pos : Pos) (pins : List (Addr × Obj)) (s : Shared) (σ : St) (H : Hp) (Q : List V → Hp → Prop), Inv X pins σ H s → t σ H Q → wpAny (model X.prog X.w) X.A (spliced (backTo pos (starEach es X.env))) (AP X pins σ Q) X.xe s
def PS (X : Cx) (st : Stmt) (t : TS) : Prop :=
  ∀ (pins : List (Addr × Obj)) (s : Shared) (σ : St) (H : Hp) (D : Ends), Inv X pins σ H s → t D σ H → wpAny (model X.prog X.w) X.A (exec st X.env) (SP X pins D) X.xe s
def PSs (X : Cx) (st : List Stmt) (t : TS) : Prop :=
  ∀ (pins : List (Addr × Obj)) (s : Shared) (σ : St) (H : Hp) (D : Ends), Inv X pins σ H s → t D σ H → wpAny (model X.prog X.w) X.A (execs st X.env) (SP X pins D) X.xe s
/-- weaken the end -/
theorem thn {α : Type} {t : Sem α} {Q Q' : α → Shared → Prop} {M : Model} {A : Around} {E : Value → Shared → Prop} {s : Shared} (h : wpAny M A t Q E s) (hQ : ∀ a s, Q a s → Q' a s) : wpAny M A t Q' E s := wpAny_mono h hQ fun _ _ x => x
end L2

namespace L2
open PySem PySem.Spec PyProof.Rows
section
variable {X : Cx}

def tVar (i : Nat) : TE := fun σ H Q => ∃ v, σ[i]? = some (some v) ∧ Q v H
def tC (v : V) : TE := fun _ H Q => Q v H
theorem pe_var {i : Nat} {x : Str} {pos : Pos} (hN : X.N[i]? = some x) (hv : Vis X.env.scope x) (hd : (x == ("__debug__" : Str)) = false := by decide) (hcd : (x == ("__classdict__" : Str)) = false := by decide) : PE X (.Name x pos) (tVar i) := by
  intro pins s σ H Q I h
  obtain ⟨v, e, h⟩ := h
  obtain ⟨m, hn, hl⟩ := I.loc
  obtain ⟨u, r, l⟩ := hl i x v hN e hv
  have fin : EP X pins σ Q u s := ⟨v, H, I, r, h⟩
  rcases l with ⟨hk, hm⟩ | ⟨hk, c, hc, hcell⟩
  · exact wpAny_Name (wpAny_loadName_local I.ok.kind hk hn hm fin) hd
  · rcases hk with hk | hk
    · exact wpAny_Name (wpAny_loadName_cell I.ok.kind hk hc hcell fin) hd
    · exact wpAny_Name (wpAny_loadName_free I.ok.kind hk hc hcell fin hcd) hd
theorem pe_int {i j pos} : PE X (.Constant (.int i) j pos) (tC (.int i)) := fun _ _ _ H _ I h => wpAny_Constant_int ⟨.int i, H, I.tok _, ⟨_, rfl⟩, h⟩
theorem pe_bl {b j pos} : PE X (.Constant (.bool b) j pos) (tC (.bl b)) := fun _ _ _ H _ I h => Constant_bool ⟨.bl b, H, I, rfl, h⟩
theorem pe_non {j pos} : PE X (.Constant .none j pos) (tC .non) := fun _ _ _ H _ I h => Constant_none ⟨.non, H, I, rfl, h⟩
/-- a global name of the def -/
def Gl (X : Cx) (x : Str) : Prop := X.env.kindOf x = some .globalImplicit
theorem ld_glob {E : Value → Shared → Prop} {pins : List (Addr × Obj)} {s : Shared} {σ : St} {H : Hp} {x : Str} {u : Value} {pos : Pos} {Q : Value → Shared → Prop} (I : Inv X pins σ H s) (hg : Gl X x) (hm : X.mg x = some u) (h : Q u s)
    (hd : (x == ("__debug__" : Str)) = false := by decide) : wpAny (model X.prog X.w) X.A (eval (.Name x pos) X.env) Q E s :=
  Calls.Name_function_global I.ok.kind hg (Calls.loadGlobal_global (by rw [I.ok.glob]; exact I.mod.glob.keeps I.bk) hm h) hd
theorem ld_blt {E : Value → Shared → Prop} {pins : List (Addr × Obj)} {s : Shared} {σ : St} {H : Hp} {x : Str} {u : Value} {pos : Pos} {Q : Value → Shared → Prop} (I : Inv X pins σ H s) (hg : Gl X x) (hm : X.mg x = none) (hv : bootBuiltins x = some u) (h : Q u s)
    (hn : x ≠ "__name__" := by decide) (hd : (x == ("__debug__" : Str)) = false := by decide) : wpAny (model X.prog X.w) X.A (eval (.Name x pos) X.env) Q E s := by
  obtain ⟨mb, h1, h2⟩ := I.mod.blt
  exact Calls.Name_function_global I.ok.kind hg (Calls.loadGlobal_builtin (by rw [I.ok.glob]; exact I.mod.glob.keeps I.bk) hm (by rw [I.ok.blt]; exact h1.keeps I.bk) ((h2 x hn).trans hv) h) hd
/-- a module's constant, a class, a function, as a value -/
theorem pe_glob {x : Str} {v : V} {u : Value} {pos : Pos} (hg : Gl X x) (hm : X.mg x = some u) (r : RelV v u) (hd : (x == ("__debug__" : Str)) = false := by decide) : PE X (.Name x pos) (tC v) :=
  fun _ _ _ H _ I h => ld_glob I hg hm ⟨v, H, I, r, h⟩ hd
variable {a b : Expr} {ta tb : TE} {pos : Pos}
def PC (X : Cx) (op : CmpOp) (a b : Expr) (t : TE) : Prop :=
  ∀ (pins : List (Addr × Obj)) (s : Shared) (σ : St) (H : Hp) (Q : VK), Inv X pins σ H s → t σ H Q →
    wpAny (model X.prog X.w) X.A (eval a X.env) (fun v s₁ => wpAny (model X.prog X.w) X.A (eval b X.env) (fun u s₂ => wpAny (model X.prog X.w) X.A (compareOp op v u) (EP X pins σ Q) X.xe s₂) X.xe s₁) X.xe s
theorem nobehind (b : Expr) {op : CmpOp} (h : op ≠ .In) (h2 : op ≠ .NotIn) : behindInMarks op b = false := by
  have e1 : (op == CmpOp.In) = false := by cases op <;> first | rfl | exact absurd rfl h
  have e2 : (op == CmpOp.NotIn) = false := by cases op <;> first | rfl | exact absurd rfl h2
  cases b <;> simp [behindInMarks, e1, e2]
/-- is None -/
def tIsN (ta : TE) : TE := fun σ H Q => ta σ H fun x H1 => Q (.bl (decide (x = .non))) H1
theorem RelV.none_iff {x : V} {v : Value} (r : RelV x v) : (v == Value.none) = decide (x = .non) := by
  cases x with
  | non => cases r; rfl
  | bl _ => cases r; rfl
  | int _ => obtain ⟨t, rfl⟩ := r; rfl
  | str _ => obtain ⟨t, rfl⟩ := r; rfl
  | byt _ => obtain ⟨t, rfl⟩ := r; rfl
  | flt _ => obtain ⟨t, rfl⟩ := r; rfl
  | ref _ => cases r; rfl
  | ty _ => cases r; rfl
theorem pc_isN {j pos'} (ha : PE X a ta) : PC X .Is a (.Constant .none j pos') (tIsN ta) := by
  intro pins s σ H Q I h
  refine thn (ha pins s σ H _ I h) fun v s1 ⟨x, H1, I1, r1, q1⟩ => ?_
  exact Constant_none (is_none_gen ⟨.bl _, H1, I1, by rw [r1.none_iff]; rfl, q1⟩)
/-- a comparison as a value, as a test -/
def tB (t : TE) : TT := fun σ H Q => t σ H fun x H1 => ∃ c, x = .bl c ∧ Q c H1
theorem pt_cmp {op : CmpOp} {t : TE} (h : PC X op a b t) (h1 : behindInMarks op b = false := by first | exact nobehind _ (by decide) (by decide) | rfl) : PT X (.Compare a [op] [b] pos) (tB t) := by
  intro pins s σ H Q I hw
  refine wpAny_isTrue_Compare1 (thn (h pins s σ H _ I hw) fun v s1 h1 => thn h1 fun u s2 h2 => thn h2 fun c s3 ⟨x, H1, I1, r1, q1⟩ => ?_) h1
  obtain ⟨d, rfl, q⟩ := q1
  cases r1
  exact wpAny_truthy_bool ⟨H1, I1, q⟩
/-- an expression whose value is a bool, as a test -/
theorem pt_val {e : Expr} {t : TE} (h : PE X e t) (he : ∀ whole, isTrue e X.env whole = (do let v ← whole; standAt e.pos; holding [v] (truthy v)) := by intro _; rfl) : PT X e (tB t) := by
  intro pins s σ H Q I hw
  refine isTrue_plain (thn (h pins s σ H _ I hw) fun v s1 ⟨x, H1, I1, r1, q1⟩ => ?_) (he _)
  obtain ⟨d, rfl, q⟩ := q1
  cases r1
  exact wpAny_truthy_bool ⟨H1, I1, q⟩

variable {tA tB' : TT} {rest : List Expr}
def tAnd (t u : TT) : TT := fun σ H Q => t σ H fun c H1 => if c = true then u σ H1 Q else Q false H1
def tNot (t : TT) : TT := fun σ H Q => t σ H fun c H1 => Q (!c) H1
theorem pw_and1 (ha : PT X a tA) : PW X (.BoolOp .And [a] pos) tA := by
  intro wh pins s σ H Q I h
  refine isTrue_and (thn (ha pins s σ H Q I h) fun c s1 e => ?_)
  cases c with
  | true => exact isTrue_and_nil e
  | false => exact e
theorem pw_and (ha : PT X a tA) (hb : PW X (.BoolOp .And (b :: rest) pos) tB') : PW X (.BoolOp .And (a :: b :: rest) pos) (tAnd tA tB') := by
  intro wh pins s σ H Q I h
  refine isTrue_and (thn (ha pins s σ H _ I h) fun c s1 ⟨H1, I1, q1⟩ => ?_)
  cases c with
  | true => exact hb wh pins s1 σ H1 Q I1 q1
  | false => exact ⟨H1, I1, q1⟩
theorem pt_not (ha : PT X a tA) : PT X (.UnaryOp .Not a pos) (tNot tA) := by
  intro pins s σ H Q I h
  exact isTrue_not (ha pins s σ H (fun c H1 => Q (!c) H1) I h)
end
end L2

namespace L2
open PySem PySem.Spec PyProof.Rows

def SqL (K : PySem.W.Frag) (H : Hp) (a : Addr) (xs : List V) : Prop :=
  Rd H a (.lst xs) ∨
    ∃ (o : Obj) (its : Array Value) (n : Nat), K.lookup a = some o ∧ o.cls = .type "list" ∧ o.dict = none ∧ o.data = .seq its n ∧ its.size ≤ sizeLine ∧ Vals xs its.toList
def SqT (K : PySem.W.Frag) (H : Hp) (a : Addr) (xs : List V) : Prop :=
  Rd H a (.tup xs) ∨
    ∃ (o : Obj) (its : Array Value) (n : Nat), K.lookup a = some o ∧ o.cls = .type "tuple" ∧ o.data = .seq its n ∧ its.size ≤ sizeLine ∧ Vals xs its.toList
def absV : Value → Option V
  | .none => some .non
  | .bool b => some (.bl b)
  | .int i _ => some (.int i)
  | .str x _ => some (.str x)
  | .bytes b _ => some (.byt b)
  | .float b _ => some (.flt b)
  | .ref a => some (.ref a)
  | .type n => some (.ty n)
  | _ => none
theorem RelV.abs {x : V} {u : Value} (r : RelV x u) : absV u = some x := by
  cases x with
  | non => cases r; rfl
  | bl _ => cases r; rfl
  | int _ => obtain ⟨t, rfl⟩ := r; rfl
  | str _ => obtain ⟨t, rfl⟩ := r; rfl
  | byt _ => obtain ⟨t, rfl⟩ := r; rfl
  | flt _ => obtain ⟨t, rfl⟩ := r; rfl
  | ref _ => cases r; rfl
  | ty _ => cases r; rfl
theorem RelV.inj {x y : V} {u : Value} (r : RelV x u) (q : RelV y u) : x = y := Option.some.inj (r.abs.symm.trans q.abs)
theorem Vals.inj : ∀ {xs ys : List V} {us : List Value}, Vals xs us → Vals ys us → xs = ys
  | _, _, _, .nil, .nil => rfl
  | _, _, _, .cons r t, .cons r' t' => by rw [r.inj r', Vals.inj t t']
section
variable {X : Cx} {pins : List (Addr × Obj)} {σ : St} {H : Hp} {s : Shared} {a : Addr} {xs ys : List V}
theorem SqL.of {K : PySem.W.Frag} (h : H a = some (.lst xs)) : SqL K H a xs := .inl (.inl h)
theorem SqT.of {K : PySem.W.Frag} (h : H a = some (.tup xs)) : SqT K H a xs := .inl (.inl h)
theorem Inv.list (I : Inv X pins σ H s) (h : SqL X.K H a xs) : ∃ its : List Value, Vals xs its ∧ PlainL s.heap a its.toArray ∧ xs.length ≤ sizeLine := by
  rcases h with h | ⟨o, its, n, hk, hc, hd, hs, hz, r⟩
  · obtain ⟨z, its, n, r, e⟩ := h.ok I.hok
    exact ⟨its, r, ⟨_, n, e, rfl, rfl, rfl⟩, z⟩
  · refine ⟨its.toList, r, ⟨o, n, I.kIn a o hk, hc, hd, by simpa using hs⟩, ?_⟩
    have e := r.length
    simp only [Array.length_toList] at e
    omega
theorem Inv.tuple (I : Inv X pins σ H s) (h : SqT X.K H a xs) : ∃ its : List Value, Vals xs its ∧ IsTup s.heap a its.toArray ∧ xs.length ≤ sizeLine := by
  rcases h with h | ⟨o, its, n, hk, hc, hs, hz, r⟩
  · obtain ⟨z, its, r, p⟩ := h.ok I.hok
    exact ⟨its, r, p, z⟩
  · refine ⟨its.toList, r, ⟨o, I.kIn a o hk, hc, n, by simpa using hs⟩, ?_⟩
    have e := r.length
    simp only [Array.length_toList] at e
    omega
theorem Inv.list_inj (I : Inv X pins σ H s) (h : SqL X.K H a xs) (h' : SqL X.K H a ys) : xs = ys := by
  obtain ⟨its, r, ⟨o, n, e, _, _, d⟩, _⟩ := I.list h
  obtain ⟨its', r', ⟨o', n', e', _, _, d'⟩, _⟩ := I.list h'
  rw [e] at e'; cases e'
  rw [d] at d'
  injection d' with d1 _
  have : its = its' := by simpa using congrArg Array.toList d1
  subst this
  exact r.inj r'
end

abbrev Cx.wish (X : Cx) (E : Value → Shared → Prop) : Cx := { X with xe := E }
/-- no exception leaves -/
abbrev Cx.nox (X : Cx) : Cx := X.wish fun _ _ => False
theorem Cx.Ok.wish {X : Cx} (ok : X.Ok) (E : Value → Shared → Prop) : (X.wish E).Ok :=
  ⟨ok.mod, ok.kind, ok.glob, ok.blt, ok.above, ok.inj, ok.has, ok.cab, ok.hd, ok.frames, ok.stk, ok.exf, ok.bs, ok.bsz, ok.noex, ok.exfs, ok.funs, ok.frf⟩
theorem Cx.Ok.unwish {X : Cx} {E : Value → Shared → Prop} (ok : (X.wish E).Ok) : X.Ok :=
  ⟨ok.mod, ok.kind, ok.glob, ok.blt, ok.above, ok.inj, ok.has, ok.cab, ok.hd, ok.frames, ok.stk, ok.exf, ok.bs, ok.bsz, ok.noex, ok.exfs, ok.funs, ok.frf⟩
section
variable {X : Cx} {pins : List (Addr × Obj)} {σ : St} {H : Hp} {s : Shared} {E : Value → Shared → Prop}
theorem Inv.wish (I : Inv X pins σ H s) (E : Value → Shared → Prop) : Inv (X.wish E) pins σ H s := ⟨I.ok.wish E, I.os, I.bare, I.base, I.loc, I.cell, I.free, I.freeC, I.pin, I.hok, I.len⟩
theorem Inv.unwish (I : Inv (X.wish E) pins σ H s) : Inv X pins σ H s := ⟨I.ok.unwish, I.os, I.bare, I.base, I.loc, I.cell, I.free, I.freeC, I.pin, I.hok, I.len⟩
theorem SP.unwish {D : Ends} {f : Flow} {s' : Shared} (h : SP (X.wish E) pins D f s') : SP X pins D f s' := by
  cases f with
  | next => obtain ⟨σ', H', I, q⟩ := h; exact ⟨σ', H', I.unwish, q⟩
  | brk => obtain ⟨σ', H', I, q⟩ := h; exact ⟨σ', H', I.unwish, q⟩
  | cont => obtain ⟨σ', H', I, q⟩ := h; exact ⟨σ', H', I.unwish, q⟩
  | ret u => obtain ⟨v, σ', H', I, r, q⟩ := h; exact ⟨v, σ', H', I.unwish, r, q⟩
theorem PE.nox {e : Expr} {t : TE} (h : PE X.nox e t) : PE X e t := fun pins s σ H Q I hw =>
  wpAny_mono (h pins s σ H Q (I.wish _) hw) (fun _ _ ⟨v, H', I', r, q⟩ => ⟨v, H', I'.unwish, r, q⟩) fun _ _ z => False.elim z
theorem PT.nox {e : Expr} {t : TT} (h : PT X.nox e t) : PT X e t := fun pins s σ H Q I hw =>
  wpAny_mono (h pins s σ H Q (I.wish _) hw) (fun _ _ ⟨H', I', q⟩ => ⟨H', I'.unwish, q⟩) fun _ _ z => False.elim z
theorem PSs.nox {st : List Stmt} {t : TS} (h : PSs X.nox st t) : PSs X st t := fun pins s σ H D I hw =>
  wpAny_mono (h pins s σ H D (I.wish _) hw) (fun _ _ q => q.unwish) fun _ _ z => False.elim z
end

section
variable {X : Cx} {st : Stmt} {rest : List Stmt} {t u : TS} {e : Expr} {te : TE} {pos : Pos}
def tNext : TS := fun D σ H => D.nx σ H
def tSeq (t u : TS) : TS := fun D σ H => t { D with nx := u D } σ H
theorem pss_nil : PSs X [] tNext := fun _ _ σ H _ I h => wpAny_execs_nil ⟨σ, H, I, h⟩
theorem pss_cons (h1 : PS X st t) (h2 : PSs X rest u) : PSs X (st :: rest) (tSeq t u) := by
  intro pins s σ H D I h
  refine wpAny_execs_cons (thn (h1 pins s σ H { D with nx := u D } I h) fun f s1 q => ?_)
  cases f with
  | next =>
    obtain ⟨σ', H', I', q⟩ := q
    exact h2 pins s1 σ' H' D I' q
  | ret v => exact q
  | brk => exact q
  | cont => exact q
theorem pss_one (h1 : PS X st t) : PSs X [st] t := by
  intro pins s σ H D I h
  refine wpAny_execs_cons (thn (h1 pins s σ H D I h) fun f s1 q => ?_)
  cases f with
  | next => exact wpAny_execs_nil q
  | ret v => exact q
  | brk => exact q
  | cont => exact q
/-- in a def's body nothing is shown -/
theorem Inv.quiet {pins : List (Addr × Obj)} {σ : St} {H : Hp} {s : Shared} (I : Inv X pins σ H s) : interactive X.env = false := by simp [interactive, I.ok.kind]
/-- an expression whose value is dropped -/
def tDrop (te : TE) : TS := fun D σ H => te σ H fun _ H1 => D.nx σ H1
theorem ps_expr (he : PE X e te) (hs : swapsWith e none pos.line X.env = pure false := by rfl) : PS X (.Expr e pos) (tDrop te) := by
  intro pins s σ H D I h
  exact wpAny_Expr_any (thn (he pins s σ H _ I h) fun v s1 ⟨x, H1, I1, r1, q1⟩ => ⟨σ, H1, I1, q1⟩) I.quiet hs
def tRet (te : TE) : TS := fun D σ H => te σ H D.rt
theorem ps_ret (he : PE X e te) : PS X (.Return (some e) pos) (tRet te) := by
  intro pins s σ H D I h
  exact wpAny_Return_some (thn (he pins s σ H _ I h) fun v s1 ⟨x, H1, I1, r1, q1⟩ => ⟨x, σ, H1, I1, r1, q1⟩)
def tIfS (c : TT) (t u : TS) : TS := fun D σ H => c σ H fun b H1 => if b = true then t D σ H1 else u D σ H1
theorem ps_if {c : Expr} {a b : List Stmt} {tc : TT} (hc : PT X c tc) (ha : PSs X a t) (hb : PSs X b u) : PS X (.If c a b pos) (tIfS tc t u) := by
  intro pins s σ H D I h
  refine wpAny_If (thn (hc pins s σ H _ I h) fun d s1 ⟨H1, I1, q1⟩ => ?_)
  cases d with
  | true => exact ha pins s1 σ H1 D I1 q1
  | false => exact hb pins s1 σ H1 D I1 q1
end

abbrev TG := V → St → Hp → (St → Hp → Prop) → Prop
def PG (X : Cx) (target : Expr) (t : TG) : Prop :=
  ∀ (pins : List (Addr × Obj)) (s : Shared) (σ : St) (H : Hp) (v : V) (u : Value) (Q : St → Hp → Prop), Inv X pins σ H s → RelV v u → t v σ H Q →
    wpAny (model X.prog X.w) X.A (assign target X.env u) (fun _ s' => ∃ σ' H', Inv X pins σ' H' s' ∧ Q σ' H') X.xe s
section
variable {X : Cx} {pos : Pos}
def gName (i : Nat) : TG := fun v σ H Q => Q (σ.set i (some v)) H
theorem pg_name {i : Nat} {x : Str} (hN : X.N.Nodup) (hi : X.N[i]? = some x) (hx : Loc X.env.scope x) (hf : X.fn x = true ∨ X.env.scope.names.lookup x = some .local := by first | exact .inl rfl | exact .inr rfl | assumption) : PG X (.Name x pos) (gName i) := by
  intro pins s σ H v u Q I r h
  exact wpAny_assign_Name (store_ok I hN hi hx r (fun s' I' => ⟨_, H, I', h⟩) hf)
/-- target = value -/
def tAsg (te : TE) (g : TG) : TS := fun D σ H => te σ H fun x H1 => g x σ H1 D.nx
/-- name = value -/
theorem ps_set {i : Nat} {x : Str} {e : Expr} {te : TE} {pos' : Pos} (hN : X.N.Nodup) (hi : X.N[i]? = some x) (hx : Loc X.env.scope x) (he : PE X e te) (hs : swapsWith e (some (.Name x pos')) pos.line X.env = pure false := by rfl) (hf : X.fn x = true ∨ X.env.scope.names.lookup x = some .local := by first | exact .inl rfl | exact .inr rfl | assumption) :
    PS X (.Assign [.Name x pos'] e pos) (tAsg te (gName i)) := by
  intro pins s σ H D I h
  refine wpAny_Assign_Name (thn (he pins s σ H _ I h) fun v s1 ⟨y, H1, I1, r1, q1⟩ => ?_) hs
  exact store_ok I1 hN hi hx r1 (fun s2 I2 => ⟨_, H1, I2, q1⟩) hf
end

section
variable {X : Cx} {pos : Pos}
/-- the invariant W with its measure -/
def tWhile (c : TT) (tb : TS) : TS := fun D σ H => ∃ W : Nat → St → Hp → Prop, (∃ m, W m σ H) ∧ ∀ m σ H, W m σ H →
  c σ H fun b H1 => if b = true then ∃ N : St → Hp → Prop, (∀ σ' H', N σ' H' → ∃ m', m' < m ∧ W m' σ' H') ∧ tb { D with nx := N, ct := N, bk := D.nx } σ H1 else D.nx σ H1
theorem ps_while {c : Expr} {body : List Stmt} {tc : TT} {tb : TS} (hp : PassesOwn (model X.prog X.w) X.A X.env X.xe) (hc : PT X c tc) (hb : PSs X body tb) : PS X (.While c body [] pos) (tWhile tc tb) := by
  intro pins s σ H D I h
  obtain ⟨W, ⟨m0, w0⟩, turn⟩ := h
  refine wpAny_While (codeAny_whileLoop (fun n s' => ∃ σ' H', Inv X pins σ' H' s' ∧ W n σ' H') ?_ m0 ⟨σ, H, I, w0⟩)
  rintro n s1 ⟨σ1, H1, I1, w1⟩
  refine wpAny_passesOwn hp (thn (hc pins s1 σ1 H1 _ I1 (turn n σ1 H1 w1)) fun b s2 ⟨H2, I2, q2⟩ => ?_)
  cases b with
  | true =>
    obtain ⟨N, hN, q2⟩ := q2
    rw [if_pos rfl]
    refine wpAny_passesOwn hp (thn (hb pins s2 σ1 H2 _ I2 q2) fun f s3 q3 => ?_)
    cases f with
    | next =>
      obtain ⟨σ3, H3, I3, n3⟩ := q3
      obtain ⟨m', hm, w3⟩ := hN σ3 H3 n3
      exact ⟨m', hm, σ3, H3, I3, w3⟩
    | cont =>
      obtain ⟨σ3, H3, I3, n3⟩ := q3
      obtain ⟨m', hm, w3⟩ := hN σ3 H3 n3
      exact ⟨m', hm, σ3, H3, I3, w3⟩
    | brk => exact q3
    | ret v => exact q3
  | false =>
    rw [if_neg Bool.false_ne_true]
    exact wpAny_execs_nil ⟨σ1, H2, I2, q2⟩
end

/-- at turn i: it yields x (the heap may grow), or it stops -/
structure It where
  go : Nat → Hp → Prop
  yld : Nat → Hp → V → Hp → Prop
  stop : Nat → Hp → Prop
/-- the iterator's own objects may turn: they are not the frame's, not pinned, younger than the entry (or a comprehension's own) -/
def FpOk (X : Cx) (pins : List (Addr × Obj)) (H : Hp) (b : Addr) : Prop :=
  H b = none ∧ b ≠ X.env.locals ∧ b ∉ X.fs ∧ (b ∈ X.ex ∨ X.s₀.heap.objs.size ≤ b) ∧ (∀ x c, X.env.cells.lookup x = some c → c ≠ b) ∧ ∀ p ∈ X.pn ++ pins, p.1 ≠ b
theorem Inv.fpOk {X : Cx} {pins : List (Addr × Obj)} {σ : St} {H H' : Hp} {s : Shared} {b : Addr} (I : Inv X pins σ H s) (hb : s.heap.objs.size ≤ b) (hn : H' b = none) : FpOk X pins H' b := by
  refine ⟨hn, Nat.ne_of_gt (Nat.lt_of_lt_of_le I.lt hb), I.nofs hb, .inr (Nat.le_trans I.sz hb), fun x c e z => ?_, fun p hp z => ?_⟩
  · obtain ⟨v, q⟩ := I.cell x c e
    exact absurd (Nat.lt_of_lt_of_le q.lt (by rw [z]; exact hb)) (Nat.lt_irrefl _)
  · exact absurd (Nat.lt_of_lt_of_le (Heap.lt_size (I.pin p hp).1) (by rw [z]; exact hb)) (Nat.lt_irrefl _)
structure Turn (P : Program) (w : World) (K : PySem.W.Frag) (tg : Expr) (J : It) (fp : List Addr) (it : Addr) (tn : Nat → Heap → Prop) : Prop where
  mem : it ∈ fp
  obj : ∀ i h, tn i h → ∀ b ∈ fp, ∃ o, h.get? b = some o ∧ ∀ v, o.data ≠ .cell v
  keep : ∀ i h h', tn i h → (∀ b ∈ fp, ∀ o, h.get? b = some o → h'.get? b = some o) → tn i h'
  item : ∀ (X : Cx), X.prog = P → X.w = w → X.K = K → X.calm = true → ∀ (i : Nat) (pins : List (Addr × Obj)) (s : Shared) (σ : St) (H : Hp) (E : Value → Shared → Prop), Inv X pins σ H s → (∀ b ∈ fp, FpOk X pins H b) → tn i s.heap → J.go i H →
    wpAny (model P w) X.A (pyNext (.ref it)) (fun r s1 => ∃ u, r = some u ∧
      wpAny (model P w) X.A (letOwnedTupleGo tg (.ref it) u) (fun _ s2 => ∃ x H', Inv X pins σ H' s2 ∧ RelV x u ∧ J.yld i H x H' ∧ tn (i + 1) s2.heap ∧ ∀ b ∈ fp, H' b = none) E s1) E s
  done : ∀ (X : Cx), X.prog = P → X.w = w → X.K = K → X.calm = true → ∀ (i : Nat) (pins : List (Addr × Obj)) (s : Shared) (σ : St) (H : Hp) (E : Value → Shared → Prop), Inv X pins σ H s → (∀ b ∈ fp, FpOk X pins H b) → tn i s.heap → J.stop i H →
    wpAny (model P w) X.A (pyNext (.ref it)) (fun r s1 => r = none ∧ Inv X pins σ H s1) E s
  self : ∀ (A : Around) (i : Nat) (s : Shared) (Q : Value → Shared → Prop) (E : Value → Shared → Prop), tn i s.heap → Q (.ref it) s → wpAny (model P w) A (pyIter (.ref it)) Q E s
abbrev TI := St → Hp → (It → Hp → Prop) → Prop
/-- an iterator has come -/
def PIE (X : Cx) (pins : List (Addr × Obj)) (σ : St) (tg : Expr) (R : It → Hp → Prop) (itv : Value) (s2 : Shared) : Prop :=
  ∃ (it : Addr) (fp : List Addr) (tn : Nat → Heap → Prop) (J : It) (H' : Hp), itv = .ref it ∧ Inv X pins σ H' s2 ∧ Turn X.prog X.w X.K tg J fp it tn ∧ tn 0 s2.heap ∧ (∀ b ∈ fp, FpOk X pins H' b) ∧ R J H'
def PI (X : Cx) (tg iter : Expr) (wi : TI) : Prop :=
  ∀ (pins : List (Addr × Obj)) (s : Shared) (σ : St) (H : Hp) (R : It → Hp → Prop), Inv X pins σ H s → wi σ H R →
    wpAny (model X.prog X.w) X.A (eval iter X.env) (fun v s1 => wpAny (model X.prog X.w) X.A (pyIter v) (PIE X pins σ tg R) X.xe s1) X.xe s

/-- the step ahead of the store is nothing for an iterator that keeps no tuple -/
theorem go_of {M : Model} {A : Around} {E : Value → Shared → Prop} {s : Shared} {tg : Expr} {it : Addr} {u : Value} {o : Obj} {n : String} {vs : Array Value} {Q : Unit → Shared → Prop} (ho : s.heap.get? it = some o) (hc : o.cls = .type n) (hd : o.data = .fields vs)
    (hn : ["enumerate", "zip", "dict_itemiterator", "dict_reverseitemiterator", "odict_iterator", "itertools.zip_longest", "itertools.pairwise"].contains n = false) (hQ : Q () s) : wpAny M A (letOwnedTupleGo tg (.ref it) u) Q E s := by
  unfold letOwnedTupleGo
  cases tg <;> first
    | exact wpAny_pure hQ
    | (cases u <;> first
        | exact wpAny_pure hQ
        | (refine wpAny_bind (wpAny_load ho ?_)
           rw [hc, hd]
           show wpAny M A (if (["enumerate", "zip", "dict_itemiterator", "dict_reverseitemiterator", "odict_iterator", "itertools.zip_longest", "itertools.pairwise"].contains n && vs[0]? == some (rawInt _)) = true then _ else _) Q E s
           rw [if_neg (by intro h; rw [hn, Bool.false_and] at h; cases h)]
           exact wpAny_pure hQ))

/-- the list at a, as it stands at each turn (a loop may append to it) -/
def Itl (K : PySem.W.Frag) (a : Addr) : It :=
  ⟨fun i H => ∃ xs x, SqL K H a xs ∧ xs[i]? = some x, fun i H x H' => H' = H ∧ ∀ xs, SqL K H a xs → xs[i]? = some x, fun i H => ∃ xs, SqL K H a xs ∧ xs.length ≤ i⟩
/-- lo, lo + 1, .. (n of them) -/
def Itr (lo : Int) (n : Nat) : It := ⟨fun i _ => i < n, fun i H x H' => H' = H ∧ x = .int (lo + i), fun i _ => n ≤ i⟩
theorem turn_list {P : Program} {w : World} {K : PySem.W.Frag} {tg : Expr} (a it : Addr) : Turn P w K tg (Itl K a) [it] it (fun i h => h.IsListIter it a i) where
  mem := by simp
  obj := fun i h st b hb => by
    have e : b = it := by simpa using hb
    subst e
    obtain ⟨o, e, c, d⟩ := st
    exact ⟨o, e, fun v z => by rw [d] at z; cases z⟩
  keep := fun i h h' st k => st.at fun o e => k it (by simp) o e
  item := by
    intro X hP hw hK hc i pins s σ H E I hf st hg
    subst hP hw hK
    obtain ⟨xs, x, hq, hx⟩ := hg
    obtain ⟨its, rv, p, hz⟩ := I.list hq
    obtain ⟨u, hu, ru⟩ := rv.get hx
    obtain ⟨f0, f1, f2, f3, f4, f5⟩ := hf it (by simp)
    refine wpAny_pyNext_list_item st p.isList (x := u) (by simpa using hu) fun h' st' sb => ?_
    have I1 : Inv X pins σ H { s with heap := h' } := I.turned (t' := s.toks) (fun b o hb e => (sb.2 b hb).trans e) f0 f1 f3 f4 f5
    obtain ⟨o, e, c, d⟩ := id st'
    exact ⟨u, rfl, go_of (s := { s with heap := h' }) e c d (by decide) ⟨x, H, I1, ru, ⟨rfl, fun ys hy => by rw [I.list_inj hy hq]; exact hx⟩, st', fun b hb => (hf b hb).1⟩⟩
  done := by
    intro X hP hw hK hc i pins s σ H E I hf st hg
    subst hP hw hK
    obtain ⟨xs, hq, hx⟩ := hg
    obtain ⟨its, rv, p, hz⟩ := I.list hq
    obtain ⟨f0, f1, f2, f3, f4, f5⟩ := hf it (by simp)
    have hl := rv.length
    exact wpAny_pyNext_list_end (I.ok.hd hc) st p.isList (by simp; omega) fun h' eb => ⟨rfl, I.turned (t' := s.toks) (fun b o hb e => eb b o hb e) f0 f1 f3 f4 f5⟩
  self := fun _ _ _ _ _ st h => wpAny_pyIter_listiter st h
theorem turn_range {P : Program} {w : World} {K : PySem.W.Frag} {tg : Expr} (it : Addr) (lo : Int) (n : Nat) : Turn P w K tg (Itr lo n) [it] it (fun i h => IsRangeIter h it (lo + (i : Nat) * 1) ((n : Int) - (i : Nat)) 1) where
  mem := by simp
  obj := fun i h st b hb => by
    have e : b = it := by simpa using hb
    subst e
    exact ⟨_, st, fun v z => by
      have z' : Data.fields _ = Data.cell v := z
      cases z'⟩
  keep := fun i h h' st k => k it (by simp) _ st
  item := by
    intro X hP hw hK hc i pins s σ H E I hf st hg
    subst hP hw hK
    obtain ⟨f0, f1, f2, f3, f4, f5⟩ := hf it (by simp)
    have W := Walks.range (prog := X.prog) (w := X.w) (I.ok.hd hc) it lo 1 n
    refine W.item i s _ _ hg st fun v h' tk hv st' kk => ?_
    obtain ⟨t, rfl⟩ := hv
    have I1 : Inv X pins σ H { s with heap := h', toks := tk } := I.turned (fun b o hb e => kk b o (by simpa using hb) e) f0 f1 f3 f4 f5
    refine ⟨_, rfl, go_of (s := { s with heap := h', toks := tk }) (n := "range_iterator") st' rfl rfl (by decide) ⟨.int (lo + i), H, I1, ⟨t, ?_⟩, ⟨rfl, rfl⟩, st', fun b hb => (hf b hb).1⟩⟩
    rw [Int.mul_one]
  done := by
    intro X hP hw hK hc i pins s σ H E I hf st hg
    subst hP hw hK
    obtain ⟨f0, f1, f2, f3, f4, f5⟩ := hf it (by simp)
    exact wpAny_pyNext_range_end (I.ok.hd hc) st (by have : n ≤ i := hg; omega) fun h' eb => ⟨rfl, I.turned (t' := s.toks) (fun b o hb e => eb b o hb e) f0 f1 f3 f4 f5⟩
  self := fun _ _ _ _ _ st h => wpAny_pyIter_rangeiter st h
end L2

namespace L2
open PySem PySem.Spec PyProof.Rows
section
variable {X : Cx} {tg : Expr}
def iList (K : PySem.W.Frag) (tl : TE) : TI := fun σ H R => tl σ H fun x H1 => ∃ a, x = .ref a ∧ (∃ xs, SqL K H1 a xs) ∧ R (Itl K a) H1
theorem pi_list {l : Expr} {tl : TE} (hl : PE X l tl) : PI X tg l (iList X.K tl) := by
  intro pins s σ H R I h
  refine thn (hl pins s σ H _ I h) fun v s1 ⟨x, H1, I1, r1, q1⟩ => ?_
  obtain ⟨a, e, ⟨xs, hq⟩, q⟩ := q1
  subst e
  cases r1
  obtain ⟨its, rv, p, hz⟩ := I1.list hq
  refine wpAny_pyIter_list p.isList ?_
  refine ⟨s1.heap.objs.size, [s1.heap.objs.size], _, _, H1, rfl, I1.kept (t' := s1.toks) fun b o e => Heap.get?_push_of_some _ e, turn_list a _, ⟨_, Heap.get?_push_size _ rfl, rfl, rfl⟩, fun b hb => ?_, q⟩
  have e : b = s1.heap.objs.size := by simpa using hb
  subst e
  exact I1.fpOk (Nat.le_refl _) (I1.hok.fresh (Nat.le_refl _))
/-- a range object just made, walked -/
theorem range_it {pins : List (Addr × Obj)} {σ : St} {H : Hp} {s : Shared} {R : It → Hp → Prop} {E : Value → Shared → Prop} {lo hi : Int} {t u v : Tok} {tk : Nat} (I : Inv X pins σ H s) (h1 : -(2 ^ 62) ≤ lo) (h2 : lo < 2 ^ 62) (h3 : -(2 ^ 62) ≤ hi) (h4 : hi < 2 ^ 62)
    (q : R (Itr lo (hi - lo).toNat) H) : wpAny (model X.prog X.w) X.A (pyIter (.ref s.heap.objs.size)) (PIE X pins σ tg R) E { s with heap := s.heap.push { cls := .type "range", data := .fields #[.int lo t, .int hi u, .int 1 v] }, toks := tk } := by
  refine wpAny_pyIter_range (IsRange.new ..) (small_one h1 h2 h3 h4) ?_
  have I1 : Inv X pins σ H { s with heap := s.heap.push { cls := .type "range", data := .fields #[.int lo t, .int hi u, .int 1 v] }, toks := tk } := I.kept fun b o e => Heap.get?_push_of_some _ e
  refine ⟨(s.heap.push { cls := .type "range", data := .fields #[.int lo t, .int hi u, .int 1 v] }).objs.size, [(s.heap.push { cls := .type "range", data := .fields #[.int lo t, .int hi u, .int 1 v] }).objs.size], _, _, H, rfl,
    I1.kept (t' := tk) fun b o e => Heap.get?_push_of_some _ e, turn_range _ lo (hi - lo).toNat, ?_, fun b hb => ?_, q⟩
  · have e1 : lo + ((0 : Nat) : Int) * 1 = lo := by simp
    have e2 : (((hi - lo).toNat : Nat) : Int) - ((0 : Nat) : Int) = Builtin.Range.rangeSize lo hi 1 := by rw [rangeSize_one]; split <;> omega
    show IsRangeIter _ _ (lo + ((0 : Nat) : Int) * 1) ((((hi - lo).toNat : Nat) : Int) - ((0 : Nat) : Int)) 1
    rw [e1, e2]
    exact Heap.get?_push_size _ rfl
  · have e : b = (s.heap.push { cls := .type "range", data := .fields #[.int lo t, .int hi u, .int 1 v] }).objs.size := by simpa using hb
    subst e
    exact I1.fpOk (Nat.le_refl _) (I1.hok.fresh (Nat.le_refl _))
def iRng1 (ta : TA) : TI := fun σ H R => ta σ H fun vs H1 => ∃ j : Int, vs = [.int j] ∧ -(2 ^ 62) ≤ j ∧ j < 2 ^ 62 ∧ R (Itr 0 j.toNat) H1
theorem pi_range1 {a : Expr} {ta : TA} {p pos : Pos} (hg : Gl X "range") (hm : X.mg "range" = none) (ha : PA X [a] ta) (hs : starEach [a] X.env = [(false, eval a X.env)] := by rfl) : PI X tg (.Call (.Name "range" p) [a] [] pos) (iRng1 ta) := by
  intro pins s σ H R I h
  refine Call_ (ld_blt I hg hm boot_range (PyProof.Rows.callWith_type1 (thn (ha pos pins s σ H _ I h) fun us s1 ⟨vs, H1, I1, r1, q1⟩ => ?_) hs rfl))
  obtain ⟨j, e, q1, q2, q⟩ := q1
  subst e
  cases r1 with
  | cons r rr =>
    cases rr
    obtain ⟨t, rfl⟩ := r
    exact call_range_1 (range_it I1 (by omega) (by omega) q1 q2 (by simpa using q))
/-- W: the invariant by the turn and a measure; N: what the body is to reach -/
def tFor (wi : TI) (g : TG) (tb : TS) : TS := fun D σ H => wi σ H fun J H1 => ∃ W : Nat → Nat → St → Hp → Prop, (∃ m, W 0 m σ H1) ∧ ∀ i m σ H, W i m σ H →
  (J.stop i H ∧ D.nx σ H) ∨ (J.go i H ∧ ∃ N : St → Hp → Prop, (∀ σ' H', N σ' H' → ∃ m', m' < m ∧ W (i + 1) m' σ' H') ∧ ∀ x H', J.yld i H x H' → g x σ H' fun σ2 H2 => tb { D with nx := N, ct := N, bk := D.nx } σ2 H2)
/-- the records at fp as they stand -/
def pinsAt (fp : List Addr) (h : Heap) : List (Addr × Obj) := fp.filterMap fun b => (h.get? b).map fun o => (b, o)
theorem mem_pinsAt {fp : List Addr} {h : Heap} {b : Addr} {o : Obj} (hb : b ∈ fp) (e : h.get? b = some o) : (b, o) ∈ pinsAt fp h := List.mem_filterMap.mpr ⟨b, hb, by rw [e]; rfl⟩
theorem of_pinsAt {fp : List Addr} {h : Heap} {p : Addr × Obj} (hp : p ∈ pinsAt fp h) : p.1 ∈ fp ∧ h.get? p.1 = some p.2 := by
  obtain ⟨b, hb, e⟩ := List.mem_filterMap.mp hp
  cases q : h.get? b with
  | none => rw [q] at e; cases e
  | some o =>
    rw [q] at e
    have e' : (b, o) = p := Option.some.inj e
    subst e'
    exact ⟨hb, q⟩
theorem Inv.pinned {pins : List (Addr × Obj)} {σ : St} {H : Hp} {s : Shared} {fp : List Addr} (I : Inv X pins σ H s) (hf : ∀ b ∈ fp, FpOk X pins H b) (ho : ∀ b ∈ fp, ∃ o, s.heap.get? b = some o ∧ ∀ v, o.data ≠ .cell v) : Inv X (pins ++ pinsAt fp s.heap) σ H s :=
  I.pins_of fun p hp => (List.mem_append.mp hp).elim (fun z => I.pin p (List.mem_append_right _ z)) fun z => by
    obtain ⟨hb, e⟩ := of_pinsAt z
    obtain ⟨f0, f1, f2, _⟩ := hf p.1 hb
    obtain ⟨o, e', d⟩ := ho p.1 hb
    rw [e] at e'; cases e'
    exact ⟨e, f0, f1, f2, d⟩
theorem Inv.unpinned {pins pl : List (Addr × Obj)} {σ : St} {H : Hp} {s : Shared} (I : Inv X (pins ++ pl) σ H s) : Inv X pins σ H s := I.pins_of fun p hp => I.pin p (List.mem_append_right _ (List.mem_append_left _ hp))
theorem ps_for {iter : Expr} {body : List Stmt} {wi : TI} {g : TG} {tb : TS} {pos : Pos} (hp : PassesOwn (model X.prog X.w) X.A X.env X.xe) (hc : X.calm = true) (hi : PI X tg iter wi) (hg : PG X tg g) (hb : PSs X body tb)
    (hs : ∀ x, foldedSetIterable iter X.env x = pure x := by intro _; rfl) : PS X (.For tg iter body [] pos) (tFor wi g tb) := by
  intro pins s σ H D I h
  refine wpAny_For (thn (hi pins s σ H _ I h) fun v s1 h1 => thn h1 fun itv s2 h2 => ?_) hs
  obtain ⟨it, fp, tn, J, H2, e, I2, T, st2, f2, W, ⟨m0, w0⟩, turn⟩ := h2
  subst e
  -- what stays true of the iterator's objects through the loop
  have stat : ∀ {H' : Hp}, (∀ b ∈ fp, H' b = none) → ∀ b ∈ fp, FpOk X pins H' b := fun hn b hb => ⟨hn b hb, (f2 b hb).2⟩
  refine codeAny_forLoop_any (fun n s' => ∃ i σ' H', Inv X pins σ' H' s' ∧ tn i s'.heap ∧ (∀ b ∈ fp, H' b = none) ∧ W i n σ' H') ?_ m0 ⟨0, σ, H2, I2, st2, fun b hb => (f2 b hb).1, w0⟩
  rintro n s3 ⟨i, σ3, H3, I3, st3, fr3, w3⟩
  rcases turn i n σ3 H3 w3 with ⟨stop, qn⟩ | ⟨go, N, hN, step⟩
  · refine wpAny_passesOwn hp (thn (T.done X rfl rfl rfl hc i pins s3 σ3 H3 X.xe I3 (stat fr3) st3 stop) fun r s4 ⟨hr, I4⟩ => ?_)
    subst hr
    exact wpAny_execs_nil ⟨σ3, H3, I4, qn⟩
  · refine wpAny_passesOwn hp (thn (T.item X rfl rfl rfl hc i pins s3 σ3 H3 X.xe I3 (stat fr3) st3 go) fun r s4 ⟨u, hr, h4⟩ => ?_)
    subst hr
    refine wpAny_passesOwn hp (thn h4 fun _ s5 ⟨x, H5, I5, r5, y5, st5, fr5⟩ => ?_)
    have I5' := I5.pinned (stat fr5) (T.obj _ _ st5)
    refine wpAny_passesOwn hp (thn (hg _ s5 σ3 H5 x u _ I5' r5 (step x H5 y5)) fun _ s6 ⟨σ6, H6, I6, q6⟩ => ?_)
    refine wpAny_passesOwn hp (thn (hb _ s6 σ6 H6 _ I6 q6) fun f s7 q7 => ?_)
    have again : ∀ {σ7 : St} {H7 : Hp}, Inv X (pins ++ pinsAt fp s5.heap) σ7 H7 s7 → N σ7 H7 → ∃ m, m < n ∧ ∃ i σ' H', Inv X pins σ' H' s7 ∧ tn i s7.heap ∧ (∀ b ∈ fp, H' b = none) ∧ W i m σ' H' := fun {σ7 H7} I7 n7 => by
      obtain ⟨m', hm, w7⟩ := hN σ7 H7 n7
      refine ⟨m', hm, i + 1, σ7, H7, I7.unpinned, T.keep _ _ _ st5 fun b hb o e => (I7.pin (b, o) (List.mem_append_right _ (List.mem_append_right _ (mem_pinsAt hb e)))).1, fun b hb => ?_, w7⟩
      obtain ⟨o, e, d⟩ := T.obj _ _ st5 b hb
      exact (I7.pin (b, o) (List.mem_append_right _ (List.mem_append_right _ (mem_pinsAt hb e)))).2.1
    cases f with
    | next => obtain ⟨σ7, H7, I7, n7⟩ := q7; exact again I7 n7
    | cont => obtain ⟨σ7, H7, I7, n7⟩ := q7; exact again I7 n7
    | brk => obtain ⟨σ7, H7, I7, q7⟩ := q7; exact ⟨σ7, H7, I7.unpinned, q7⟩
    | ret v => obtain ⟨x7, σ7, H7, I7, r7, q7⟩ := q7; exact ⟨x7, σ7, H7, I7.unpinned, r7, q7⟩
end

/-- over a list that the body leaves as it is -/
theorem for_list {K : PySem.W.Frag} {a : Addr} {xs : List V} {g : TG} {tb : TS} {D : Ends} {σ : St} {H : Hp} (Pv : Nat → St → Hp → Prop) (h0 : Pv 0 σ H) (hl : ∀ i σ H, i ≤ xs.length → Pv i σ H → SqL K H a xs)
    (hs : ∀ i x σ H, xs[i]? = some x → Pv i σ H → g x σ H fun σ2 H2 => tb { D with nx := Pv (i + 1), ct := Pv (i + 1), bk := D.nx } σ2 H2) (hd : ∀ σ H, Pv xs.length σ H → D.nx σ H) :
    ∃ W : Nat → Nat → St → Hp → Prop, (∃ m, W 0 m σ H) ∧ ∀ i m σ H, W i m σ H →
      ((Itl K a).stop i H ∧ D.nx σ H) ∨ ((Itl K a).go i H ∧ ∃ N : St → Hp → Prop, (∀ σ' H', N σ' H' → ∃ m', m' < m ∧ W (i + 1) m' σ' H') ∧ ∀ x H', (Itl K a).yld i H x H' → g x σ H' fun σ2 H2 => tb { D with nx := N, ct := N, bk := D.nx } σ2 H2) := by
  refine ⟨fun i m σ H => m = xs.length - i ∧ i ≤ xs.length ∧ Pv i σ H, ⟨xs.length, by simp, Nat.zero_le _, h0⟩, ?_⟩
  rintro i m σ H ⟨rfl, hi, p⟩
  have q := hl i σ H hi p
  by_cases hlt : i < xs.length
  · refine .inr ⟨⟨xs, xs[i], q, by simp [hlt]⟩, Pv (i + 1), fun σ' H' p' => ⟨xs.length - (i + 1), by omega, rfl, hlt, p'⟩, fun x H' y => ?_⟩
    obtain ⟨e, y⟩ := y
    subst e
    exact hs i x σ _ (y xs q) p
  · have e : i = xs.length := by omega
    subst e
    exact .inl ⟨⟨xs, q, Nat.le_refl _⟩, hd σ H p⟩
theorem for_range {lo : Int} {n : Nat} {g : TG} {tb : TS} {D : Ends} {σ : St} {H : Hp} (Pv : Nat → St → Hp → Prop) (h0 : Pv 0 σ H)
    (hs : ∀ i σ H, i < n → Pv i σ H → g (.int (lo + i)) σ H fun σ2 H2 => tb { D with nx := Pv (i + 1), ct := Pv (i + 1), bk := D.nx } σ2 H2) (hd : ∀ σ H, Pv n σ H → D.nx σ H) :
    ∃ W : Nat → Nat → St → Hp → Prop, (∃ m, W 0 m σ H) ∧ ∀ i m σ H, W i m σ H →
      ((Itr lo n).stop i H ∧ D.nx σ H) ∨ ((Itr lo n).go i H ∧ ∃ N : St → Hp → Prop, (∀ σ' H', N σ' H' → ∃ m', m' < m ∧ W (i + 1) m' σ' H') ∧ ∀ x H', (Itr lo n).yld i H x H' → g x σ H' fun σ2 H2 => tb { D with nx := N, ct := N, bk := D.nx } σ2 H2) := by
  refine ⟨fun i m σ H => m = n - i ∧ i ≤ n ∧ Pv i σ H, ⟨n, by simp, Nat.zero_le _, h0⟩, ?_⟩
  rintro i m σ H ⟨rfl, hi, p⟩
  by_cases hlt : i < n
  · refine .inr ⟨hlt, Pv (i + 1), fun σ' H' p' => ⟨n - (i + 1), by omega, rfl, hlt, p'⟩, fun x H' y => ?_⟩
    obtain ⟨e, y⟩ := y
    subst e y
    exact hs i σ _ hlt p
  · have e : i = n := by omega
    subst e
    exact .inl ⟨Nat.le_refl _, hd σ H p⟩
end L2

namespace L2
open PySem PySem.Spec PyProof.Rows

abbrev R2 := V → V → Hp → VK → Prop
/-- a two-place operation on values: f is binaryOp op, inplaceOp op or compareOp op -/
def OpR (X : Cx) (f : Value → Value → Sem Value) (r : R2) : Prop :=
  ∀ (pins : List (Addr × Obj)) (s : Shared) (σ : St) (H : Hp) (x y : V) (v u : Value) (Q : VK), Inv X pins σ H s → RelV x v → RelV y u → r x y H Q →
    wpAny (model X.prog X.w) X.A (f v u) (EP X pins σ Q) X.xe s
/-- a call of a value that is known (a builtin, a type) with values -/
def CallR (X : Cx) (f : Value) (r : List V → Hp → VK → Prop) : Prop :=
  ∀ (pins : List (Addr × Obj)) (s : Shared) (σ : St) (H : Hp) (xs : List V) (us : List Value) (Q : VK), Inv X pins σ H s → Vals xs us → r xs H Q →
    wpAny (model X.prog X.w) X.A (call f us) (EP X pins σ Q) X.xe s
def tOp (r : R2) (ta tb : TE) : TE := fun σ H Q => ta σ H fun x H1 => tb σ H1 fun y H2 => r x y H2 Q
/-- ints in, under C, and a value out -/
def rI (C : Int → Int → Prop) (g : Int → Int → V) : R2 := fun x y H Q => ∃ i j, x = .int i ∧ y = .int j ∧ C i j ∧ Q (g i j) H
def rI0 (g : Int → Int → V) : R2 := fun x y H Q => ∃ i j, x = .int i ∧ y = .int j ∧ Q (g i j) H
section
variable {X : Cx} {a b c : Expr} {ta tb tc : TE} {pos : Pos}

theorem binT (ha : PE X a ta) (hb : PE X b tb) {pins : List (Addr × Obj)} {s : Shared} {σ : St} {H : Hp} {R : V → V → Hp → Prop} (I : Inv X pins σ H s)
    (h : ta σ H fun x H1 => tb σ H1 fun y H2 => R x y H2) {Q : Value → Shared → Prop} {f : Value → Value → Sem Value}
    (hf : ∀ v u s2 x y H2, Inv X pins σ H2 s2 → RelV x v → RelV y u → R x y H2 → wpAny (model X.prog X.w) X.A (f v u) Q X.xe s2) :
    wpAny (model X.prog X.w) X.A (eval a X.env) (fun v s₁ => wpAny (model X.prog X.w) X.A (eval b X.env) (fun u s₂ => wpAny (model X.prog X.w) X.A (f v u) Q X.xe s₂) X.xe s₁) X.xe s := by
  refine thn (ha pins s σ H _ I h) fun v s1 ⟨x, H1, I1, r1, q1⟩ => ?_
  refine thn (hb pins s1 σ H1 _ I1 q1) fun u s2 ⟨y, H2, I2, r2, q2⟩ => ?_
  exact hf v u s2 x y H2 I2 r1 r2 q2

theorem pe_op {op : Operator} {r : R2} (ho : OpR X (binaryOp op) r) (ha : PE X a ta) (hb : PE X b tb) : PE X (.BinOp a op b pos) (tOp r ta tb) := by
  intro pins s σ H Q I h
  exact wpAny_BinOp (binT ha hb I h fun v u s2 x y H2 I2 rx ry q => ho pins s2 σ H2 x y v u Q I2 rx ry q)
theorem opI {f : Value → Value → Sem Value} {C : Int → Int → Prop} {g : Int → Int → Int}
    (rule : ∀ (i j : Int) (t u : Tok) (s : Shared) (Q : Value → Shared → Prop) (E : Value → Shared → Prop), C i j → Q (.int (g i j) s.toks) { s with toks := s.toks + 1 } → wpAny (model X.prog X.w) X.A (f (.int i t) (.int j u)) Q E s) :
    OpR X f (rI C fun i j => .int (g i j)) := by
  intro pins s σ H x y v u Q I rx ry h
  obtain ⟨i, j, rfl, rfl, hc, q⟩ := h
  obtain ⟨t, rfl⟩ := rx
  obtain ⟨t', rfl⟩ := ry
  exact rule i j t t' s _ _ hc ⟨.int (g i j), H, I.tok _, ⟨_, rfl⟩, q⟩
theorem opI0 {f : Value → Value → Sem Value} {g : Int → Int → Int}
    (rule : ∀ (i j : Int) (t u : Tok) (s : Shared) (Q : Value → Shared → Prop) (E : Value → Shared → Prop), Q (.int (g i j) s.toks) { s with toks := s.toks + 1 } → wpAny (model X.prog X.w) X.A (f (.int i t) (.int j u)) Q E s) :
    OpR X f (rI0 fun i j => .int (g i j)) := by
  intro pins s σ H x y v u Q I rx ry h
  obtain ⟨i, j, rfl, rfl, q⟩ := h
  obtain ⟨t, rfl⟩ := rx
  obtain ⟨t', rfl⟩ := ry
  exact rule i j t t' s _ _ ⟨.int (g i j), H, I.tok _, ⟨_, rfl⟩, q⟩
theorem opB0 {f : Value → Value → Sem Value} {g : Int → Int → Bool}
    (rule : ∀ (i j : Int) (t u : Tok) (s : Shared) (Q : Value → Shared → Prop) (E : Value → Shared → Prop), Q (.bool (g i j)) s → wpAny (model X.prog X.w) X.A (f (.int i t) (.int j u)) Q E s) :
    OpR X f (rI0 fun i j => .bl (g i j)) := by
  intro pins s σ H x y v u Q I rx ry h
  obtain ⟨i, j, rfl, rfl, q⟩ := h
  obtain ⟨t, rfl⟩ := rx
  obtain ⟨t', rfl⟩ := ry
  exact rule i j t t' s _ _ ⟨.bl (g i j), H, I, rfl, q⟩

def CMul (i j : Int) : Prop := (-(2 ^ 64) < i ∧ i < 2 ^ 64) ∨ (-(2 ^ 64) < j ∧ j < 2 ^ 64)
theorem CMul.ok {i j : Int} (h : CMul i j) : IntMulOk i j := by
  rcases h with ⟨h1, h2⟩ | ⟨h1, h2⟩
  · exact .of_left (intBits_le_64 h1 h2)
  · exact .of_right (intBits_le_64 h1 h2)
theorem op_add : OpR X (binaryOp .Add) (rI0 fun i j => .int (i + j)) := opI0 fun _ _ _ _ _ _ _ q => add_int q
theorem op_mul : OpR X (binaryOp .Mult) (rI CMul fun i j => .int (i * j)) := opI fun _ _ _ _ _ _ _ hc q => mul_int q hc.ok
end

/-- the scalars that == tells apart as data does -/
def scal : V → V → Bool
  | .non, .non => true | .non, .int _ => true | .int _, .non => true | .non, .bl _ => true | .bl _, .non => true | .non, .str _ => true | .str _, .non => true
  | .int _, .int _ => true | .bl _, .bl _ => true | .str _, .str _ => true | .byt _, .byt _ => true
  | .int _, .str _ => true | .str _, .int _ => true | .bl _, .str _ => true | .str _, .bl _ => true
  | _, _ => false
def rNe : R2 := fun x y H Q => scal x y = true ∧ Q (.bl (!decide (x = y))) H

theorem dec_int {i j : Int} : decide (V.int i = V.int j) = (i == j) := by
  rw [Bool.eq_iff_iff]
  simp
theorem dec_bl {i j : Bool} : decide (V.bl i = V.bl j) = (i == j) := by
  rw [Bool.eq_iff_iff]
  simp
theorem dec_str {i j : Str} : decide (V.str i = V.str j) = (i == j) := by
  rw [Bool.eq_iff_iff]
  simp
theorem dec_byt {i j : Array UInt8} : decide (V.byt i = V.byt j) = (i.toList == j.toList) := by
  rw [Bool.eq_iff_iff]
  cases i
  cases j
  simp

section
variable {X : Cx} {a b c : Expr} {ta tb tc : TE} {pos : Pos}
theorem fin_bl {pins : List (Addr × Obj)} {σ : St} {H : Hp} {s : Shared} {Q : VK} {k k' : Bool} (I : Inv X pins σ H s) (q : Q (.bl k) H) (e : k = k') : EP X pins σ Q (.bool k') s := by
  subst e
  exact ⟨.bl k, H, I, rfl, q⟩
theorem op_ne : OpR X (compareOp .NotEq) rNe := by
  intro pins s σ H x y v u Q I rx ry h
  obtain ⟨hs, q⟩ := h
  cases x with
  | non =>
    cases rx
    cases y with
    | non => cases ry; exact PySem.EqNone.ne_none_none (fin_bl I q (by simp))
    | bl j => cases ry; exact PySem.EqNone.ne_none_bool (fin_bl I q (by simp))
    | int j => obtain ⟨t', rfl⟩ := ry; exact PySem.EqNone.ne_none_int (fin_bl I q (by simp))
    | str j => obtain ⟨t', rfl⟩ := ry; exact PySem.EqNone.ne_none_str (fin_bl I q (by simp))
    | _ => exact absurd (show false = true from hs) Bool.false_ne_true
  | bl i =>
    cases rx
    cases y with
    | non => cases ry; exact PySem.EqNone.ne_bool_none (fin_bl I q (by simp))
    | bl j => cases ry; exact ne_bool (fin_bl I q (congrArg not dec_bl))
    | str j => obtain ⟨t', rfl⟩ := ry; exact PySem.EqMixed.ne_bool_str (fin_bl I q (by simp))
    | _ => exact absurd (show false = true from hs) Bool.false_ne_true
  | int i =>
    obtain ⟨t, rfl⟩ := rx
    cases y with
    | non => cases ry; exact PySem.EqNone.ne_int_none (fin_bl I q (by simp))
    | int j => obtain ⟨t', rfl⟩ := ry; exact ne_int (fin_bl I q (congrArg not dec_int))
    | str j => obtain ⟨t', rfl⟩ := ry; exact PySem.EqMixed.ne_int_str (fin_bl I q (by simp))
    | _ => exact absurd (show false = true from hs) Bool.false_ne_true
  | str i =>
    obtain ⟨t, rfl⟩ := rx
    cases y with
    | non => cases ry; exact PySem.EqNone.ne_str_none (fin_bl I q (by simp))
    | bl j => cases ry; exact PySem.EqMixed.ne_str_bool (fin_bl I q (by simp))
    | int j => obtain ⟨t', rfl⟩ := ry; exact PySem.EqMixed.ne_str_int (fin_bl I q (by simp))
    | str j => obtain ⟨t', rfl⟩ := ry; exact ne_str (fin_bl I q (congrArg not dec_str))
    | _ => exact absurd (show false = true from hs) Bool.false_ne_true
  | byt i =>
    obtain ⟨t, rfl⟩ := rx
    cases y with
    | byt j => obtain ⟨t', rfl⟩ := ry; exact PySem.W.ne_bytes (fin_bl I q (congrArg not dec_byt))
    | _ => exact absurd (show false = true from hs) Bool.false_ne_true
  | _ => cases y <;> exact absurd (show false = true from hs) Bool.false_ne_true

theorem op_lt : OpR X (compareOp .Lt) (rI0 fun i j => .bl (decide (i < j))) := opB0 fun _ _ _ _ _ _ _ q => lt_int q
theorem op_le : OpR X (compareOp .LtE) (rI0 fun i j => .bl (decide (i ≤ j))) := opB0 fun _ _ _ _ _ _ _ q => le_int q
theorem op_gt : OpR X (compareOp .Gt) (rI0 fun i j => .bl (decide (j < i))) := opB0 fun _ _ _ _ _ _ _ q => gt_int q
/-- two rules for one operation: by cases -/
theorem OpR.or {f : Value → Value → Sem Value} {r r' : R2} (h : OpR X f r) (h' : OpR X f r') : OpR X f (fun x y H Q => r x y H Q ∨ r' x y H Q) := by
  intro pins s σ H x y v u Q I rx ry q
  rcases q with q | q
  · exact h pins s σ H x y v u Q I rx ry q
  · exact h' pins s σ H x y v u Q I rx ry q

theorem nomark (b : Expr) {op : CmpOp} (h : op ≠ .In := by decide) (h2 : op ≠ .NotIn := by decide) : behindInMarks op b = false := by
  have e1 : (op == CmpOp.In) = false := by cases op <;> first | rfl | exact absurd rfl h
  have e2 : (op == CmpOp.NotIn) = false := by cases op <;> first | rfl | exact absurd rfl h2
  cases b <;> simp [behindInMarks, e1, e2]
/-- a reading of a value as a test -/
def tTest (t : TE) : TT := fun σ H Q => t σ H fun x H' => ∃ k, x = .bl k ∧ Q k H'
theorem pt_cmpR {op : CmpOp} {r : R2} (ho : OpR X (compareOp op) r) (ha : PE X a ta) (hb : PE X b tb) (hm : behindInMarks op b = false) : PT X (.Compare a [op] [b] pos) (tTest (tOp r ta tb)) := by
  intro pins s σ H Q I h
  refine wpAny_isTrue_Compare1 (thn (ha pins s σ H _ I h) fun v s1 ⟨x, H1, I1, r1, q1⟩ => thn (hb pins s1 σ H1 _ I1 q1) fun u s2 ⟨y, H2, I2, r2, q2⟩ =>
    thn (ho pins s2 σ H2 x y v u _ I2 r1 r2 q2) fun c s3 ⟨z, H3, I3, r3, k, e, q3⟩ => ?_) hm
  subst e
  cases r3
  exact wpAny_truthy_bool ⟨H3, I3, q3⟩
/-- a op1 b op2 c -/
def tChain (r r' : R2) (ta tb tc : TE) : TE := fun σ H Q => ta σ H fun x H1 => tb σ H1 fun y H2 => r x y H2 fun z H3 => ∃ k, z = .bl k ∧
  (if k = true then tc σ H3 fun w' H4 => r' y w' H4 Q else Q (.bl false) H3)
theorem pt_chain {op op' : CmpOp} {r r' : R2} (ho : OpR X (compareOp op) r) (ho' : OpR X (compareOp op') r') (ha : PE X a ta) (hb : PE X b tb) (hc : PE X c tc)
    (hm : lastMarks [op, op'] [b, c] = false := by with_unfolding_all rfl) : PT X (.Compare a [op, op'] [b, c] pos) (tTest (tChain r r' ta tb tc)) := by
  intro pins s σ H Q I h
  refine isTrue_chain (thn (ha pins s σ H _ I h) fun v s1 ⟨x, H1, I1, r1, q1⟩ => test_link (thn (hb pins s1 σ H1 _ I1 q1) fun u s2 ⟨y, H2, I2, r2, q2⟩ =>
    thn (ho pins s2 σ H2 x y v u _ I2 r1 r2 q2) fun d s3 ⟨z, H3, I3, r3, k, e, q3⟩ => ?_)) hm
  subst e
  cases r3
  refine wpAny_truthy_bool ?_
  cases k with
  | false =>
    obtain ⟨k', e', q'⟩ := q3
    cases e'
    exact ite_ff ⟨H3, I3, q'⟩
  | true =>
    refine ite_tt (test_last (thn (hc pins s3 σ H3 _ I3 q3) fun w' s4 ⟨z', H4, I4, r4, q4⟩ => thn (ho' pins s4 σ H4 y z' u w' _ I4 r2 r4 q4) fun d' s5 ⟨z2, H5, I5, r5, k2, e2, q5⟩ => ?_))
    subst e2
    cases r5
    exact wpAny_truthy_bool ⟨H5, I5, q5⟩

theorem line63 : (sizeLine : Nat) < 2 ^ 63 := by rw [sizeLine_eq]; decide
theorem vals1 {x : V} {us : List Value} (r : Vals [x] us) : ∃ u, us = [u] ∧ RelV x u := by
  cases r with
  | cons r1 r2 => cases r2; exact ⟨_, rfl, r1⟩
end
end L2

namespace L2
open PySem PySem.Spec PyProof.Rows

structure ObjM (h : Heap) (x dx C : Addr) (mA : Str → Option Value) : Prop where
  obj : h.get? x = some (PySem.W.instObj C dx)
  ns : h.Ns1 dx mA
  ne : dx ≠ x

section
variable {prog : Program} {w : World} {A : Around} {E : Value → Shared → Prop} {s : Shared} {K : PySem.W.Frag} {x dx C f : Addr} {mA : Str → Option Value} {name : Str} {v : Value}

end

theorem RelO.some_of {v : V} {o : Option Value} (r : RelO (some v) o) : ∃ u, o = some u ∧ RelV v u := by
  cases o with
  | none => exact (show False from r).elim
  | some u => exact ⟨u, rfl, r⟩
theorem RelO.none_of {o : Option Value} (r : RelO none o) : o = none := by
  cases o with
  | none => rfl
  | some u => exact (show False from r).elim
section
variable {P : Program} {w : World} {H H' : Hp} {h h' : Heap} {a C dx : Addr} {fs fs' : List (Str × V)}
end

structure Cls (K : PySem.W.Frag) (C : Addr) : Prop where
  pg : PySem.W.plainGet K C Str.empty = true
  hd : PySem.W.hasDictIn K C = true
  po : PySem.W.plainOver K C = true
  sa : PySem.W.findIn K (.ref C) "__setattr__" = some (some (.builtin "object.__setattr__"))
theorem Cls.get {K : PySem.W.Frag} {C : Addr} (c : Cls K C) (f : Str) : PySem.W.plainGet K C f = true := c.pg
/-- a constant of the class -/
structure Con (K : PySem.W.Frag) (C : Addr) (f : Str) (v : V) (u : Value) : Prop where
  at_ : PySem.W.findIn K (.ref C) f = some (some u)
  rel : RelV v u
  get : PySem.W.specialIn K u "__get__" = some none
  cp : PySem.W.copiedNames.contains f = false
/-- a method: a plain def of the class or of one above it -/
structure Meth (K : PySem.W.Frag) (C : Addr) (m : Str) (f : Addr) : Prop where
  at_ : PySem.W.findIn K (.ref C) m = some (some (.ref f))
  fn : PySem.W.isFn K (.ref f) = true
  kp : PySem.W.keepIn K (.ref f) = true

section
variable {X : Cx} {pins : List (Addr × Obj)} {σ : St} {H : Hp} {s : Shared} {a C dx : Addr} {fs : List (Str × V)} {f : Str} {v : V} {A : Around} {E : Value → Shared → Prop}

/-- a new instance, tracked, without attributes -/
theorem Inv.made (I : Inv X pins σ H s) : Inv X pins σ (upd (upd H s.heap.objs.size (.own (s.heap.objs.size + 1))) (s.heap.objs.size + 1) (.ins C s.heap.objs.size []))
    { s with heap := (s.heap.push PySem.W.emptyDict).push (PySem.W.instObj C s.heap.objs.size) } := by
  have e1 : (s.heap.push PySem.W.emptyDict).get? s.heap.objs.size = some PySem.W.emptyDict := Heap.get?_push_size s.heap rfl
  have e2 : ((s.heap.push PySem.W.emptyDict).push (PySem.W.instObj C s.heap.objs.size)).get? (s.heap.objs.size + 1) = some (PySem.W.instObj C s.heap.objs.size) := by
    have := Heap.get?_push_size (s.heap.push PySem.W.emptyDict) (o := PySem.W.instObj C s.heap.objs.size) rfl
    rwa [Heap.size_push] at this
  have e3 : (s.heap.push PySem.W.emptyDict).Ns s.heap.objs.size (fun _ => none) := ⟨PySem.W.emptyDict, #[], _, e1, rfl, (fun e he => absurd he (by simp)), fun _ => rfl⟩
  have I1 := I.laid (a := s.heap.objs.size) (o := .own (s.heap.objs.size + 1)) (h' := s.heap.push PySem.W.emptyDict) (t' := s.toks) (fun b u q => Heap.get?_push_of_some _ q) (Nat.le_refl _) ⟨_, e1⟩
  refine I1.laid (a := s.heap.objs.size + 1) (o := .ins C s.heap.objs.size []) (t' := s.toks) (fun b u q => Heap.get?_push_of_some _ q) (Nat.le_of_eq (Heap.size_push _ _)) ?_
  have ne : s.heap.objs.size ≠ s.heap.objs.size + 1 := Nat.ne_of_lt (Nat.lt_succ_self _)
  refine ⟨by rw [upd_ne ne, upd_same], Nat.zero_le _, ne, e2, fun _ => none, (Heap.Ns1.of_empty e3).at fun o q => Heap.get?_push_of_some _ q, fun _ => True.intro, fun y hy => absurd rfl hy⟩

end

section
variable {X : Cx} {o e value : Expr} {f : Str} {pos pos' tpos : Pos} {ta tv : TE}
end

section
variable {X : Cx} {pins : List (Addr × Obj)} {σ : St} {H : Hp} {s : Shared} {A : Around} {E : Value → Shared → Prop} {Q : Value → Shared → Prop} {c : Value} {b : Bool}
/-- the type of a value, as the fragment's deciders take it; for an instance its class -/
inductive TyOf (K : PySem.W.Frag) (H : Hp) : V → Value → Prop where
  | non : TyOf K H .non (.type "NoneType")
  | bl (x : Bool) : TyOf K H (.bl x) (.type "bool")
  | int (i : Int) : TyOf K H (.int i) (.type "int")
  | str (x : Str) : TyOf K H (.str x) (.type "str")
  | flt (x : UInt64) : TyOf K H (.flt x) (.type "float")
  | lst {a : Addr} {xs : List V} (e : H a = some (.lst xs)) : TyOf K H (.ref a) (.type "list")
  | frz {a : Addr} {o : Obj} {xs : List V} (e : H a = some (.frz o (.lst xs))) : TyOf K H (.ref a) (.type "list")
  | tup {a : Addr} {xs : List V} (e : H a = some (.tup xs)) : TyOf K H (.ref a) (.type "tuple")
  | dK {a : Addr} {kvs : List (Key × V)} (e : H a = some (.dK kvs)) : TyOf K H (.ref a) (.type "dict")
  | dT {a : Addr} {kvs : List (List Key × V)} (e : H a = some (.dT kvs)) : TyOf K H (.ref a) (.type "dict")
  | ins {a C dx : Addr} {fs : List (Str × V)} (e : H a = some (.ins C dx fs)) (cl : Cls K C) (ha : PySem.W.findIn K (.ref C) "__class__" = some (some (.builtin "object.__class__")))
      (hn : PySem.W.specialIn K (.builtin "object.__class__") "__get__" = some (some (.builtin "getset_descriptor.__get__"))) (htk : PySem.W.takesIn K (.builtin "object.__class__") = some true)
      (hm : PySem.W.mroIn K C (.type "object") = some true) : TyOf K H (.ref a) (.ref C)
end
end L2

namespace L2
open PySem PySem.Spec PyProof.Rows

structure Room (k : Nat) (A : Around) : Prop where
  hd : A.handled = none
  dp : A.depth + 3 * k + 5 < recursionLimit
  un : A.units + 16 * k + 200 < cLine
theorem Room.mono {j k : Nat} {A : Around} (r : Room k A) (h : j ≤ k) : Room j A := ⟨r.hd, by have := r.dp; omega, by have := r.un; omega⟩
theorem Room.deeper {k : Nat} {A : Around} (r : Room (k + 1) A) (env : Env) : Room k (A.deeper env) :=
  ⟨r.hd, by have := r.dp; show A.depth + 1 + 3 * k + 5 < _; omega, by have := r.un; show A.units + 3 + 16 * k + 200 < _; omega⟩
theorem Room.in1 {k : Nat} {A : Around} (r : Room (k + 1) A) : Room k A.in1 :=
  ⟨r.hd, by have := r.dp; show A.depth + 3 * k + 5 < _; omega, by have := r.un; show A.units + 1 + 16 * k + 200 < _; omega⟩
theorem Room.depth {k : Nat} {A : Around} (r : Room k A) : A.depth < recursionLimit := by have := r.dp; omega
theorem Room.units {k : Nat} {A : Around} (r : Room k A) : A.units + 64 < cLine := by have := r.un; omega
def tNil : TA := fun _ H Q => Q [] H
def tCons (ta : TE) (tr : TA) : TA := fun σ H Q => ta σ H fun x H1 => tr σ H1 fun xs H2 => Q (x :: xs) H2
section
variable {X : Cx} {e : Expr} {es : List Expr} {te : TE} {t : TA} {pos : Pos}
theorem pa_nil : PA X [] tNil := fun _ _ _ _ H Q I h => Calls.spliced_nil ⟨[], H, I, .nil, h⟩
theorem pa_cons (ha : PE X e te) (hr : PA X es t) (hs : starEach (e :: es) X.env = (false, eval e X.env) :: starEach es X.env := by rfl) : PA X (e :: es) (tCons te t) := by
  intro pos pins s σ H Q I h
  rw [hs]
  show wpAny _ _ (spliced ((false, eval e X.env) :: backTo pos (starEach es X.env))) _ _ s
  refine Calls.spliced_cons (thn (ha pins s σ H _ I h) fun u s1 ⟨x, H1, I1, r1, q1⟩ => ?_)
  exact thn (hr pos pins s1 σ H1 _ I1 q1) fun us s2 ⟨xs, H2, I2, r2, q2⟩ => ⟨x :: xs, H2, I2, .cons r1 r2, q2⟩

/-- a tuple, a list of written items -/
def tTup (t : TA) : TE := fun σ H Q => t σ H fun xs H1 => xs.length ≤ sizeLine ∧ ∀ p, H1 p = none → Q (.ref p) (upd H1 p (.tup xs))
def tLst (t : TA) : TE := fun σ H Q => t σ H fun xs H1 => xs.length ≤ sizeLine ∧ ∀ p, H1 p = none → Q (.ref p) (upd H1 p (.lst xs))
theorem pe_tup {x1} (h : PA X es t) : PE X (.Tuple es x1 pos) (tTup t) := by
  intro pins s σ H Q I hq
  refine wpAny_Tuple_spliced (thn (h pos pins s σ H _ I hq) fun us s1 ⟨xs, H1, I1, r, z, q⟩ => ⟨by rw [← r.length]; exact z, ?_⟩)
  have hf : H1 s1.heap.objs.size = none := I1.hok.fresh (Nat.le_refl _)
  refine ⟨.ref s1.heap.objs.size, upd H1 s1.heap.objs.size (.tup xs), I1.laid (t' := s1.toks) (fun b u e => Heap.get?_push_of_some _ e) (Nat.le_refl _) ?_, rfl, q _ hf⟩
  exact ⟨z, us, r, ⟨_, Heap.get?_push_size _ rfl, rfl, _, rfl⟩⟩
theorem pe_lst (h : PA X es t) : PE X (.List es pos) (tLst t) := by
  intro pins s σ H Q I hq
  refine wpAny_List_spliced (thn (h pos pins s σ H _ I hq) fun us s1 ⟨xs, H1, I1, r, z, q⟩ => ⟨by rw [← r.length]; exact z, ?_⟩)
  have hf : H1 s1.heap.objs.size = none := I1.hok.fresh (Nat.le_refl _)
  refine ⟨.ref s1.heap.objs.size, upd H1 s1.heap.objs.size (.lst xs), I1.laid (t' := s1.toks) (fun b u e => Heap.get?_push_of_some _ e) (Nat.le_refl _) ?_, rfl, q _ hf⟩
  exact ⟨z, us, 0, r, Heap.get?_push_size _ rfl⟩
end

/-- a def's promise: the bound arguments in the parameters' order, the heap, the wanted end, the wanted exception -/
abbrev Sp := List V → Hp → VK → XK → Prop
/-- how an exception lies behind a call (file 08 gives it): the callers' frames, abstract heap and state ahead of the call, the wish, the exception, the state -/
abbrev CXT := List Env → Hp → Shared → XK → Value → Shared → Prop

/-- the state at a call -/
structure Env0 (P : Program) (w : World) (K : PySem.W.Frag) (mg : Str → Option Value) (base : Heap) (A : Around) (outer : List Env) (s : Shared) (H : Hp) : Prop where
  frames : A.frames = some outer
  mod : Mod K mg base
  bs : ∀ b o, base.get? b = some o → s.heap.get? b = some o ∧ H b = none
  bsz : base.objs.size ≤ s.heap.objs.size
  funs : s.heap.FunFrames base outer
  frf : ∀ b ∈ frs outer, H b = none
  hok : HOk P w H s.heap
  bare : AllBare s.gens
/-- a call's end -/
def CE (outer : List Env) (P : Program) (w : World) (H : Hp) (s : Shared) (Q : VK) (u : Value) (s' : Shared) : Prop :=
  ∃ v H', s'.os = s.os ∧ AllBare s'.gens ∧ Un (frs outer) [] H H' s.heap s'.heap ∧ HOk P w H' s'.heap ∧ RelV v u ∧ Q v H'
def CR (CX : CXT) (outer : List Env) (P : Program) (w : World) (H : Hp) (s : Shared) (Q : VK) (E : XK) (r : Result) (s' : Shared) : Prop :=
  match r with
  | .ok (.ret u) => CE outer P w H s Q u s'
  | .ok _ => False
  | .error e => CX outer H s E e s'
structure FnOk (P : Program) (w : World) (K : PySem.W.Frag) (mg : Str → Option Value) (base : Heap) (CX : CXT) (k : Nat) (f : Addr) (fd : FuncData) (ps : List Str) (sp : Sp) : Prop where
  len : ∀ vs H Q E, sp vs H Q E → vs.length = ps.length
  run : ∀ (A : Around) (outer : List Env) (s : Shared) (H : Hp) (args : Args) (us : List Value) (vs : List V) (Q : VK) (E : XK), Room k A → Env0 P w K mg base A outer s H → BindsTo s fd args (ps.zip us) → Vals vs us → sp vs H Q E →
    codeAny (model P w) A (.call (.ref f) args) (CR CX outer P w H s Q E) s
theorem FnOk.mono {P : Program} {w : World} {K : PySem.W.Frag} {mg : Str → Option Value} {base : Heap} {CX : CXT} {j k : Nat} {f : Addr} {fd : FuncData} {ps : List Str} {sp : Sp} (F : FnOk P w K mg base CX j f fd ps sp) (h : j ≤ k) :
    FnOk P w K mg base CX k f fd ps sp := ⟨F.len, fun A outer s H args us vs Q E hr => F.run A outer s H args us vs Q E (hr.mono h)⟩
/-- a weaker promise -/
theorem FnOk.imp {P : Program} {w : World} {K : PySem.W.Frag} {mg : Str → Option Value} {base : Heap} {CX : CXT} {k : Nat} {f : Addr} {fd : FuncData} {ps : List Str} {sp sp' : Sp} (F : FnOk P w K mg base CX k f fd ps sp)
    (h : ∀ vs H Q E, sp' vs H Q E → sp vs H Q E) : FnOk P w K mg base CX k f fd ps sp' :=
  ⟨fun vs H Q E q => F.len vs H Q E (h _ _ _ _ q), fun A outer s H args us vs Q E hr he hb hv hs => F.run A outer s H args us vs Q E hr he hb hv (h _ _ _ _ hs)⟩

theorem Env0.in1 {P : Program} {w : World} {K : PySem.W.Frag} {mg : Str → Option Value} {base : Heap} {A : Around} {outer : List Env} {s : Shared} {H : Hp} (e : Env0 P w K mg base A outer s H) :
    Env0 P w K mg base A.in1 outer s H := ⟨e.frames, e.mod, e.bs, e.bsz, e.funs, e.frf, e.hok, e.bare⟩

section
variable {X : Cx} {pins : List (Addr × Obj)} {σ : St} {H : Hp} {s s' : Shared}
/-- from a body: what a callee wants -/
theorem Inv.env0 (I : Inv X pins σ H s) : Env0 X.prog X.w X.K X.mg X.base X.A X.stack s H :=
  ⟨I.ok.frames, I.ok.mod, I.bs, Nat.le_trans I.ok.bsz I.sz, I.stack, I.stkFree, I.hok, I.bare⟩
/-- behind a call -/
theorem Inv.after {Q : VK} {u : Value} (I : Inv X pins σ H s) (h : CE X.stack X.prog X.w H s Q u s') : EP X pins σ Q u s' := by
  obtain ⟨v, H', os, bare, un, hok, r, q⟩ := h
  obtain ⟨hh, g, d, t, os'⟩ := s'
  obtain rfl : os' = s.os := os
  exact ⟨v, H', I.call (h' := hh) (g' := g) (d' := d) (t' := t) (ch := []) un hok bare (fun b z => absurd z (by simp)), r, q⟩
end

/-- f(..): the written arguments, then the defaults dvs; E: what is wanted of an exception -/
def tCall (sp : Sp) (dvs : List V) (E : XK) (t : TA) : TE := fun σ H Q => t σ H fun vs H1 => sp (vs ++ dvs) H1 Q E
/-- how the parameters are bound: us the positional arguments, kw the keywords' values by name, ds the defaults that fill up -/
def Binds (K : PySem.W.Frag) (fd : FuncData) (ps : List Str) (ds : List Value) : Prop :=
  ∀ (s : Shared) (us : List Value), K.In s.heap → (us ++ ds).length = ps.length → BindsTo s fd ⟨us, []⟩ (ps.zip (us ++ ds))
/-- every parameter is given -/
theorem Binds.all {K : PySem.W.Frag} {fd : FuncData} {ps : List Str} (h : ∀ us : List Value, us.length = ps.length → bindArgs fd ⟨us, []⟩ = pure (ps.zip us)) : Binds K fd ps [] := fun s us _ hl => by
  rw [List.append_nil] at hl ⊢
  exact .of_eq (h us hl)

/-- an exception of a callee reaches what this body wants of exceptions -/
def Passes (CX : CXT) (X : Cx) (E : XK) : Prop := ∀ (pins : List (Addr × Obj)) (σ : St) (H : Hp) (s : Shared) (e : Value) (s' : Shared), Inv X pins σ H s → CX X.stack H s E e s' → X.xe e s'

section
variable {X : Cx} {CX : CXT} {k : Nat} {f C : Addr} {fd : FuncData} {ps : List Str} {sp : Sp} {dvs : List V} {ds : List Value} {E : XK} {x m : Str} {p pos apos : Pos} {e o : Expr} {es : List Expr} {ta : TE} {t : TA}

/-- the callee runs -/
theorem run_fn {pins : List (Addr × Obj)} {σ : St} {H : Hp} {s : Shared} {Q : VK} {us : List Value} {vs : List V} (F : FnOk X.prog X.w X.K X.mg X.base CX k f fd ps sp) (hr : Room k X.A) (hb : Binds X.K fd ps ds) (hd : Vals dvs ds) (hx : Passes CX X E)
    (I : Inv X pins σ H s) (r : Vals vs us) (h : sp (vs ++ dvs) H Q E) : wpAny (model X.prog X.w) X.A (call (.ref f) us) (EP X pins σ Q) X.xe s := by
  have r2 : Vals (vs ++ dvs) (us ++ ds) := r.append hd
  have hl : (us ++ ds).length = ps.length := by rw [← r2.length]; exact F.len _ _ _ _ h
  refine wpAny_call (codeAny_mono (F.run X.A X.stack s H ⟨us, []⟩ (us ++ ds) (vs ++ dvs) Q E hr I.env0 (hb s us I.kIn hl) r2 h) fun r s' hq => ?_)
  cases r with
  | error e => exact hx pins σ H s e s' I hq
  | ok fl =>
    cases fl with
    | ret u => exact I.after hq
    | next => exact False.elim hq
    | brk => exact False.elim hq
    | cont => exact False.elim hq

theorem pe_call (F : FnOk X.prog X.w X.K X.mg X.base CX k f fd ps sp) (hr : Room k X.A) (hg : Gl X x) (hm : X.mg x = some (.ref f)) (hk : PySem.W.keepIn X.K (.ref f) = true) (hb : Binds X.K fd ps ds) (hd : Vals dvs ds) (hx : Passes CX X E)
    (ha : PA X (e :: es) t) (hdb : (x == ("__debug__" : Str)) = false := by decide) (he : starEach (e :: es) X.env = (false, eval e X.env) :: starEach es X.env := by rfl) (hpl : (backTo pos (starEach es X.env)).any (·.1) = false := by rfl) :
    PE X (.Call (.Name x p) (e :: es) [] pos) (tCall sp dvs E t) := by
  intro pins s σ H Q I h
  refine wpAny_Call_Name_kw (ld_glob I hg hm ?_ hdb)
  refine PySem.W.callWith_K (h₀ := X.base) I.ok.mod.kin hk (thn (ha pos pins s σ H _ I h) fun us s1 ⟨vs, H1, I1, r, q⟩ => ⟨I1.kIn, ?_⟩) he hpl
  exact run_fn F hr hb hd hx I1 r q
/-- what a class must have to be made -/
structure Mk (K : PySem.W.Frag) (C f : Addr) : Prop where
  makes : PySem.W.makesIn K C = true
  init : PySem.W.findIn K (.ref C) "__init__" = some (some (.ref f))
  fn : PySem.W.isFn K (.ref f) = true
  kp : PySem.W.keepIn K (.ref C) = true

end

section
variable {X : Cx} {CX : CXT} {k : Nat} {f C : Addr} {fd : FuncData} {ps ks : List Str} {sp : Sp} {E : XK} {x m : Str} {p pos apos kpos : Pos} {e o : Expr} {es : List Expr} {kws : List Keyword} {te ta : TE} {t tk : TA} {nm : Option Str}
/-- how a call with keywords binds: g puts the positional values us and the keywords' values ws (names ks) in the parameters' order, defaults among them -/
structure KBinds (K : PySem.W.Frag) (fd : FuncData) (ps ks : List Str) (g : List Value → List Value → List Value) (gV : List V → List V → List V) : Prop where
  to : ∀ (s : Shared) (us ws : List Value), K.In s.heap → (g us ws).length = ps.length → BindsTo s fd ⟨us, ks.zip ws⟩ (ps.zip (g us ws))
  rel : ∀ {vs : List V} {us : List Value} {zs : List V} {ws : List Value}, Vals vs us → Vals zs ws → Vals (gV vs zs) (g us ws)
variable {g : List Value → List Value → List Value} {gV : List V → List V → List V}
end

/-- names: the parameters first -/
structure FnScope (N P : List Str) (sc : Scope) : Prop where
  kind : sc.kind = .function
  co : sc.isCoroutine = false
  gen : sc.isGenerator = false
  nd : N.Nodup
  pre : N.take P.length = P
  par : ∀ x ∈ P, sc.names.lookup x = some .local ∨ sc.names.lookup x = some .cell
  nofree : ∀ y ∈ sc.names, y.2 ≠ .free

theorem bindL_out {kindOf : Str → Option NameKind} {x : Str} : ∀ {binds : List (Str × Value)} {m : Str → Option Value}, (∀ v, (x, v) ∉ binds) → bindL kindOf binds m x = m x
  | [], _, _ => rfl
  | (n, v) :: r, m, h => by
    unfold bindL
    rw [bindL_out fun w hw => h w (List.mem_cons_of_mem _ hw)]
    split
    · have : x ≠ n := by rintro rfl; exact h v List.mem_cons_self
      simp [this]
    · rfl
theorem bindC_out {kindOf : Str → Option NameKind} {x : Str} : ∀ {binds : List (Str × Value)} {m : Str → Option Value}, (∀ v, (x, v) ∉ binds) → bindC kindOf binds m x = m x
  | [], _, _ => rfl
  | (n, v) :: r, m, h => by
    unfold bindC
    rw [bindC_out fun w hw => h w (List.mem_cons_of_mem _ hw)]
    split
    · rfl
    · have : x ≠ n := by rintro rfl; exact h v List.mem_cons_self
      simp [this]
theorem bindL_get {kindOf : Str → Option NameKind} {x : Str} {v : Value} : ∀ {P : List Str} {vs : List Value} {i : Nat} {m : Str → Option Value}, P.Nodup → P[i]? = some x → vs[i]? = some v → kindOf x = some .local →
    bindL kindOf (P.zip vs) m x = some v
  | [], _, _, _, _, h, _, _ => by simp at h
  | _ :: _, [], _, _, _, _, h, _ => by simp at h
  | p :: P, w :: vs, 0, m, nd, h1, h2, hk => by
    simp at h1 h2; subst h1; subst h2
    show bindL kindOf ((p, w) :: P.zip vs) m p = _
    unfold bindL
    rw [bindL_out fun v hv => (List.nodup_cons.mp nd).1 (List.of_mem_zip hv).1, if_pos hk]
    simp
  | p :: P, w :: vs, i + 1, m, nd, h1, h2, hk => by
    show bindL kindOf ((p, w) :: P.zip vs) m x = _
    unfold bindL
    exact bindL_get (i := i) (List.nodup_cons.mp nd).2 (by simpa using h1) (by simpa using h2) hk
theorem bindC_get {kindOf : Str → Option NameKind} {x : Str} {v : Value} : ∀ {P : List Str} {vs : List Value} {i : Nat} {m : Str → Option Value}, P.Nodup → P[i]? = some x → vs[i]? = some v → kindOf x ≠ some .local →
    bindC kindOf (P.zip vs) m x = some v
  | [], _, _, _, _, h, _, _ => by simp at h
  | _ :: _, [], _, _, _, _, h, _ => by simp at h
  | p :: P, w :: vs, 0, m, nd, h1, h2, hk => by
    simp at h1 h2; subst h1; subst h2
    show bindC kindOf ((p, w) :: P.zip vs) m p = _
    unfold bindC
    rw [bindC_out fun v hv => (List.nodup_cons.mp nd).1 (List.of_mem_zip hv).1, if_neg hk]
    simp
  | p :: P, w :: vs, i + 1, m, nd, h1, h2, hk => by
    show bindC kindOf ((p, w) :: P.zip vs) m x = _
    unfold bindC
    exact bindC_get (i := i) (List.nodup_cons.mp nd).2 (by simpa using h1) (by simpa using h2) hk

/-- the names' values at the entry -/
def start (N : List Str) (vs : List V) : St := vs.map some ++ List.replicate (N.length - vs.length) none

/-- the context of a def's body, at its entry; an exception leaves the frame, then lies as CX says -/
def cxOf (CX : CXT) (P : Program) (w : World) (K : PySem.W.Frag) (mg : Str → Option Value) (base : Heap) (N : List Str) (qual : Str) (scope : Scope) (f : Addr) (cd : Value) (A : Around) (outer : List Env) (s : Shared) (H : Hp) (E : XK) : Cx where
  prog := P
  w := w
  K := K
  mg := mg
  base := base
  A := A.deeper (envOfC qual scope s.heap.objs.size f cd)
  N := N
  s₀ := s
  H₀ := H
  env := envOfC qual scope s.heap.objs.size f cd
  outer := outer
  stack := envOfC qual scope s.heap.objs.size f cd :: outer
  ex := []
  calm := true
  fn := fun _ => true
  pn := []
  xe := fun e s' => wpAny (model P w) (A.deeper (envOfC qual scope s.heap.objs.size f cd)) (leaving (envOfC qual scope s.heap.objs.size f cd) e) (fun _ s'' => CX outer H s E e s'') (fun e' s'' => CX outer H s E e' s'') s'

theorem cell_has {sc : Scope} {n : Nat} {x : Str} (h : sc.names.lookup x = some .cell) : ∃ c, (cellsFrom n sc.names []).lookup x = some c := by
  have q := PySem.W.cellsFrom_some sc.names n [] (.inl h)
  exact Option.isSome_iff_exists.mp q

theorem inv_start {CX : CXT} {P : Program} {w : World} {K : PySem.W.Frag} {mg : Str → Option Value} {base : Heap} {N ps : List Str} {qual : Str} {scope : Scope} {f : Addr} {cd : Value} {A : Around} {outer : List Env} {s s1 : Shared} {H : Hp} {E : XK} {us : List Value} {vs : List V}
    (S : FnScope N ps scope) (hd : A.handled = none) (e0 : Env0 P w K mg base A outer s H) (hl : vs.length = ps.length) (r : Vals vs us)
    (x : InCallC s s.heap.objs.size (bindL (envOfC qual scope s.heap.objs.size f cd).kindOf (ps.zip us) fun _ => none) (cellsFrom (s.heap.objs.size + 1) scope.names []) (bindC (envOfC qual scope s.heap.objs.size f cd).kindOf (ps.zip us) fun _ => none) s1) :
    Inv (cxOf CX P w K mg base N qual scope f cd A outer s H E) [] (start N vs) H s1 := by
  have hpl : ps.length ≤ N.length := by have := congrArg List.length S.pre; rw [List.length_take] at this; omega
  obtain ⟨h1, tk, rfl, hk⟩ := x.done
  have noA : ∀ b : Addr, b ∉ (cxOf CX P w K mg base N qual scope f cd A outer s H E).ex := fun b z => absurd (show b ∈ ([] : List Addr) from z) (by simp)
  refine ⟨⟨e0.mod, S.kind, rfl, rfl, Nat.le_refl _, fun y z c h1 h2 => ?_, fun y hy => ?_, fun y c _ h => ?_, fun _ => hd, Around.frames_deeper e0.frames, .inr ⟨rfl, rfl⟩, fun b z => absurd z (noA b), e0.bs, e0.bsz, fun b _ _ => noA b, fun b z => absurd z (noA b), e0.funs, e0.frf⟩,
    rfl, e0.bare, Un.kept hk, ⟨_, x.toInCall.ns, fun i y v h1 h2 h3 => ?_⟩, fun y c h => ⟨_, x.cell y c h⟩, e0.hok.fresh (Nat.le_refl _), fun y c h => ?_, fun p hp => absurd (show p ∈ ([] : List (Addr × Obj)) from hp) (by simp), e0.hok.kept hk, ?_⟩
  · exact name_of_addr x.apart (PySem.mem_of_lookup h1) (PySem.mem_of_lookup h2)
  · have hy : scope.names.lookup y = some .cell ∨ scope.names.lookup y = some .free := hy
    rcases hy with hy | hy
    · exact cell_has hy
    · exact absurd rfl (S.nofree _ (PySem.mem_of_lookup hy))
  · exact Nat.le_of_lt (x.above y c (PySem.mem_of_lookup h))
  · have hi : i < vs.length := by
      unfold start at h2
      by_cases hi : i < vs.length
      · exact hi
      · rw [List.getElem?_append_right (by simpa using hi)] at h2
        rw [List.getElem?_replicate] at h2
        split at h2 <;> cases h2
    have ha : vs[i]? = some v := by
      unfold start at h2
      rw [List.getElem?_append_left (by simpa using hi), List.getElem?_map] at h2
      cases e : vs[i]? with
      | none => rw [e] at h2; cases h2
      | some a => rw [e] at h2; cases h2; rfl
    obtain ⟨u, hu, rv⟩ := r.get ha
    have hp : ps[i]? = some y := by
      rw [← S.pre, List.getElem?_take_of_lt (by omega)]; exact h1
    have ndP : ps.Nodup := by rw [← S.pre]; exact S.nd.sublist (List.take_sublist _ _)
    refine ⟨u, rv, ?_⟩
    rcases S.par y (List.mem_of_getElem? hp) with k | k
    · exact .inl ⟨k, bindL_get ndP hp hu k⟩
    · obtain ⟨c, e⟩ := cell_has (n := s.heap.objs.size + 1) k
      refine .inr ⟨.inl k, c, e, ?_⟩
      have q := x.cell y c e
      rw [bindC_get ndP hp hu (by show scope.names.lookup y ≠ _; rw [k]; decide)] at q
      exact q
  · exact e0.hok.fresh (Nat.le_of_lt (x.above y c (PySem.mem_of_lookup h)))
  · unfold start
    show _ = N.length
    rw [List.length_append, List.length_map, List.length_replicate]
    omega

/-- THE RULE: a def (or a method) of the text, by its body. The body's reading t is chosen for each entry; it is run at the parameters' values -/
theorem fn_of {CX : CXT} {P : Program} {w : World} {K : PySem.W.Frag} {mg : Str → Option Value} {base : Heap} {k : Nat} {f : Addr} {name qual : Str} {params : Arguments} {body : List Stmt} {scope : Scope} {dV kV doc pm cdv ct oc : Value} {an od : Option Addr}
    {osl : Array (Option Value)} {N ps : List Str} {sp : Sp} (lk : K.lookup f = some ⟨oc, od, .func (PySem.W.fnOf name qual params body scope dV kV doc pm an cdv ct), osl⟩) (hcd : PySem.W.codeIn K cdv qual = true) (S : FnScope N ps scope)
    (len : ∀ vs H Q E, sp vs H Q E → vs.length = ps.length)
    (hbody : ∀ (A : Around) (outer : List Env) (s : Shared) (H : Hp) (vs : List V) (Q : VK) (E : XK), Room k (A.deeper (envOfC qual scope s.heap.objs.size f cdv)) → sp vs H Q E →
      ∃ t, PSs (cxOf CX P w K mg base N qual scope f cdv A outer s H E) body t ∧ t { nx := fun _ H' => Q .non H', rt := Q } (start N vs) H) :
    FnOk P w K mg base CX (k + 1) f (PySem.W.fnOf name qual params body scope dV kV doc pm an cdv ct) ps sp := by
  refine ⟨len, fun A outer s H args us vs Q E hr e0 hb r hsp => ?_⟩
  have hl := len _ _ _ _ hsp
  have KX : K.In s.heap := e0.mod.kin.keeps fun b o e => (e0.bs b o e).1
  have lim : s.heap.NoLimit := e0.mod.nolimit.keeps fun b o e => (e0.bs b o e).1
  have hkind : ∀ y ∈ ps.zip us, scope.names.lookup y.1 = some .local ∨ (scope.names.lookup y.1 = some .cell ∧ ((cellsFrom (s.heap.objs.size + 1) scope.names []).lookup y.1).isSome = true) := fun ⟨n, v⟩ hy => by
    rcases S.par n (List.of_mem_zip hy).1 with q | q
    · exact .inl q
    · exact .inr ⟨q, PySem.W.cellsFrom_some _ _ _ (.inl q)⟩
  refine codeAny_call_function hr.depth (KX _ _ lk) rfl S.co S.gen rfl (PySem.W.codeRec_of KX hcd) (hb _ _ _ _ ?_)
  refine wpAny_newFunctionEnv_cells S.kind hkind fun env he s1 x => ?_
  subst he
  refine ⟨lim.keeps x.toInCall.keep, codeAny_func ?_⟩
  obtain ⟨t, ht, hq⟩ := hbody A outer s H vs Q E (hr.deeper _) hsp
  have I : Inv (cxOf CX P w K mg base N qual scope f cdv A outer s H E) [] (start N vs) H s1 := inv_start S hr.hd e0 hl r x
  refine wpAny_mono (ht [] s1 (start N vs) H _ I hq) (fun fl s' hs => ?_) fun e s' hs => hs
  have fin : ∀ {σ' : St} {H' : Hp} {v : V} {u : Value}, Inv (cxOf CX P w K mg base N qual scope f cdv A outer s H E) [] σ' H' s' → RelV v u → Q v H' → CE outer P w H s Q u s' :=
    fun {σ' H' v u} J rv q => ⟨v, H', J.os, J.bare, J.base, J.hok, rv, q⟩
  cases fl with
  | ret u =>
    obtain ⟨v, σ', H', J, rv, q⟩ := hs
    exact fin J rv q
  | next =>
    obtain ⟨σ', H', J, q⟩ := hs
    exact fin (v := V.non) (u := Value.none) J rfl q
  | brk =>
    obtain ⟨_, _, _, q⟩ := hs
    exact False.elim q
  | cont =>
    obtain ⟨_, _, _, q⟩ := hs
    exact False.elim q
end L2

namespace L2
open PySem PySem.Spec PyProof.Rows
section
variable {X : Cx} {x : Str} {p pos : Pos} {e : Expr} {es : List Expr} {t : TA} {id T : String} {r : List V → Hp → VK → Prop}

def tCB (r : List V → Hp → VK → Prop) (t : TA) : TE := fun σ H Q => t σ H fun vs H1 => r vs H1 Q
/-- f(e, ..), f a built-in function -/
theorem pe_callB (hc : CallR X (.builtin id) r) (hg : Gl X x) (hm : X.mg x = none) (hv : bootBuiltins x = some (.builtin id)) (ha : PA X (e :: es) t) (hn : x ≠ "__name__" := by decide) (hdb : (x == ("__debug__" : Str)) = false := by decide)
    (he : starEach (e :: es) X.env = (false, eval e X.env) :: starEach es X.env := by rfl) (hpl : (backTo pos (starEach es X.env)).any (·.1) = false := by rfl) : PE X (.Call (.Name x p) (e :: es) [] pos) (tCB r t) := by
  intro pins s σ H Q I h
  refine wpAny_Call_Name_kw (ld_blt I hg hm hv ?_ hn hdb)
  exact PyProof.Rows.callWith_builtin1 (thn (ha pos pins s σ H _ I h) fun us s1 ⟨vs, H1, I1, r1, q1⟩ => hc pins s1 σ H1 vs us Q I1 r1 q1) he hpl
end
end L2

namespace HT
open PySem PyProof.Rows

section
open PySem.SeqAt
open PySem.AutoSeq1 (wpAny_loadPart')
open PySem.MeetsSeq PySem.MeetsSeq2 PySem.MeetsSeq3

end

section
variable {prog : Program} {w : World} {A : Around} {E : Value → Shared → Prop} {s : Shared}

/-- a slice's bound as a place among n (d where it is left out) -/
def sIx (n d : Nat) : Option Int → Nat
  | none => d
  | some v => if v < 0 then (v + (n : Int)).toNat else min v.toNat n
theorem sIx_nat (n d k : Nat) : sIx n d (some (k : Int)) = min k n := by
  show (if (k : Int) < 0 then ((k : Int) + (n : Int)).toNat else min (k : Int).toNat n) = min k n
  rw [if_neg (by omega), Int.toNat_natCast]
end
end HT

namespace L2
open PySem PySem.Spec PyProof.Rows

abbrev TO := St → Hp → (Option Int → Hp → Prop) → Prop
/-- a slice's part (left out, or an int) -/
def PO (X : Cx) (e : Option Expr) (t : TO) : Prop :=
  ∀ (pins : List (Addr × Obj)) (s : Shared) (σ : St) (H : Hp) (Q : Option Int → Hp → Prop), Inv X pins σ H s → t σ H Q →
    wpAny (model X.prog X.w) X.A (evalPart e X.env) (fun u s' => ∃ o H', Inv X pins σ H' s' ∧ IsPart u o ∧ Q o H') X.xe s
def tPart (t : TE) : TO := fun σ H Q => t σ H fun x H1 => ∃ i, x = .int i ∧ Q (some i) H1

theorem intsAre_of {ns : List Int} : ∀ {us : List Value}, Vals (ns.map V.int) us → IntsAre us ns := by
  induction ns with
  | nil => intro us r; rw [List.map_nil] at r; cases r; exact .nil
  | cons n ns ih =>
    intro us r
    rw [List.map_cons] at r
    cases r with
    | cons r1 r2 =>
      obtain ⟨t, e⟩ := r1
      subst e
      exact .cons n t (ih r2)

section
variable {X : Cx} {e : Expr} {te : TE} {lo hi : Option Expr} {tl th : TO} {pos p2 : Pos}

theorem po_some (h : PE X e te) : PO X (some e) (tPart te) := by
  intro pins s σ H Q I hw
  rw [evalPart_some]
  refine thn (h pins s σ H _ I hw) fun u s1 ⟨x, H1, I1, r1, q1⟩ => ?_
  obtain ⟨i, rfl, q⟩ := q1
  obtain ⟨t, rfl⟩ := r1
  exact ⟨some i, H1, I1, .int i t, q⟩

/-- what a slice of a value is, by values: the slice object stands at sl -/
def SlR (X : Cx) (r : V → Option Int → Option Int → Hp → VK → Prop) : Prop :=
  ∀ (pins : List (Addr × Obj)) (s : Shared) (σ : St) (H : Hp) (x : V) (v vl vu : Value) (lo hi : Option Int) (sl : Addr) (Q : VK), Inv X pins σ H s → RelV x v → s.heap.IsSliceOf sl vl vu .none → IsPart vl lo → IsPart vu hi → r x lo hi H Q →
    ∃ T id, typeLookup (.type T) "__getitem__" = pure (some (.builtin id)) ∧ s.TypeIs v T ∧ wpAny (model X.prog X.w) X.A (getItem v (.ref sl)) (EP X pins σ Q) X.xe s
theorem SlR.or {r r' : V → Option Int → Option Int → Hp → VK → Prop} (h : SlR X r) (h' : SlR X r') : SlR X (fun x lo hi H Q => r x lo hi H Q ∨ r' x lo hi H Q) := by
  intro pins s σ H x v vl vu lo hi sl Q I rx hs pl pu q
  rcases q with q | q
  · exact h pins s σ H x v vl vu lo hi sl Q I rx hs pl pu q
  · exact h' pins s σ H x v vl vu lo hi sl Q I rx hs pl pu q
def tSl (r : V → Option Int → Option Int → Hp → VK → Prop) (te : TE) (tl th : TO) : TE := fun σ H Q => te σ H fun x H1 => tl σ H1 fun l H2 => th σ H2 fun u H3 => r x l u H3 Q
/-- a[lo:hi], any a -/
theorem pe_slice {r : V → Option Int → Option Int → Hp → VK → Prop} (hr : SlR X r) (he : PE X e te) (hl : PO X lo tl) (hu : PO X hi th) : PE X (.Subscript e (.Slice lo hi none p2) pos) (tSl r te tl th) := by
  intro pins s σ H Q I h
  refine Subscript_ (thn (he pins s σ H _ I h) fun v s1 ⟨x, H1, I1, r1, q1⟩ => ?_)
  refine wpAny_Slice (thn (hl pins s1 σ H1 _ I1 q1) fun vl s2 ⟨l, H2, I2, pl, q2⟩ => thn (hu pins s2 σ H2 _ I2 q2) fun vu s3 ⟨u, H3, I3, pu, q3⟩ => ?_)
  rw [evalPart_none]
  refine wpAny_pure ?_
  have I4 : Inv X pins σ H3 { s3 with heap := s3.heap.push { cls := .type "slice", data := .fields #[vl, vu, .none] } } := I3.kept (t' := s3.toks) fun b ob q => Heap.get?_push_of_some _ q
  obtain ⟨T, id, hT, ht, hg⟩ := hr pins { s3 with heap := s3.heap.push { cls := .type "slice", data := .fields #[vl, vu, .none] } } σ H3 x v vl vu l u s3.heap.objs.size Q I4 r1 (Heap.IsSliceOf.new ..) pl pu q3
  show wpAny (model X.prog X.w) X.A (subscriptTail e (.Slice lo hi none p2) v (.ref s3.heap.objs.size)) (EP X pins σ Q) X.xe { s3 with heap := s3.heap.push { cls := .type "slice", data := .fields #[vl, vu, .none] } }
  exact tail_any (ops := [.ref s3.heap.objs.size, v]) ht hT hg (by with_unfolding_all rfl)

/-- the items of xs[lo:hi] -/
def cutV (xs : List V) (lo hi : Option Int) : List V := (xs.drop (HT.sIx xs.length 0 lo)).take (HT.sIx xs.length xs.length hi - HT.sIx xs.length 0 lo)
theorem cutV_length (xs : List V) (lo hi : Option Int) : (cutV xs lo hi).length ≤ xs.length := by
  unfold cutV
  rw [List.length_take, List.length_drop]
  omega
end
end L2

namespace L2
open PySem PySem.Spec PyProof.Rows

/-- the place that an index of any sign means -/
def ixN (n : Nat) (i : Int) : Option Nat := if 0 ≤ i then (if i < n then some i.toNat else none) else if -(n : Int) ≤ i then some (i + n).toNat else none
def atI {α : Type} (xs : List α) (i : Int) : Option α := (ixN xs.length i).bind fun j => xs[j]?
theorem ixN_seq {n : Nat} {i : Int} {j : Nat} (h : ixN n i = some j) : seqIndex? i n = some j ∧ j < n ∧ -(n : Int) ≤ i ∧ i < n := by
  unfold ixN at h
  by_cases h0 : 0 ≤ i
  · rw [if_pos h0] at h
    by_cases h1 : i < n
    · rw [if_pos h1] at h
      have e : i.toNat = j := Option.some.inj h
      exact ⟨by rw [seqIndex_of h0 h1, e], by omega, by omega, h1⟩
    · rw [if_neg h1] at h; cases h
  · rw [if_neg h0] at h
    by_cases h1 : -(n : Int) ≤ i
    · rw [if_pos h1] at h
      have e : (i + n).toNat = j := Option.some.inj h
      exact ⟨by rw [seqIndex_neg (by omega) h1, e], by omega, h1, by omega⟩
    · rw [if_neg h1] at h; cases h
theorem atI_get {α : Type} {xs : List α} {i : Int} {v : α} (h : atI xs i = some v) : ∃ j, seqIndex? i xs.length = some j ∧ xs[j]? = some v ∧ j < xs.length ∧ -(xs.length : Int) ≤ i ∧ i < xs.length := by
  unfold atI at h
  cases e : ixN xs.length i with
  | none => rw [e] at h; cases h
  | some j =>
    rw [e] at h
    obtain ⟨h1, h2, h3, h4⟩ := ixN_seq e
    exact ⟨j, h1, h, h2, h3, h4⟩
theorem atI_nat {α : Type} {xs : List α} {j : Nat} {v : α} (h : xs[j]? = some v) : atI xs (j : Int) = some v := by
  have hj : j < xs.length := (List.getElem?_eq_some_iff.mp h).1
  have e : ixN xs.length (j : Int) = some j := by
    unfold ixN
    rw [if_pos (by omega), if_pos (by omega)]; simp
  unfold atI; rw [e]; exact h
/-- what stands as an index of a plain subscript -/
def PlainIx (b : Expr) : Prop := ∀ o i, subscripted b false o i = operate [o, i] (getItem o i)
/-- a subscript by values -/
def IxR (X : Cx) (r : R2) : Prop :=
  ∀ (value slice : Expr) (pins : List (Addr × Obj)) (s : Shared) (σ : St) (H : Hp) (x y : V) (v u : Value) (Q : VK), Inv X pins σ H s → RelV x v → RelV y u → r x y H Q →
    subscripted slice false v u = operate [v, u] (getItem v u) → wpAny (model X.prog X.w) X.A (subscriptTail value slice v u) (EP X pins σ Q) X.xe s
/-- a call of a builtin's method by values: the receiver, the arguments -/
def MtR (X : Cx) (id : String) (r : V → List V → Hp → VK → Prop) : Prop :=
  ∀ (pins : List (Addr × Obj)) (s : Shared) (σ : St) (H : Hp) (x : V) (xs : List V) (v : Value) (us : List Value) (Q : VK), Inv X pins σ H s → RelV x v → Vals xs us → r x xs H Q →
    wpAny (model X.prog X.w) X.A (call (.builtin id) (v :: us)) (EP X pins σ Q) X.xe s
section
variable {X : Cx} {a b : Expr} {ta tb : TE} {pos : Pos}
theorem IxR.or {r r' : R2} (h : IxR X r) (h' : IxR X r') : IxR X (fun x y H Q => r x y H Q ∨ r' x y H Q) := by
  intro value slice pins s σ H x y v u Q I rx ry q hs
  rcases q with q | q
  · exact h value slice pins s σ H x y v u Q I rx ry q hs
  · exact h' value slice pins s σ H x y v u Q I rx ry q hs
theorem MtR.or {id : String} {r r' : V → List V → Hp → VK → Prop} (h : MtR X id r) (h' : MtR X id r') : MtR X id (fun x xs H Q => r x xs H Q ∨ r' x xs H Q) := by
  intro pins s σ H x xs v us Q I rx rs q
  rcases q with q | q
  · exact h pins s σ H x xs v us Q I rx rs q
  · exact h' pins s σ H x xs v us Q I rx rs q
/-- a[b] -/
theorem pe_ix {r : R2} (hr : IxR X r) (ha : PE X a ta) (hb : PE X b tb) (hs : PlainIx b) : PE X (.Subscript a b pos) (tOp r ta tb) := by
  intro pins s σ H Q I h
  exact Subscript_ (binT ha hb I h fun v u s2 x y H2 I2 rx ry q => hr a b pins s2 σ H2 x y v u Q I2 rx ry q (hs _ _))

def rIxL (K : PySem.W.Frag) : R2 := fun x y H Q => ∃ p xs i v, x = .ref p ∧ y = .int i ∧ SqL K H p xs ∧ atI xs i = some v ∧ Q v H
def rIxT (K : PySem.W.Frag) : R2 := fun x y H Q => ∃ p xs i v, x = .ref p ∧ y = .int i ∧ SqT K H p xs ∧ atI xs i = some v ∧ Q v H
theorem ix_list : IxR X (rIxL X.K) := by
  intro value slice pins s σ H x y v u Q I rx ry h hs
  obtain ⟨p, xs, i, z, rfl, rfl, hq, he, q⟩ := h
  cases rx
  obtain ⟨t, rfl⟩ := ry
  obtain ⟨its, r, pl, hz⟩ := I.list hq
  obtain ⟨j, h1, h2, h3, h4, h5⟩ := atI_get he
  obtain ⟨w, ew, rw'⟩ := r.get h2
  have hl := r.length
  have hn := line63
  have fin : EP X pins σ Q w s := ⟨z, H, I, rw', q⟩
  by_cases h0 : 0 ≤ i
  · have hj : i.toNat = j := by
      rw [seqIndex_of h0 h5] at h1
      exact Option.some.inj h1
    exact item_listR pl.isList h0 (by omega) (by rw [hj]; simpa using ew) fin hs
  · have hj : (i + (its.toArray.size : Int)).toNat = j := by
      rw [seqIndex_neg (by omega) h4] at h1
      rw [List.size_toArray, ← hl]
      exact Option.some.inj h1
    exact subscriptTail_builtinR (x := w) pl.isList.typeIs slot_list_getitem.lookup
      (wpAny_getItem_list_neg (Q := fun r s' => r = w ∧ EP X pins σ Q r s') pl.isList (by omega) (by rw [List.size_toArray] <;> omega) (by omega) (by rw [hj]; simpa using ew) ⟨rfl, fin⟩) hs
theorem ix_tup : IxR X (rIxT X.K) := by
  intro value slice pins s σ H x y v u Q I rx ry h hs
  obtain ⟨p, xs, i, z, rfl, rfl, hq, he, q⟩ := h
  cases rx
  obtain ⟨t, rfl⟩ := ry
  obtain ⟨its, r, pl, hz⟩ := I.tuple hq
  obtain ⟨j, h1, h2, h3, h4, h5⟩ := atI_get he
  obtain ⟨w, ew, rw'⟩ := r.get h2
  have hl := r.length
  have hn := line63
  have fin : EP X pins σ Q w s := ⟨z, H, I, rw', q⟩
  exact subscriptTail_builtinR (x := w) pl.typeIs slot_tuple_getitem.lookup
    (getItem_tuple (j := j) (Q := fun r s' => r = w ∧ EP X pins σ Q r s') pl (by omega) (by omega) (by rw [List.size_toArray, ← hl]; exact h1) (by simpa using ew) ⟨rfl, fin⟩) hs
theorem Inv.lst {pins : List (Addr × Obj)} {σ : St} {H : Hp} {s : Shared} {p : Addr} {xs : List V} (I : Inv X pins σ H s) (h : H p = some (.lst xs)) :
    ∃ (its : List Value) (n : Nat), Vals xs its ∧ s.heap.get? p = some { cls := .type "list", data := .seq its.toArray n } ∧ xs.length ≤ sizeLine := by
  obtain ⟨z, its, n, r, e⟩ := I.hok p _ h
  exact ⟨its, n, r, e, z⟩
theorem slice_bounds (lo hi : Option Int) (n : Nat) : (sliceBounds lo hi none n).1 = ((HT.sIx n 0 lo : Nat) : Int) ∧ (sliceBounds lo hi none n).2.1 = ((HT.sIx n n hi : Nat) : Int) ∧ (sliceBounds lo hi none n).2.2 = 1 := by
  refine ⟨?_, ?_, rfl⟩
  · cases lo with
    | none => simp [sliceBounds, HT.sIx]
    | some i =>
      simp only [sliceBounds, HT.sIx, Option.getD_none, show (1 : Int) > 0 by decide, if_true]
      by_cases h : i < 0
      · simp only [h, if_true] <;> omega
      · simp only [h, if_false] <;> omega
  · cases hi with
    | none => simp [sliceBounds, HT.sIx]
    | some i =>
      simp only [sliceBounds, HT.sIx, Option.getD_none, show (1 : Int) > 0 by decide, if_true]
      by_cases h : i < 0
      · simp only [h, if_true] <;> omega
      · simp only [h, if_false] <;> omega
theorem slicePick_cut (its : List Value) (lo hi : Option Int) : slicePick its.toArray lo hi none = ((its.drop (HT.sIx its.length 0 lo)).take (HT.sIx its.length its.length hi - HT.sIx its.length 0 lo)).toArray := by
  obtain ⟨h1, h2, h3⟩ := slice_bounds lo hi its.toArray.size
  unfold slicePick
  rw [h1, h2, h3]
  simp only [sliceRange_one, pick_run, List.size_toArray] <;> rfl
/-- xs[lo:hi] of a list: a new list -/
def rSlL (K : PySem.W.Frag) : V → Option Int → Option Int → Hp → VK → Prop := fun x lo hi H Q => ∃ a xs, x = .ref a ∧ SqL K H a xs ∧ ∀ p, H p = none → Q (.ref p) (upd H p (.lst (cutV xs lo hi)))
theorem sl_list : SlR X (rSlL X.K) := by
  intro pins s σ H x v vl vu lo hi sl Q I rx hs pl pu h
  obtain ⟨a, xs, rfl, hx, q⟩ := h
  cases rx
  obtain ⟨its, r, ht, hz⟩ := I.list hx
  have hlen := r.length
  refine ⟨"list", _, slot_list_getitem.lookup, ht.isList.typeIs, ?_⟩
  refine wpAny_getItem_list_slice ht.isList hs pl pu .none (by simp) ?_ (by rw [List.size_toArray] <;> omega)
  rw [slicePick_cut, ← hlen]
  refine ⟨.ref s.heap.objs.size, _, I.laid (t' := s.toks) (o := .lst (cutV xs lo hi)) (fun b ob q => Heap.get?_push_of_some _ q) (Nat.le_refl _) ?_, rfl, q _ (I.hok.fresh (Nat.le_refl _))⟩
  exact ⟨Nat.le_trans (cutV_length xs lo hi) hz, _, 0, (r.drop (HT.sIx xs.length 0 lo)).take (HT.sIx xs.length xs.length hi - HT.sIx xs.length 0 lo), Heap.get?_push_size _ rfl⟩

def flatV : V → Bool
  | .non => true
  | .bl _ => true
  | .int _ => true
  | .str _ => true
  | _ => false
/-- == of flat values -/
def eqV : V → V → Bool
  | .non, .non => true
  | .bl a, .bl b => a == b
  | .bl a, .int b => (if a then 1 else 0) == b
  | .int a, .bl b => a == (if b then 1 else 0)
  | .int a, .int b => a == b
  | .str a, .str b => a == b
  | _, _ => false
theorem eqAt_V {A : Around} {s : Shared} {y x : V} {u v : Value} (ry : RelV y u) (rx : RelV x v) (fy : flatV y = true) (fx : flatV x = true) : SeqAt.EqAt A s u v (eqV y x) := by
  cases y with
  | non =>
    cases ry
    cases x with
    | non => cases rx; exact SeqAt.EqAt.same _
    | bl b => cases rx; exact SeqAt.EqAt.none_bool b
    | int b => obtain ⟨t, rfl⟩ := rx; exact SeqAt.EqAt.none_int b t
    | str b => obtain ⟨t, rfl⟩ := rx; exact SeqAt.EqAt.none_str b t
    | _ => exact absurd (show false = true from fx) Bool.false_ne_true
  | bl a =>
    cases ry
    cases x with
    | non => cases rx; exact SeqAt.EqAt.bool_none a
    | bl b => cases rx; exact SeqAt.EqAt.bool_bool a b
    | int b => obtain ⟨t, rfl⟩ := rx; exact SeqAt.EqAt.bool_int a b t
    | str b => obtain ⟨t, rfl⟩ := rx; exact SeqAt.EqAt.bool_str a b t
    | _ => exact absurd (show false = true from fx) Bool.false_ne_true
  | int a =>
    obtain ⟨t', rfl⟩ := ry
    cases x with
    | non => cases rx; exact SeqAt.EqAt.int_none a t'
    | bl b => cases rx; exact SeqAt.EqAt.int_bool a t' b
    | int b => obtain ⟨t, rfl⟩ := rx; exact SeqAt.EqAt.int_int a t' b t
    | str b => obtain ⟨t, rfl⟩ := rx; exact SeqAt.EqAt.int_str a t' b t
    | _ => exact absurd (show false = true from fx) Bool.false_ne_true
  | str a =>
    obtain ⟨t', rfl⟩ := ry
    cases x with
    | non => cases rx; exact SeqAt.EqAt.str_none a t'
    | bl b => cases rx; exact SeqAt.EqAt.str_bool a t' b
    | int b => obtain ⟨t, rfl⟩ := rx; exact SeqAt.EqAt.str_int a t' b t
    | str b => obtain ⟨t, rfl⟩ := rx; exact SeqAt.EqAt.str_str a t' b t
    | _ => exact absurd (show false = true from fx) Bool.false_ne_true
  | _ => exact absurd (show false = true from fy) Bool.false_ne_true
/-- the items' answers, read off the values (a value's own answer does not lean on its token) -/
def eqU (x : V) (u : Value) : Bool := match u with
  | .none => eqV .non x
  | .bool b => eqV (.bl b) x
  | .int i _ => eqV (.int i) x
  | .str z _ => eqV (.str z) x
  | _ => false
theorem eqU_of {x y : V} {u : Value} (r : RelV y u) (f : flatV y = true) : eqU x u = eqV y x := by
  cases y with
  | non => cases r; rfl
  | bl b => cases r; rfl
  | int i => obtain ⟨t, rfl⟩ := r; rfl
  | str z => obtain ⟨t, rfl⟩ := r; rfl
  | _ => exact absurd (show false = true from f) Bool.false_ne_true
theorem any_eqU {x : V} : ∀ {xs : List V} {us : List Value}, Vals xs us → xs.all flatV = true → us.any (eqU x) = xs.any fun y => eqV y x
  | _, _, .nil, _ => rfl
  | y :: xs, u :: us, .cons r t, f => by
    rw [List.all_cons, Bool.and_eq_true] at f
    rw [List.any_cons, List.any_cons, eqU_of r f.1, any_eqU t f.2]
theorem mem_eqAt {A : Around} {s : Shared} {x : V} {v : Value} (rx : RelV x v) (fx : flatV x = true) : ∀ {xs : List V} {us : List Value}, Vals xs us → xs.all flatV = true → ∀ u ∈ us, SeqAt.EqAt A s u v (eqU x u)
  | _, _, .nil, _ => fun u hu => by cases hu
  | y :: xs, u :: us, .cons r t, f => fun u' hu => by
    rw [List.all_cons, Bool.and_eq_true] at f
    rcases List.mem_cons.mp hu with rfl | hu
    · rw [eqU_of r f.1]; exact eqAt_V r rx f.1 fx
    · exact mem_eqAt rx fx t f.2 u' hu
def inV (x : V) (xs : List V) : Bool := xs.any fun y => eqV y x
/-- x in a list or tuple of flat items -/
def rIn (K : PySem.W.Frag) (neg : Bool) : R2 := fun x y H Q => ∃ p xs, y = .ref p ∧ (SqL K H p xs ∨ SqT K H p xs) ∧ flatV x = true ∧ xs.all flatV = true ∧ Q (.bl (if neg then !inV x xs else inV x xs)) H
theorem op_notIn_seq : OpR X (compareOp .NotIn) (rIn X.K true) := by
  intro pins s σ H x y v u Q I rx ry h
  obtain ⟨p, xs, rfl, hq, fx, fs, q⟩ := h
  cases ry
  rcases hq with hq | hq
  · obtain ⟨its, r, pl, hz⟩ := I.list hq
    refine SeqAt.notIn_listAt (eqU x) pl.isList (fun w hw => mem_eqAt rx fx r fs w (by simpa using hw)) ⟨.bl _, H, I, rfl, ?_⟩
    rw [show its.toArray.any (eqU x) = its.any (eqU x) by simp, any_eqU r fs]
    exact q
  · obtain ⟨its, r, pl, hz⟩ := I.tuple hq
    refine SeqAt.notIn_tupleAt (eqU x) pl (fun w hw => mem_eqAt rx fx r fs w (by simpa using hw)) ⟨.bl _, H, I, rfl, ?_⟩
    rw [show its.toArray.any (eqU x) = its.any (eqU x) by simp, any_eqU r fs]
    exact q
theorem call_len_seq : CallR X (.builtin "len") (fun xs H Q => ∃ p ys, xs = [.ref p] ∧ (SqL X.K H p ys ∨ SqT X.K H p ys) ∧ Q (.int ys.length) H) := by
  intro pins s σ H xs us Q I r h
  obtain ⟨p, ys, rfl, hq, q⟩ := h
  obtain ⟨u, rfl, rx⟩ := vals1 r
  cases rx
  have hn := line63
  rcases hq with hq | hq
  · obtain ⟨its, r', pl, hz⟩ := I.list hq
    have hlen := r'.length
    exact Calls.call_len_list pl.isList (by simp only [List.size_toArray] <;> omega) ⟨.int ys.length, H, I.tok _, ⟨s.toks + 1, by rw [List.size_toArray, hlen]⟩, q⟩
  · obtain ⟨its, r', pl, hz⟩ := I.tuple hq
    have hlen := r'.length
    exact len_tuple pl (by simp only [List.size_toArray] <;> omega) ⟨.int ys.length, H, I.tok _, ⟨s.toks + 1, by rw [List.size_toArray, hlen]⟩, q⟩
theorem CallR.or {f : Value} {r r' : List V → Hp → VK → Prop} (h : CallR X f r) (h' : CallR X f r') : CallR X f (fun xs H Q => r xs H Q ∨ r' xs H Q) := by
  intro pins s σ H xs us Q I rs q
  rcases q with q | q
  · exact h pins s σ H xs us Q I rs q
  · exact h' pins s σ H xs us Q I rs q
/-- the value is of that builtin type -/
def tyV (K : PySem.W.Frag) (T : String) (x : V) (H : Hp) : Prop := match x with
  | .str _ => T = "str"
  | .int _ => T = "int"
  | .ref p => (T = "list" ∧ ∃ xs, SqL K H p xs) ∨ (T = "tuple" ∧ ∃ o, K.lookup p = some o ∧ o.cls = .type "tuple" ∧ o.dict = none) ∨
      (T = "dict" ∧ ((∃ kvs, H p = some (.dK kvs)) ∨ ∃ kvs, H p = some (.dT kvs))) ∨ (T = "set" ∧ ∃ S n, H p = some (.set S n))
  | _ => False
theorem tyV_is {pins : List (Addr × Obj)} {σ : St} {H : Hp} {s : Shared} {T : String} {x : V} {v : Value} (I : Inv X pins σ H s) (r : RelV x v) (ty : tyV X.K T x H) :
    s.TypeIs v T ∧ ∀ a, v = .ref a → ∃ ob, s.heap.get? a = some ob ∧ ob.dict = none := by
  cases x with
  | str z =>
    obtain ⟨t, rfl⟩ := r
    cases (show T = "str" from ty)
    exact ⟨typeIs_str s z t, fun _ e => nomatch e⟩
  | int i =>
    obtain ⟨t, rfl⟩ := r
    cases (show T = "int" from ty)
    exact ⟨typeIs_int s i t, fun _ e => nomatch e⟩
  | ref p =>
    cases r
    rcases ty with ⟨rfl, xs, hq⟩ | ⟨rfl, o, hk, hc, hd⟩ | ⟨rfl, hk⟩ | ⟨rfl, S, n, hk⟩
    · obtain ⟨its, _, pl, _⟩ := I.list hq
      refine ⟨pl.isList.typeIs, fun a e => ?_⟩
      cases e
      obtain ⟨o, n, e, c, hd, _⟩ := pl
      exact ⟨o, e, hd⟩
    · refine ⟨⟨o, I.kIn p o hk, hc⟩, fun a e => ?_⟩
      cases e
      exact ⟨o, I.kIn _ o hk, hd⟩
    · have z : ∃ o, s.heap.get? p = some o ∧ o.ExactDict := by
        rcases hk with ⟨kvs, hk⟩ | ⟨kvs, hk⟩
        · obtain ⟨_, _, _, _, o, _, _, e, ex, _⟩ := I.hok p _ hk
          exact ⟨o, e, ex⟩
        · obtain ⟨_, _, _, _, o, _, _, e, ex, _⟩ := I.hok p _ hk
          exact ⟨o, e, ex⟩
      obtain ⟨o, e, ex⟩ := z
      refine ⟨⟨o, e, ex.1⟩, fun a e2 => ?_⟩
      cases e2
      exact ⟨o, e, ex.2.1⟩
    · obtain ⟨o, _, _, _, e, ex, _⟩ := I.hok p _ hk
      refine ⟨⟨o, e, ex.1⟩, fun a e2 => ?_⟩
      cases e2
      exact ⟨o, e, ex.2.1⟩
  | _ => exact False.elim ty
def tBM0 (K : PySem.W.Frag) (T : String) (r : V → List V → Hp → VK → Prop) (to : TE) : TE := fun σ H Q => to σ H fun x H1 => tyV K T x H1 ∧ r x [] H1 Q
def tBM (K : PySem.W.Frag) (T : String) (r : V → List V → Hp → VK → Prop) (to : TE) (t : TA) : TE := fun σ H Q => to σ H fun x H1 => tyV K T x H1 ∧ t σ H1 fun xs H2 => r x xs H2 Q
variable {o e : Expr} {es : List Expr} {to : TE} {t : TA} {name : Str} {apos cpos : Pos} {T id : String} {r : V → List V → Hp → VK → Prop}
theorem pe_bm0 (pa : PlainAttrs T) (slot : Slot T name id) (hty : typeOf (.builtin id) = pure (.type "method_descriptor")) (hm : MtR X id r) (ho : PE X o to)
    (hbase : attributeBase o name X.env (eval o X.env) = eval o X.env := by rfl) (hline : (apos.endLine == cpos.line) = true := by rfl) : PE X (.Call (.Attribute o name apos) [] [] cpos) (tBM0 X.K T r to) := by
  intro pins s σ H Q I h
  refine wpAny_Call_method0_late hbase hline (thn (ho pins s σ H _ I h) fun v s1 ⟨x, H1, I1, r1, ty, q1⟩ => ?_)
  obtain ⟨h1, h2⟩ := tyV_is I1 r1 ty
  exact ⟨T, id, pa, slot, hty, h1, h2, Calls.callWith_builtin rfl (PySem.evalArgs_none (hm pins s1 σ H1 x [] v [] Q I1 r1 .nil q1))⟩
theorem pe_bm (pa : PlainAttrs T) (slot : Slot T name id) (hty : typeOf (.builtin id) = pure (.type "method_descriptor")) (hm : MtR X id r) (ho : PE X o to) (ha : PA X (e :: es) t)
    (hbase : attributeBase o name X.env (eval o X.env) = eval o X.env := by rfl)
    (hfew : ((backTo cpos (starEach (e :: es) X.env)).all (fun x => !x.1) && (backToKw cpos (keywordEach [] X.env)).all (fun x => x.1.isSome)
      && decide ((e :: es).length + ([] : List Keyword).length + (if ([] : List Keyword).isEmpty then 0 else 1) < 30)) = true := by rfl)
    (hline : (apos.endLine == cpos.line) = true := by rfl) (hs : starEach (e :: es) X.env = (false, eval e X.env) :: starEach es X.env := by rfl) (hplain : (backTo cpos (starEach es X.env)).any (·.1) = false := by rfl) :
    PE X (.Call (.Attribute o name apos) (e :: es) [] cpos) (tBM X.K T r to t) := by
  intro pins s σ H Q I h
  refine wpAny_Call_method_late hbase hfew hline rfl (thn (ho pins s σ H _ I h) fun v s1 ⟨x, H1, I1, r1, ty, q1⟩ => ?_)
  obtain ⟨h1, h2⟩ := tyV_is I1 r1 ty
  refine ⟨T, id, pa, slot, hty, h1, h2, ?_⟩
  have hA := ha cpos pins s1 σ H1 _ I1 q1
  rw [hs] at hA ⊢
  refine Calls.callWith_builtin (by show (false || (backTo cpos (starEach es X.env)).any (·.1)) = false; rw [hplain] <;> rfl) (Calls.evalArgs_plain ?_)
  exact thn hA fun us s2 ⟨vs, H2, I2, r2, q2⟩ => hm pins s2 σ H2 x vs v us Q I2 r1 r2 q2
end
end L2

namespace L2
open PySem PySem.Spec PyProof.Rows

def MtM (X : Cx) (id : String) (r : V → List V → Hp → VK → Prop) : Prop :=
  ∀ (pins : List (Addr × Obj)) (s : Shared) (σ : St) (H : Hp) (x : V) (xs : List V) (v : Value) (us : List Value) (Q : VK), Inv X pins σ H s → RelV x v → Vals xs us → r x xs H Q →
    wpAny (model X.prog X.w) X.A (call (.builtin id) (v :: us)) (EP X pins σ Q) X.xe s

theorem Vals.one : ∀ {x : V} {us : List Value}, Vals [x] us → ∃ u, us = [u] ∧ RelV x u
  | _, _, .cons r .nil => ⟨_, rfl, r⟩
theorem Vals.two : ∀ {x y : V} {us : List Value}, Vals [x, y] us → ∃ u v, us = [u, v] ∧ RelV x u ∧ RelV y v
  | _, _, _, .cons r (.cons q .nil) => ⟨_, _, rfl, r, q⟩
theorem Vals.zero : ∀ {us : List Value}, Vals [] us → us = []
  | _, .nil => rfl
theorem Vals.dropLast {xs : List V} {us : List Value} (h : Vals xs us) : Vals xs.dropLast us.dropLast := by
  induction h with
  | nil => exact .nil
  | cons r t ih =>
    cases t with
    | nil => exact .nil
    | cons q t' => exact .cons r ih
theorem Vals.reverse {xs : List V} {us : List Value} (h : Vals xs us) : Vals xs.reverse us.reverse := by
  induction h with
  | nil => exact .nil
  | cons r t ih => rw [List.reverse_cons, List.reverse_cons]; exact Vals.append ih (.cons r .nil)
section
variable {X : Cx} {pins : List (Addr × Obj)} {σ : St} {H : Hp} {s : Shared} {l b : Addr} {xs ys zs : List V}

theorem Inv.lset {its its' : List Value} {n : Nat} {f : Array Value → Array Value} {t' : Nat} (I : Inv X pins σ H s) (hH : H l = some (.lst xs))
    (e : s.heap.get? l = some { cls := .type "list", data := .seq its.toArray n }) (hf : f its.toArray = its'.toArray) (hv : Vals ys its') (hz : ys.length ≤ sizeLine) :
    Inv X pins σ (upd H l (.lst ys)) { s with heap := s.heap.update l (Obj.mapSeq f), toks := t' } := by
  have q := PySem.IsL.update e f
  rw [hf] at q
  refine I.write (x := l) (e := l) (by rw [hH]; exact trivial) (.inl rfl) (fun b' u hb hu => (Heap.get?_update_other s.heap (Obj.mapSeq f) (Ne.symm hb)).trans hu) ⟨_, q⟩ ?_
  exact ⟨hz, its', _, hv, q⟩
theorem Inv.lnew {its : List Value} {t' : Nat} (I : Inv X pins σ H s) (hv : Vals ys its) (hz : ys.length ≤ sizeLine) :
    Inv X pins σ (upd H s.heap.objs.size (.lst ys)) { s with heap := s.heap.push { cls := .type "list", data := .seq its.toArray }, toks := t' } :=
  I.laid (fun _ _ q => Heap.get?_push_of_some _ q) (Nat.le_refl _) ⟨hz, its, 0, hv, Heap.get?_push_size _ rfl⟩
theorem Inv.fresh (I : Inv X pins σ H s) : H s.heap.objs.size = none := I.hok.fresh (Nat.le_refl _)
theorem Inv.lstM (I : Inv X pins σ H s) (hH : H l = some (.lst xs)) : xs.length ≤ sizeLine ∧ ∃ (its : List Value) (n : Nat), Vals xs its ∧ xs.length = its.length ∧ s.heap.get? l = some { cls := .type "list", data := .seq its.toArray n } := by
  obtain ⟨z, its, n, r, e⟩ := I.hok l _ hH
  exact ⟨z, its, n, r, r.length, e⟩

end

section
variable {X : Cx}

def rAppend : V → List V → Hp → VK → Prop := fun x vs H Q => ∃ l xs y, x = .ref l ∧ vs = [y] ∧ H l = some (.lst xs) ∧ xs.length < sizeLine ∧ Q .non (upd H l (.lst (xs ++ [y])))
theorem mt_append : MtM X "list.append" rAppend := by
  intro pins s σ H x vs v us Q I rx rv h
  obtain ⟨l, xs, y, rfl, rfl, hH, hz, q⟩ := h
  cases rx
  obtain ⟨u, rfl, ru⟩ := rv.one
  obtain ⟨z, its, n, r, hl, e⟩ := I.lstM hH
  refine call_meets F.slot_list_append ⟨_, e, rfl⟩ F.entry_list_append (F.args_list_append_2 _ _) (PySem.list_append l its.toArray n u (by rw [List.size_toArray]; omega)) ⟨e, ?_⟩
  refine ⟨.non, _, I.lset (its' := its ++ [u]) hH e (by simp) (r.append (.cons ru .nil)) ?_, rfl, q⟩
  rw [List.length_append, List.length_singleton]
  omega

def rReverse : V → List V → Hp → VK → Prop := fun x vs H Q => ∃ l xs, x = .ref l ∧ vs = [] ∧ H l = some (.lst xs) ∧ Q .non (upd H l (.lst xs.reverse))
theorem mt_reverse : MtM X "list.reverse" rReverse := by
  intro pins s σ H x vs v us Q I rx rv h
  obtain ⟨l, xs, rfl, rfl, hH, q⟩ := h
  cases rx
  have hus := rv.zero
  subst hus
  obtain ⟨z, its, n, r, hl, e⟩ := I.lstM hH
  refine call_meets F.slot_list_reverse ⟨_, e, rfl⟩ F.entry_list_reverse (F.args_list_reverse_1 _) (AutoSeq1.list_reverse_list_0 l its.toArray n (by rw [List.size_toArray]; omega)) ⟨e, ?_⟩
  refine ⟨.non, _, I.lset (its' := its.reverse) hH e (by simp) r.reverse ?_, rfl, q⟩
  rw [List.length_reverse]
  omega

def rCat : R2 := fun x y H Q => ∃ l b xs zs, x = .ref l ∧ y = .ref b ∧ H l = some (.lst xs) ∧ H b = some (.lst zs) ∧ xs.length + zs.length ≤ sizeLine ∧ ∀ p, H p = none → Q (.ref p) (upd H p (.lst (xs ++ zs)))
theorem op_cat : OpR X (binaryOp .Add) rCat := by
  intro pins s σ H x y v u Q I rx ry h
  obtain ⟨l, b, xs, zs, rfl, rfl, hH, hB, hz, q⟩ := h
  cases rx
  cases ry
  obtain ⟨z, its, n, r, hl, e⟩ := I.lstM hH
  obtain ⟨z2, its2, n2, r2, hl2, e2⟩ := I.lstM hB
  refine PySem.P.add_list e e2 ?_ (by rw [List.size_toArray, List.size_toArray]; omega)
  have ea : its.toArray ++ its2.toArray = (its ++ its2).toArray := by simp
  rw [ea]
  exact ⟨.ref _, _, I.lnew (t' := s.toks) (r.append r2) (by rw [List.length_append]; omega), rfl, q _ I.fresh⟩
end

section
variable {prog : Program} {w : World} {A : Around} {E : Value → Shared → Prop} {s : Shared}
set_option maxRecDepth 100000 in
end

section
variable {X : Cx}
end
end L2

namespace L2
open PySem PySem.Spec PyProof.Rows

theorem Vals.ints : ∀ {ns : List Int} {us : List Value}, Vals (ns.map V.int) us → IntsAre us ns
  | [], us, h => by
    rw [List.map_nil] at h
    cases h
    exact IntsAre.nil
  | n :: ns, us, h => by
    rw [List.map_cons] at h
    cases h with
    | cons r t =>
      obtain ⟨k, rfl⟩ := r
      exact IntsAre.cons n k (Vals.ints t)
theorem Vals.strs : ∀ {xs : List Str} {us : List Value}, Vals (xs.map V.str) us → StrsAre us xs
  | [], us, h => by
    rw [List.map_nil] at h
    cases h
    exact StrsAre.nil
  | x :: xs, us, h => by
    rw [List.map_cons] at h
    cases h with
    | cons r t =>
      obtain ⟨k, rfl⟩ := r
      exact StrsAre.cons x k (Vals.strs t)
section
variable {prog : Program} {w : World} {A : Around} {E : Value → Shared → Prop} {s : Shared} {l : Addr} {its : List Value} {ns : List Int} {Q : Value → Shared → Prop}
end

section
variable {X : Cx}
end

section
variable {X : Cx}
end

section
variable {X : Cx}
end

section
variable {X : Cx}
end

mutual
inductive Dp (K : PySem.W.Frag) (H : Hp) : V → PyData → Prop
  | non : Dp K H .non .none
  | bl (b : Bool) : Dp K H (.bl b) (.bool b)
  | int (i : Int) : Dp K H (.int i) (.int i)
  | str (x : Str) : Dp K H (.str x) (.str x)
  | lst {a : Addr} {xs : List V} {ds : List PyData} : SqL K H a xs → DpAll K H xs ds → Dp K H (.ref a) (.list ds)
  | tup {a : Addr} {xs : List V} {ds : List PyData} : SqT K H a xs → DpAll K H xs ds → Dp K H (.ref a) (.tuple ds)
inductive DpAll (K : PySem.W.Frag) (H : Hp) : List V → List PyData → Prop
  | nil : DpAll K H [] []
  | cons {v : V} {vs : List V} {d : PyData} {ds : List PyData} : Dp K H v d → DpAll K H vs ds → DpAll K H (v :: vs) (d :: ds)
end
section
variable {X : Cx} {pins : List (Addr × Obj)} {σ : St} {H : Hp} {s : Shared}
end
section
variable {X : Cx}
end
end L2

namespace L2
open PySem PySem.Spec PyProof.Rows
/-- the names of a comprehension's block: its own (with their places in N), or captured -/
structure BlkOk (N : List Str) (sc scope : Scope) (own : List (Str × Nat)) : Prop where
  kind : scope.kind = .function
  uniq : ∀ y ∈ scope.names, scope.names.lookup y.1 = some y.2
  ix : ∀ p ∈ own, N[p.2]? = some p.1
  free : ∀ y ∈ scope.names, y.2 = .free → sc.names.lookup y.1 = some .cell ∨ sc.names.lookup y.1 = some .free
  own : ∀ y ∈ scope.names, y.2 = .local ∨ y.2 = .cell → y.1 ∈ own.map (·.1) ∨ y.1 ∉ N
section
variable {X : Cx} {pins : List (Addr × Obj)} {σ : St} {H : Hp} {s : Shared}
end

section
variable {X : Cx}
end

end L2

namespace L2
open PySem PySem.Spec PyProof.Rows

section
variable {prog : Program} {w : World} {A : Around} {R : Result → Shared → Prop} {s : Shared} {elt t0 i0 t1 i1 : Expr} {ifs0 ifs1 : List Expr} {scope : Scope} {pos : Pos} {it acc : Value} {env : Env}
end

section
variable {X : Cx}
end
end L2

namespace L2
open PySem PySem.Spec PyProof.Rows

section
variable {κ : Type} [DecidableEq κ]
def valV (kvs : List (κ × V)) (k : κ) : Option V := (kvs.find? fun kv => decide (kv.1 = k)).map (·.2)
/-- in its place, or at the end -/
def putK (kvs : List (κ × V)) (k : κ) (v : V) : List (κ × V) :=
  if (kvs.any fun kv => decide (kv.1 = k)) = true then kvs.map (fun kv => if kv.1 = k then (kv.1, v) else kv) else kvs ++ [(k, v)]
def dropK (kvs : List (κ × V)) (k : κ) : List (κ × V) := kvs.filter fun kv => decide (kv.1 ≠ k)

theorem valV_pos {p : κ × V} {r : List (κ × V)} {k : κ} (e : p.1 = k) : valV (p :: r) k = some p.2 := by simp [valV, List.find?_cons, e]
theorem valV_neg {p : κ × V} {r : List (κ × V)} {k : κ} (e : ¬ p.1 = k) : valV (p :: r) k = valV r k := by simp [valV, List.find?_cons, e]
theorem valV_any (k : κ) : ∀ kvs : List (κ × V), (kvs.any fun kv => decide (kv.1 = k)) = (valV kvs k).isSome
  | [] => rfl
  | p :: r => by
    rw [List.any_cons]
    by_cases e : p.1 = k
    · simp only [valV_pos e, decide_eq_true e, Bool.true_or, Option.isSome_some]
    · rw [valV_neg e, decide_eq_false e, Bool.false_or]; exact valV_any k r
theorem length_putK (kvs : List (κ × V)) (k : κ) (v : V) : (putK kvs k v).length ≤ kvs.length + 1 := by
  unfold putK
  split
  · rw [List.length_map]; omega
  · rw [List.length_append, List.length_cons, List.length_nil]; omega
theorem putK_new {kvs : List (κ × V)} {k : κ} (v : V) (h : valV kvs k = none) : putK kvs k v = kvs ++ [(k, v)] := by
  unfold putK
  rw [valV_any, h]
  exact if_neg (by decide)

theorem RelO.isSome_eq {o : Option V} {u : Option Value} (r : RelO o u) : o.isSome = u.isSome := by
  cases o with
  | none => cases u with
    | none => rfl
    | some _ => exact (show False from r).elim
  | some _ => cases u with
    | none => exact (show False from r).elim
    | some _ => rfl
theorem RelO.getD {o : Option V} {u : Option Value} {d : V} {d' : Value} (r : RelO o u) (rd : RelV d d') : RelV (o.getD d) (u.getD d') := by
  cases o with
  | none => cases u with
    | none => exact rd
    | some _ => exact (show False from r).elim
  | some _ => cases u with
    | none => exact (show False from r).elim
    | some _ => exact r

/-- raw tables of the same keys -/
theorem KV.val {kvs : List (κ × V)} {vs : List (κ × Value)} (r : KV kvs vs) (k : κ) : RelO (valV kvs k) (valueAt vs k) := by
  unfold KV at r
  induction r with
  | nil => exact True.intro
  | @cons p q ps qs h t ih =>
    obtain ⟨h1, h2⟩ := h
    by_cases e : p.1 = k
    · have e' : q.1 = k := h1.symm.trans e
      have b : valueAt (q :: qs) k = some q.2 := by simp [valueAt, List.find?_cons, e']
      rw [valV_pos e, b]; exact h2
    · have e' : ¬ q.1 = k := fun z => e (h1.trans z)
      have b : valueAt (q :: qs) k = valueAt qs k := by simp [valueAt, List.find?_cons, e']
      rw [valV_neg e, b]; exact ih
theorem KV.any {kvs : List (κ × V)} {vs : List (κ × Value)} (r : KV kvs vs) (k : κ) : (kvs.any fun kv => decide (kv.1 = k)) = vs.any fun kv => decide (kv.1 = k) := by
  unfold KV at r
  induction r with
  | nil => rfl
  | cons h t ih => rw [List.any_cons, List.any_cons, ih, h.1]
theorem KV.repl {kvs : List (κ × V)} {vs : List (κ × Value)} (r : KV kvs vs) (k : κ) {y : V} {u : Value} (ry : RelV y u) :
    KV (kvs.map fun kv => if kv.1 = k then (kv.1, y) else kv) (vs.map fun kv => if kv.1 = k then (kv.1, u) else kv) := by
  unfold KV at r ⊢
  induction r with
  | nil => exact .nil
  | @cons p q ps qs h t ih =>
    rw [List.map_cons, List.map_cons]
    refine .cons ?_ ih
    obtain ⟨h1, h2⟩ := h
    by_cases e : p.1 = k
    · rw [if_pos e, if_pos (h1.symm.trans e)]; exact ⟨h1, ry⟩
    · rw [if_neg e, if_neg (fun z => e (h1.trans z))]; exact ⟨h1, h2⟩
theorem KV.put {kvs : List (κ × V)} {vs : List (κ × Value)} (r : KV kvs vs) (k : κ) {y : V} {u : Value} (ry : RelV y u) : KV (putK kvs k y) (stored vs k u) := by
  unfold putK stored
  rw [r.any k]
  by_cases e : (vs.any fun kv => decide (kv.1 = k)) = true
  · rw [if_pos e, if_pos e]; exact r.repl k ry
  · rw [if_neg e, if_neg e]; exact Paired.snoc r ⟨rfl, ry⟩
theorem KV.drop {kvs : List (κ × V)} {vs : List (κ × Value)} (r : KV kvs vs) (k : κ) : KV (dropK kvs k) (without vs k) := by
  unfold KV at r ⊢
  unfold dropK without
  induction r with
  | nil => exact .nil
  | @cons p q ps qs h t ih =>
    obtain ⟨h1, h2⟩ := h
    rw [List.filter_cons, List.filter_cons]
    by_cases e : p.1 = k
    · have a : ¬ decide (p.1 ≠ k) = true := by simp [e]
      have b : ¬ decide (q.1 ≠ k) = true := by simp [h1.symm.trans e]
      rw [if_neg a, if_neg b]; exact ih
    · have e' : ¬ q.1 = k := fun z => e (h1.trans z)
      have a : decide (p.1 ≠ k) = true := by simp [e]
      have b : decide (q.1 ≠ k) = true := by simp [e']
      rw [if_pos a, if_pos b]; exact .cons ⟨h1, h2⟩ ih
theorem KV.keys {kvs : List (κ × V)} {vs : List (κ × Value)} (r : KV kvs vs) : kvs.map (·.1) = vs.map (·.1) := by
  unfold KV at r
  induction r with
  | nil => rfl
  | cons h t ih => rw [List.map_cons, List.map_cons, ih, h.1]
theorem KV.length {kvs : List (κ × V)} {vs : List (κ × Value)} (r : KV kvs vs) : kvs.length = vs.length := Paired.length r
end


theorem kV_is {P : Program} {w : World} {k : Key} {u : Value} (r : RelV (kV k) u) : (mixKind P w).is k u = true := by
  cases k with
  | inl i => obtain ⟨t, e⟩ := (show ∃ t, u = Value.int i t from r); subst e; exact mixKind_int P w i t
  | inr x => obtain ⟨t, e⟩ := (show ∃ t, u = Value.str x t from r); subst e; exact mixKind_str P w x t
theorem items_are {P : Program} {w : World} : ∀ {ks : List Key} {us : List Value}, Vals (ks.map kV) us → ItemsAre (mixKind P w) ks us
  | [], _, r => by rw [List.map_nil] at r; cases r; exact .nil
  | k :: ks, _, r => by
    rw [List.map_cons] at r
    cases r with
    | cons h t => exact .cons (kV_is h) (items_are t)

/-- raw entries of a dict with tuple keys -/
abbrev KT (H : Hp) : List (List Key × V) → List (List Key × Addr × Value) → Prop := Paired fun p q => p.1 = q.1 ∧ H q.2.1 = some (.tup (p.1.map kV)) ∧ RelV p.2 q.2.2
theorem KT.val {H : Hp} {kvs : List (List Key × V)} {xs : List (List Key × Addr × Value)} (r : KT H kvs xs) (k : List Key) : RelO (valV kvs k) ((atKey xs k).map (·.2)) := by
  induction r with
  | nil => exact True.intro
  | @cons p q ps qs h t ih =>
    obtain ⟨h1, _, h2⟩ := h
    by_cases e : p.1 = k
    · have e' : q.1 = k := h1.symm.trans e
      have b : atKey (q :: qs) k = some q.2 := by simp [atKey, List.find?_cons, e']
      rw [valV_pos e, b]; exact h2
    · have e' : ¬ q.1 = k := fun z => e (h1.trans z)
      have b : atKey (q :: qs) k = atKey qs k := by simp [atKey, List.find?_cons, e']
      rw [valV_neg e, b]; exact ih
theorem KT.repl {H : Hp} {kvs : List (List Key × V)} {xs : List (List Key × Addr × Value)} (r : KT H kvs xs) (k : List Key) {y : V} {u : Value} (ry : RelV y u) :
    KT H (kvs.map fun kv => if kv.1 = k then (kv.1, y) else kv) (xs.map (putAt k u)) := by
  induction r with
  | nil => exact .nil
  | @cons p q ps qs h t ih =>
    rw [List.map_cons, List.map_cons]
    refine .cons ?_ ih
    obtain ⟨h1, h2, h3⟩ := h
    unfold putAt
    by_cases e : p.1 = k
    · rw [if_pos e, if_pos (h1.symm.trans e)]; exact ⟨h1, h2, ry⟩
    · rw [if_neg e, if_neg (fun z => e (h1.trans z))]; exact ⟨h1, h2, h3⟩
theorem KT.put {H : Hp} {kvs : List (List Key × V)} {xs : List (List Key × Addr × Value)} (r : KT H kvs xs) (k : List Key) {b : Addr} {y : V} {u : Value} (hb : H b = some (.tup (k.map kV))) (ry : RelV y u) :
    KT H (putK kvs k y) (storedH xs k b u) := by
  have e : (kvs.any fun kv => decide (kv.1 = k)) = (atKey xs k).isSome := by
    rw [valV_any, (r.val k).isSome_eq, Option.isSome_map]
  unfold putK storedH
  rw [e]
  by_cases q : (atKey xs k).isSome = true
  · rw [if_pos q, if_pos q]; exact r.repl k ry
  · rw [if_neg q, if_neg q]; exact Paired.snoc r ⟨rfl, hb, ry⟩
theorem KT.keeps {H H' : Hp} {kvs : List (List Key × V)} {xs : List (List Key × Addr × Value)} (r : KT H kvs xs) (ht : ∀ b ys, H b = some (.tup ys) → H' b = some (.tup ys)) : KT H' kvs xs :=
  Paired.mapP r fun _ _ z => ⟨z.1, ht _ _ z.2.1, z.2.2⟩

section
variable {P : Program} {w : World} {H : Hp} {h : Heap} {a : Addr}
theorem rd_of {u : HO} (ok : HOk P w H h) (e : Rd H a u) : ObjOk P w H h a u := e.ok ok
theorem dk_rd {kvs : List (Key × V)} (ok : HOk P w H h) (e : Rd H a (.dK kvs)) : kvs.length ≤ sizeLine ∧ (a == sysModules) = false ∧ ∃ vs, KV kvs vs ∧ h.DictOf (mixKind P w) a vs :=
  show ObjOk P w H h a (.dK kvs) from rd_of ok e
theorem dk_of {kvs : List (Key × V)} (ok : HOk P w H h) (e : H a = some (.dK kvs)) : kvs.length ≤ sizeLine ∧ (a == sysModules) = false ∧ ∃ vs, KV kvs vs ∧ h.DictOf (mixKind P w) a vs := dk_rd ok (.inl e)
/-- a tracked tuple of ints and texts is a key -/
theorem key_of {ks : List Key} (ok : HOk P w H h) (e : H a = some (.tup (ks.map kV))) : (tupleKind (mixKind P w)).is h ks a := by
  obtain ⟨_, its, r, o, h1, h2, n, h3⟩ := (show ObjOk P w H h a (.tup (ks.map kV)) from ok a _ e)
  exact ⟨o, its.toArray, n, h1, h2, h3, by simpa using items_are r⟩
theorem dt_rd {kvs : List (List Key × V)} (ok : HOk P w H h) (e : Rd H a (.dT kvs)) : kvs.length ≤ sizeLine ∧ (a == sysModules) = false ∧
    ∃ xs, KT H kvs xs ∧ h.DictOfH (tupleKind (mixKind P w)) a xs := by
  obtain ⟨z, y, xs, r, o, es, ep, h1, h2, h3, h4, h5⟩ := (show ObjOk P w H h a (.dT kvs) from rd_of ok e)
  refine ⟨z, y, xs, r, o, es, ep, h1, h2, h3, h4, fun x hx => ?_, h5⟩
  have all : ∀ {l : List (List Key × V)} {m : List (List Key × Addr × Value)}, KT H l m → ∀ x ∈ m, (tupleKind (mixKind P w)).is h x.1 x.2.1 := by
    intro l m q
    induction q with
    | nil => intro x hx; exact nomatch hx
    | @cons p q ps qs hq t ih =>
      intro x hx
      rcases List.mem_cons.mp hx with e | hx
      · subst e
        exact key_of ok (by rw [← hq.1]; exact hq.2.1)
      · exact ih x hx
  exact all r x hx
theorem dt_of {kvs : List (List Key × V)} (ok : HOk P w H h) (e : H a = some (.dT kvs)) : kvs.length ≤ sizeLine ∧ (a == sysModules) = false ∧
    ∃ xs, KT H kvs xs ∧ h.DictOfH (tupleKind (mixKind P w)) a xs := dt_rd ok (.inl e)
end

/-- what the dict at a holds at the key y -/
def DGet (H : Hp) (a : Addr) (y : V) (r : Option V) : Prop :=
  (∃ kvs k, Rd H a (.dK kvs) ∧ y = kV k ∧ r = valV kvs k) ∨ ∃ kvs k b, Rd H a (.dT kvs) ∧ y = .ref b ∧ H b = some (.tup (k.map kV)) ∧ r = valV kvs k
/-- the heap behind a[y] = v -/
def DPut (H : Hp) (a : Addr) (y v : V) (H' : Hp) : Prop :=
  (∃ kvs k, H a = some (.dK kvs) ∧ y = kV k ∧ kvs.length < sizeLine ∧ H' = upd H a (.dK (putK kvs k v))) ∨
  ∃ kvs k b, H a = some (.dT kvs) ∧ y = .ref b ∧ H b = some (.tup (k.map kV)) ∧ kvs.length < sizeLine ∧ H' = upd H a (.dT (putK kvs k v))
theorem DGet.k {H : Hp} {a : Addr} {kvs : List (Key × V)} {k : Key} (e : H a = some (.dK kvs)) : DGet H a (kV k) (valV kvs k) := .inl ⟨kvs, k, .inl e, rfl, rfl⟩
theorem DGet.t {H : Hp} {a b : Addr} {kvs : List (List Key × V)} {k : List Key} (e : H a = some (.dT kvs)) (eb : H b = some (.tup (k.map kV))) : DGet H a (.ref b) (valV kvs k) := .inr ⟨kvs, k, b, .inl e, rfl, eb, rfl⟩
theorem DPut.k {H : Hp} {a : Addr} {kvs : List (Key × V)} {k : Key} {v : V} (e : H a = some (.dK kvs)) (hl : kvs.length < sizeLine) : DPut H a (kV k) v (upd H a (.dK (putK kvs k v))) := .inl ⟨kvs, k, e, rfl, hl, rfl⟩
theorem DPut.t {H : Hp} {a b : Addr} {kvs : List (List Key × V)} {k : List Key} {v : V} (e : H a = some (.dT kvs)) (eb : H b = some (.tup (k.map kV))) (hl : kvs.length < sizeLine) :
    DPut H a (.ref b) v (upd H a (.dT (putK kvs k v))) := .inr ⟨kvs, k, b, e, rfl, eb, hl, rfl⟩


section
variable {X : Cx} {pins : List (Addr × Obj)} {σ : St} {H : Hp} {s : Shared} {a : Addr} {y v : V} {u r : Value} {o : Option V} {A : Around} {E : Value → Shared → Prop}

theorem Inv.big (I : Inv X pins σ H s) : sysModules < s.heap.objs.size := by
  have h : mainGlobals < s.heap.objs.size := (I.mod.glob.keeps I.bk).lt
  exact Nat.lt_trans (by decide) h

theorem d_notIn {Q : Value → Shared → Prop} (hu : A.units + 1 < cLine) (I : Inv X pins σ H s) (g : DGet H a y o) (ry : RelV y u) (h : ∀ s', Inv X pins σ H s' → Q (.bool (!o.isSome)) s') :
    wpAny (model X.prog X.w) A (compareOp .NotIn u (.ref a)) Q E s := by
  rcases g with ⟨kvs, k, e, ey, l⟩ | ⟨kvs, k, b, e, ey, eb, l⟩
  · subst ey
    obtain ⟨z, hd, vs, rel, dd⟩ := dk_rd I.hok e
    refine wpAny_notIn_of (kV_is ry) hd dd.mapOf ?_
    rw [← (rel.val k).isSome_eq, ← l]
    exact h _ (I.tok _)
  · subst ey
    cases (show u = Value.ref b from ry)
    obtain ⟨z, hd, xs, rel, dd⟩ := dt_rd I.hok e
    refine wpAny_notIn_heap (tupleKind_room_in1 hu) (key_of I.hok eb) hd dd ?_
    have q := (rel.val k).isSome_eq
    rw [Option.isSome_map] at q
    rw [← q, ← l]
    exact h _ (I.tok _)
/-- a dict's object is replaced -/
theorem d_write {h' : Heap} {t' : Nat} {ob : HO} (I : Inv X pins σ H s) (mu : Mut (H a)) (hs : Heap.SameBut a s.heap h') (he : ∃ q, h'.get? a = some q) (new : ObjOk X.prog X.w (upd H a ob) h' a ob) :
    Inv X pins σ (upd H a ob) { s with heap := h', toks := t' } :=
  I.write (x := a) (e := a) mu (.inl rfl) (fun b q hb z => (hs.2 b hb).trans z) he new
theorem dk_new {P : Program} {w : World} {H' : Hp} {h' : Heap} {kvs : List (Key × V)} {vs : List (Key × Value)} (z : kvs.length ≤ sizeLine) (hd : (a == sysModules) = false) (rel : KV kvs vs) (dd : h'.DictOf (mixKind P w) a vs) :
    ObjOk P w H' h' a (.dK kvs) := ⟨z, hd, vs, rel, dd⟩
/-- d[y] = v -/
theorem d_setItem {H' : Hp} {Q : Unit → Shared → Prop} (hu : A.units + 1 < cLine) (I : Inv X pins σ H s) (g : DPut H a y v H') (ry : RelV y u) (rv : RelV v r) (h : ∀ s', Inv X pins σ H' s' → Q () s') :
    wpAny (model X.prog X.w) A (setItem (.ref a) u r) Q E s := by
  rcases g with ⟨kvs, k, e, ey, l, eH⟩ | ⟨kvs, k, b, e, ey, eb, l, eH⟩
  · subst ey eH
    obtain ⟨z, hd, vs, rel, dd⟩ := dk_of I.hok e
    have hz : vs.length ≤ sizeLine := by rw [← rel.length]; exact z
    have hl : (putK kvs k v).length ≤ sizeLine := by have := length_putK kvs k v; omega
    refine wpAny_setItem_pairs (hsz := hz) (kV_is ry) dd fun h' dd' hs => h _ ?_
    have he : ∃ q, h'.get? a = some q := let ⟨q, _, _, hq, _⟩ := dd'; ⟨q, hq⟩
    exact d_write I (by rw [e]; exact True.intro) hs he (dk_new hl hd (rel.put k rv) dd')
  · subst ey eH
    cases (show u = Value.ref b from ry)
    obtain ⟨z, hd, xs, rel, dd⟩ := dt_of I.hok e
    have hz : xs.length ≤ sizeLine := by rw [← Paired.length rel]; exact z
    have hl : (putK kvs k v).length ≤ sizeLine := by have := length_putK kvs k v; omega
    refine wpAny_setItem_heap (hsz := hz) (tupleKind_room_in1 hu) (key_of I.hok eb) dd fun h' dd' hs => h _ ?_
    obtain ⟨q, es, ep, hq, h2, h3, h4, _, h5⟩ := dd'
    refine d_write I (by rw [e]; exact True.intro) hs ⟨q, hq⟩ ⟨hl, hd, _, (rel.put k eb rv).keeps fun c ys ec => ?_, q, es, ep, hq, h2, h3, h4, h5⟩
    rw [upd_ne (ne_of ec e (fun z => nomatch z))]
    exact ec
end

section
variable {X : Cx} {pins : List (Addr × Obj)} {σ : St} {H : Hp} {s : Shared} {a : Addr} {kvs : List (Key × V)} {k : Key} {u : Value} {A : Around} {E : Value → Shared → Prop}
end


def tDNotIn (ty td : TE) : TE := fun σ H Q => ty σ H fun y H1 => td σ H1 fun x H2 => ∃ a o, x = .ref a ∧ DGet H2 a y o ∧ Q (.bl (!o.isSome)) H2
/-- d[y] = v -/
def sDPut (td ty tv : TE) : TS := fun D σ H => tv σ H fun v H1 => td σ H1 fun x H2 => ty σ H2 fun y H3 => ∃ a H4, x = .ref a ∧ DPut H3 a y v H4 ∧ D.nx σ H4
section
variable {X : Cx} {o i e value : Expr} {pos pos' tpos : Pos} {td ty tv : TE}
theorem pc_dnotin (hu : X.A.units + 1 < cLine) (hi : PE X i ty) (ho : PE X o td) : PC X .NotIn i o (tDNotIn ty td) := by
  intro pins s σ H Q I h
  refine thn (hi pins s σ H _ I h) fun iv s1 ⟨y, H1, I1, ry, q1⟩ => thn (ho pins s1 σ H1 _ I1 q1) fun u s2 ⟨x, H2, I2, rx, a, ov, ex, g, q2⟩ => ?_
  subst ex
  obtain rfl : u = Value.ref a := rx
  exact d_notIn hu I2 g ry fun s3 I3 => ⟨.bl (!ov.isSome), H2, I3, rfl, q2⟩
theorem ps_dput (hu : X.A.units + 1 < cLine) (ho : PE X o td) (hi : PE X i ty) (hv : PE X value tv) (hs : swapsWith value (some (.Subscript o i pos')) pos.line X.env = pure false) :
    PS X (.Assign [.Subscript o i pos'] value pos) (sDPut td ty tv) := by
  intro pins s σ H D I h
  refine wpAny_Assign_Subscript (thn (hv pins s σ H _ I h) fun r s1 ⟨v, H1, I1, rv, q1⟩ => thn (ho pins s1 σ H1 _ I1 q1) fun u s2 ⟨x, H2, I2, rx, q2⟩ => thn (hi pins s2 σ H2 _ I2 q2) fun iv s3 ⟨y, H3, I3, ry, a, H4, ex, g, q3⟩ => ?_) hs
  subst ex
  obtain rfl : u = Value.ref a := rx
  exact d_setItem hu I3 g ry rv fun s4 I4 => ⟨σ, H4, I4, q3⟩
end


theorem dt_empty {P : Program} {w : World} {H : Hp} (h : Heap) (hb : sysModules < h.objs.size) : ObjOk P w H (h.push { cls := .type "dict", data := .dict #[] }) h.objs.size (.dT []) :=
  ⟨Nat.zero_le _, beq_eq_false_iff_ne.mpr (Ne.symm (Nat.ne_of_lt hb)), [], .nil, _, #[], 0, Heap.get?_push_size _ rfl, ⟨rfl, rfl, rfl⟩, rfl, rfl, List.nodup_nil⟩
section
variable {X : Cx} {pos : Pos}
end

/-- a method call o.m(e) of a built-in, with one argument: what must be seen of the text -/
structure M1 (X : Cx) (o : Expr) (m : Str) (apos : Pos) (e : Expr) (cpos : Pos) : Prop where
  base : attributeBase o m X.env (eval o X.env) = eval o X.env
  few : ((backTo cpos (starEach [e] X.env)).all (fun x => !x.1) && (backToKw cpos (keywordEach [] X.env)).all (fun x => x.1.isSome)
    && decide (([e] : List Expr).length + ([] : List Keyword).length + (if ([] : List Keyword).isEmpty then 0 else 1) < 30)) = true
  line : (apos.endLine == cpos.line) = true
  trees : backTo cpos (starEach [e] X.env) = [(false, eval e X.env)]
structure M2 (X : Cx) (o : Expr) (m : Str) (apos : Pos) (e f : Expr) (cpos : Pos) : Prop where
  base : attributeBase o m X.env (eval o X.env) = eval o X.env
  few : ((backTo cpos (starEach [e, f] X.env)).all (fun x => !x.1) && (backToKw cpos (keywordEach [] X.env)).all (fun x => x.1.isSome)
    && decide (([e, f] : List Expr).length + ([] : List Keyword).length + (if ([] : List Keyword).isEmpty then 0 else 1) < 30)) = true
  line : (apos.endLine == cpos.line) = true
  trees : backTo cpos (starEach [e, f] X.env) = [(false, eval e X.env), (false, eval f X.env)]

section
variable {X : Cx} {pins : List (Addr × Obj)} {σ : St} {H : Hp} {s : Shared} {a : Addr} {y d : V} {u r : Value} {o : Option V} {A : Around} {E : Value → Shared → Prop}
end

section
variable {X : Cx} {o e f : Expr} {apos cpos : Pos} {td ty tx : TE}
end

section
variable {X : Cx} {pins : List (Addr × Obj)} {σ : St} {H : Hp} {s : Shared} {a : Addr} {kvs : List (Key × V)} {A : Around} {E : Value → Shared → Prop}
end


section
variable {X : Cx} {pins : List (Addr × Obj)} {σ : St} {H : Hp} {s : Shared} {a : Addr} {y : V} {u : Value} {A : Around} {E : Value → Shared → Prop}
end
end L2

namespace L2
open PySem PySem.Spec PyProof.Rows

section
variable {prog : Program} {w : World} {A : Around} {E : Value → Shared → Prop}
end

section
variable {X : Cx}
end
end L2

namespace L2
open PySem PySem.Spec PyProof.Rows

section
variable {X : Cx} {pins : List (Addr × Obj)} {σ : St} {H : Hp} {s : Shared} {h' : Heap}
end
section
variable {X : Cx}
end

/-- range(i, j, c): small bounds, n items -/
def RgC (i j c : Int) (n : Nat) : Prop := c ≠ 0 ∧ c.natAbs < 1073741824 ∧ Builtin.Range.small i j c = true ∧ Builtin.Range.rangeSize i j c = n
theorem RgC.neg {i j : Int} (ha : -(2 ^ 62) ≤ i) (ha' : i < 2 ^ 62) (hb : -(2 ^ 62) ≤ j) (hb' : j < 2 ^ 62) : RgC i j (-1) (i - j).toNat :=
  ⟨by decide, by decide, PySem.W.small_down ha ha' hb hb', PySem.W.rangeSize_downNat i j⟩
section
variable {X : Cx} {tg : Expr}
end
section
variable {X : Cx} {tg : Expr}
end

section
variable {prog : Program} {w : World} {A : Around} {E : Value → Shared → Prop} {s : Shared}
end

section
variable {X : Cx} {pins : List (Addr × Obj)} {σ : St} {H : Hp} {s : Shared} {d : Addr} {o : Obj}
end

section
variable {P : Program} {w : World} {K : PySem.W.Frag} {tg : Expr} {d : Addr} {o : Obj} {es : Array DictEntry} {ep : Nat}
end

section
variable {X : Cx} {tg e : Expr} {td : TE} {apos cpos : Pos}
end

theorem boot_zip5 : bootBuiltins "zip" = some (.type "zip") := by decide +kernel
end L2

section 
namespace Bits
open PySem PyProof.Rows

end Bits
end 

section 
namespace TL
open PySem PySem.Builtin PySem.Builtin.Str PySem.StrLaws

abbrev tl (x : Str) : List Nat := x.cps.toList
/-- S stands at the head of l -/
def pre (S l : List Nat) : Bool := l.take S.length == S
/-- what stands before the first S, and behind it -/
def par (S : List Nat) : List Nat → List Nat → Option (List Nat × List Nat)
  | _, [] => none
  | acc, c :: r => if pre S (c :: r) = true then some (acc, (c :: r).drop S.length) else par S (acc ++ [c]) r

end TL
end 

namespace L2
open PySem PySem.Spec PyProof.Rows

section
variable {X : Cx} {pins : List (Addr × Obj)} {σ : St} {H : Hp} {s : Shared} {Q : VK}
end

section
variable {X : Cx}

end

section
variable {X : Cx} {o e : Expr} {to te : TE}
end
end L2

namespace L2
open PySem PySem.Spec PyProof.Rows

section
variable {X : Cx}
end

theorem IsPart.raw {v : Value} {o : Option Int} (p : IsPart v o) : ∃ l : Option (Int × Tok), v = partValue l ∧ l.map (·.1) = o := by
  cases p with
  | none => exact ⟨none, rfl, rfl⟩
  | int i t => exact ⟨some (i, t), rfl, rfl⟩

end L2

namespace Att
open PySem PySem.W PySem.Calls PyProof.Rows

theorem ints_of_wellAll {P : Params} {h : Heap} : ∀ (ns : List Int) (vs : List Value), WellAll P h vs (ns.map WData.int) → IntsAre vs ns := by
  intro ns
  induction ns with
  | nil =>
    intro vs w
    rw [List.map_nil] at w
    cases w
    exact .nil
  | cons n ns ih =>
    intro vs w
    rw [List.map_cons] at w
    cases w with
    | cons a b =>
      cases a
      exact .cons _ _ (ih _ b)

section
variable {prog : Program} {w : World} {A : Around} {E : Value → Shared → Prop} {s : Shared} {K : Frag}

end
end Att

namespace L2
open PySem PySem.Spec PyProof.Rows

theorem vals_ints : ∀ {vs : List Value} {ns : List Int}, IntsAre vs ns → Vals (ns.map V.int) vs
  | _, _, .nil => .nil
  | _, _, .cons n t h => .cons ⟨t, rfl⟩ (vals_ints h)

end L2

namespace L2
open PySem PySem.Spec PyProof.Rows

end L2

namespace L2
open PySem PySem.Spec PyProof.Rows

def defArgs (s : Stmt) : Arguments := match s with
  | .FunctionDef _ a _ _ _ _ _ _ _ _ => a
  | _ => { posonlyargs := [], args := [], vararg := none, kwonlyargs := [], kw_defaults := [], kwarg := none, defaults := [] }
def defBody (s : Stmt) : List Stmt := match s with
  | .FunctionDef _ _ b _ _ _ _ _ _ _ => b
  | _ => []
def defScope (s : Stmt) : Scope := match s with
  | .FunctionDef _ _ _ _ _ _ sc _ _ _ => sc
  | _ => { kind := .function, names := [], isGenerator := false, isCoroutine := false }

abbrev CX0 : CXT := fun _ _ _ _ _ _ => False
abbrev E0 : XK := fun _ _ _ => False
theorem pass0 {X : Cx} : Passes CX0 X E0 := fun _ _ _ _ _ _ _ h => h.elim

structure Fun (K : PySem.W.Frag) (x qual : Str) (st : Stmt) (f : Addr) (fd : FuncData) : Prop where
  ex : ∃ (oc : Value) (od : Option Addr) (kV doc pm : Value) (an : Option Addr) (cdv ct : Value) (osl : Array (Option Value)),
    fd = PySem.W.fnOf x qual (defArgs st) (defBody st) (defScope st) .none kV doc pm an cdv ct ∧ K.lookup f = some ⟨oc, od, .func fd, osl⟩ ∧ PySem.W.codeIn K cdv qual = true
  kp : PySem.W.keepIn K (.ref f) = true
section
variable {P : Program} {w : World} {K : PySem.W.Frag} {mg : Str → Option Value} {base : Heap}
/-- THE RULE for a def: its body as a term of rules, and the reading of that term -/
theorem Fun.ok {x qual : Str} {st : Stmt} {f : Addr} {fd : FuncData} {N ps : List Str} {k : Nat} {sp : Sp} (F : Fun K x qual st f fd) (S : FnScope N ps (defScope st)) (len : ∀ vs H Q E, sp vs H Q E → vs.length = ps.length)
    (hbody : ∀ (cdv : Value) (A : Around) (outer : List Env) (s : Shared) (H : Hp) (vs : List V) (Q : VK) (E : XK), Room k (A.deeper (envOfC qual (defScope st) s.heap.objs.size f cdv)) → sp vs H Q E →
      ∃ t, PSs (cxOf CX0 P w K mg base N qual (defScope st) f cdv A outer s H E).nox (defBody st) t ∧ t { nx := fun _ H' => Q .non H', rt := Q } (start N vs) H) : FnOk P w K mg base CX0 (k + 1) f fd ps sp := by
  obtain ⟨oc, od, kV, doc, pm, an, cdv, ct, osl, rfl, lk, hcd⟩ := F.ex
  refine fn_of lk hcd S len fun A outer s H vs Q E hr hsp => ?_
  obtain ⟨t, h, q⟩ := hbody cdv A outer s H vs Q E hr hsp
  exact ⟨t, h.nox, q⟩
/-- how its arguments bind (no defaults): h is «fun _ _ _ _ _ _ us hl => match us, hl with | [_, _], _ => rfl», one _ a parameter -/
theorem Fun.binds {x qual : Str} {st : Stmt} {f : Addr} {fd : FuncData} {ps : List Str} (F : Fun K x qual st f fd)
    (h : ∀ (kV doc pm : Value) (an : Option Addr) (cdv ct : Value) (us : List Value), us.length = ps.length → bindArgs (PySem.W.fnOf x qual (defArgs st) (defBody st) (defScope st) .none kV doc pm an cdv ct) ⟨us, []⟩ = pure (ps.zip us)) : Binds K fd ps [] := by
  obtain ⟨oc, od, kV, doc, pm, an, cdv, ct, osl, rfl, lk, hcd⟩ := F.ex
  exact .all (h kV doc pm an cdv ct)
theorem fun_mk {x qual : Str} {st : Stmt} {f : Addr} {oc : Value} {od an : Option Addr} {osl : Array (Option Value)} {kV doc pm cdv ct : Value} (l : K.lookup f = some ⟨oc, od, .func (PySem.W.fnOf x qual (defArgs st) (defBody st) (defScope st) .none kV doc pm an cdv ct), osl⟩)
    (c : PySem.W.codeIn K cdv qual = true) (k : PySem.W.keepIn K (.ref f) = true) : Fun K x qual st f (PySem.W.fnOf x qual (defArgs st) (defBody st) (defScope st) .none kV doc pm an cdv ct) := ⟨⟨oc, od, kV, doc, pm, an, cdv, ct, osl, rfl, l, c⟩, k⟩
end
theorem hu_of {A : Around} {k : Nat} (hr : Room k A) : A.units + 1 < cLine := Nat.lt_of_le_of_lt (Nat.add_le_add_left (by decide : 1 ≤ 64) _) hr.units
theorem small1000 {n : Nat} (h : n ≤ 1000) : n < sizeLine := Nat.lt_of_le_of_lt h (by decide)

section
variable {X : Cx}
theorem pv (i : Nat) {x : Str} {pos : Pos} (hN : X.N[i]? = some x := by rfl) (hv : Vis X.env.scope x := by first | exact Or.inl rfl | exact Or.inr (Or.inl rfl) | exact Or.inr (Or.inr rfl)) (hd : (x == ("__debug__" : Str)) = false := by decide)
    (hcd : (x == ("__classdict__" : Str)) = false := by decide) : PE X (.Name x pos) (tVar i) := pe_var hN hv hd hcd
end

theorem iteF {A B : Prop} (h : B) : if false = true then A else B := by
  rw [if_neg Bool.false_ne_true]
  exact h
theorem iteT {A B : Prop} (h : A) : if true = true then A else B := by
  rw [if_pos rfl]
  exact h
theorem ite2 {c A B : Prop} [Decidable c] (h1 : c → A) (h2 : ¬ c → B) : if c then A else B := by
  by_cases h : c
  · rw [if_pos h]
    exact h1 h
  · rw [if_neg h]
    exact h2 h
/-- all that was tracked is as it was -/
def Same (H H' : Hp) : Prop := ∀ b o, H b = some o → H' b = some o
theorem Same.refl (H : Hp) : Same H H := fun _ _ h => h
theorem Same.trans {H H1 H2 : Hp} (a : Same H H1) (b : Same H1 H2) : Same H H2 := fun c o h => b c o (a c o h)
theorem Same.free {H H' : Hp} (e : Same H H') {l : Addr} (h : H' l = Option.none) : H l = Option.none := by
  cases q : H l with
  | none => rfl
  | some o =>
    rw [e l o q] at h
    cases h
theorem Same.seq {K : PySem.W.Frag} {H H' : Hp} {a : Addr} {xs : List V} (e : Same H H') (h : SqL K H a xs) : SqL K H' a xs := by
  rcases h with (h | ⟨o, h⟩) | h
  · exact .inl (.inl (e _ _ h))
  · exact .inl (.inr ⟨o, e _ _ h⟩)
  · exact .inr h

section
variable {κ : Type} [DecidableEq κ]
theorem nd_snoc : ∀ {l : List κ} {k : κ}, l.Nodup → ¬ k ∈ l → (l ++ [k]).Nodup
  | [], k, _, _ => by simp
  | a :: r, k, h, hk => by
    obtain ⟨h1, h2⟩ := List.nodup_cons.mp h
    show (a :: (r ++ [k])).Nodup
    refine List.nodup_cons.mpr ⟨fun m => ?_, nd_snoc h2 fun m => hk (List.mem_cons.mpr (Or.inr m))⟩
    rcases List.mem_append.mp m with q | q
    · exact h1 q
    · exact hk (List.mem_cons.mpr (Or.inl (List.mem_singleton.mp q).symm))
end
/-- a new instance and its __init__ leave all that was tracked as it was -/
theorem Same.made {H H1 : Hp} {x dx C : Addr} (nx : H x = Option.none) (nd : H dx = Option.none) (k : ∀ b o, (upd (upd H dx (.own x)) x (.ins C dx [])) b = some o → b ≠ x → H1 b = some o) : Same H H1 := fun b o e =>
  k b o (by rw [upd_ne (ne_of_none e nx), upd_ne (ne_of_none e nd)]; exact e) (ne_of_none e nx)
end L2
/-! MORE RULES: dicts whose keys are a number and a tuple of numbers; setdefault; dicts compared. -/
namespace L2
open PySem PySem.Spec PyProof.Rows
abbrev KN (H : Hp) : List (NKey × V) → List (NKey × Addr × Value) → Prop := Paired fun p q => p.1 = q.1 ∧ NestAt H p.1 q.2.1 ∧ RelV p.2 q.2.2
theorem KN.val {H : Hp} {kvs : List (NKey × V)} {xs : List (NKey × Addr × Value)} (r : KN H kvs xs) (k : NKey) : RelO (valV kvs k) ((atKey xs k).map (·.2)) := by
  induction r with
  | nil => exact True.intro
  | @cons p q ps qs h t ih =>
    obtain ⟨h1, _, h2⟩ := h
    by_cases e : p.1 = k
    · have e' : q.1 = k := h1.symm.trans e
      have b : atKey (q :: qs) k = some q.2 := by simp [atKey, List.find?_cons, e']
      rw [valV_pos e, b]; exact h2
    · have e' : ¬ q.1 = k := fun z => e (h1.trans z)
      have b : atKey (q :: qs) k = atKey qs k := by simp [atKey, List.find?_cons, e']
      rw [valV_neg e, b]; exact ih
theorem KN.put {H : Hp} {kvs : List (NKey × V)} {xs : List (NKey × Addr × Value)} (r : KN H kvs xs) {k : NKey} (hn : valV kvs k = none) {b : Addr} {y : V} {u : Value} (hb : NestAt H k b) (ry : RelV y u) :
    KN H (kvs ++ [(k, y)]) (storedH xs k b u) := by
  have e : atKey xs k = none := by
    have q := RelO.none_of (by have := r.val k; rw [hn] at this; exact this)
    exact Option.map_eq_none_iff.mp q
  rw [storedH_new e]
  exact Paired.snoc r ⟨rfl, hb, ry⟩
theorem KN.keeps {H H' : Hp} {kvs : List (NKey × V)} {xs : List (NKey × Addr × Value)} (r : KN H kvs xs) (ht : ∀ b ys, H b = some (.tup ys) → H' b = some (.tup ys)) : KN H' kvs xs :=
  Paired.mapP r fun _ _ z => ⟨z.1, z.2.1.mono ht, z.2.2⟩
theorem ints_are {P : Program} {w : World} : ∀ {ks : List Int} {us : List Value}, Vals (ks.map V.int) us → ItemsAre (intKind P w) ks us
  | [], _, r => by rw [List.map_nil] at r; cases r; exact .nil
  | k :: ks, _, r => by
    rw [List.map_cons] at r
    cases r with
    | cons h t => obtain ⟨t', e⟩ := h; subst e; exact .cons (nestInt_is _ _) (ints_are t)
section
variable {P : Program} {w : World} {H : Hp} {h : Heap} {a : Addr}
theorem nest_of {k : NKey} (ok : HOk P w H h) (e : NestAt H k a) : (nestKind P w).is h k a := by
  obtain ⟨c, e1, e2⟩ := e
  obtain ⟨_, its, r, o, h1, h2, n, h3⟩ := (show ObjOk P w H h a (.tup [.int k.1, .ref c]) from ok a _ e1)
  obtain ⟨_, its', r', o', h1', h2', n', h3'⟩ := (show ObjOk P w H h c (.tup (k.2.map V.int)) from ok c _ e2)
  cases r with
  | cons r1 r2 =>
    cases r2 with
    | cons r2 r3 =>
      cases r3
      obtain ⟨t, e⟩ := r1
      subst e
      cases r2
      exact ⟨o, n, t, c, h1, h2, h3, o', its'.toArray, n', h1', h2', h3', by simpa using ints_are r'⟩
theorem dn_of {kvs : List (NKey × V)} (ok : HOk P w H h) (e : H a = some (.dN kvs)) : kvs.length ≤ sizeLine ∧ (a == sysModules) = false ∧
    ∃ xs, KN H kvs xs ∧ h.DictOfH (nestKind P w) a xs := by
  obtain ⟨z, y, xs, r, o, es, ep, h1, h2, h3, h4, h5⟩ := (show ObjOk P w H h a (.dN kvs) from ok a _ e)
  refine ⟨z, y, xs, r, o, es, ep, h1, h2, h3, h4, fun x hx => ?_, h5⟩
  have all : ∀ {l : List (NKey × V)} {m : List (NKey × Addr × Value)}, KN H l m → ∀ x ∈ m, (nestKind P w).is h x.1 x.2.1 := by
    intro l m q
    induction q with
    | nil => intro x hx; exact nomatch hx
    | @cons p q ps qs hq t ih =>
      intro x hx
      rcases List.mem_cons.mp hx with e | hx
      · subst e
        exact nest_of ok (by rw [← hq.1]; exact hq.2.1)
      · exact ih x hx
  exact all r x hx
theorem dn_empty {H : Hp} (h : Heap) (hb : sysModules < h.objs.size) : ObjOk P w H (h.push { cls := .type "dict", data := .dict #[] }) h.objs.size (.dN []) :=
  ⟨Nat.zero_le _, beq_eq_false_iff_ne.mpr (Ne.symm (Nat.ne_of_lt hb)), [], .nil, _, #[], 0, Heap.get?_push_size _ rfl, ⟨rfl, rfl, rfl⟩, rfl, rfl, List.nodup_nil⟩
end
def tDNewN : TE := fun _ H Q => ∀ p, H p = none → Q (.ref p) (upd H p (.dN []))
theorem pe_dnewN {X : Cx} {pos : Pos} : PE X (.Dict [] [] pos) tDNewN := fun pins s σ H Q I h =>
  wpAny_Dict_empty ⟨.ref s.heap.objs.size, _, I.laid (a := s.heap.objs.size) (o := .dN []) (t' := s.toks) (fun _ _ q => Heap.get?_push_of_some _ q) (Nat.le_refl _) (dn_empty s.heap I.big), rfl, h _ (I.hok.fresh (Nat.le_refl _))⟩
/-- len of a dict with nested keys -/
theorem call_lenN {X : Cx} : CallR X (.builtin "len") (fun xs H Q => ∃ a kvs, xs = [V.ref a] ∧ H a = some (.dN kvs) ∧ Q (.int kvs.length) H) := by
  intro pins s σ H xs us Q I r h
  obtain ⟨a, kvs, rfl, ha, q⟩ := h
  obtain ⟨u, rfl, ru⟩ := vals1 r
  cases ru
  obtain ⟨z, hd, ys, rel, dd⟩ := dn_of I.hok ha
  have hl : kvs.length = ys.length := Paired.length rel
  refine call_len_heap hd dd (by rw [← hl]; rw [sizeLine_eq] at z; omega) ?_
  rw [← hl]
  exact ⟨.int kvs.length, H, I.tok _, ⟨_, rfl⟩, q⟩
/-- what d.setdefault(y, z) gives, and the heap behind it -/
def DSd (H : Hp) (a : Addr) (y z : V) (Q : VK) : Prop :=
  (∃ kvs k, H a = some (.dK kvs) ∧ y = kV k ∧ kvs.length < sizeLine ∧ (∀ v, valV kvs k = some v → Q v H) ∧ (valV kvs k = none → Q z (upd H a (.dK (kvs ++ [(k, z)]))))) ∨
  ∃ kvs k b, H a = some (.dN kvs) ∧ y = .ref b ∧ NestAt H k b ∧ kvs.length < sizeLine ∧ (∀ v, valV kvs k = some v → Q v H) ∧ (valV kvs k = none → Q z (upd H a (.dN (kvs ++ [(k, z)]))))
def IsDN (H : Hp) (a : Addr) : Prop := (∃ kvs, H a = some (.dK kvs)) ∨ ∃ kvs, H a = some (.dN kvs)
theorem isDN_at {X : Cx} {pins : List (Addr × Obj)} {σ : St} {H : Hp} {s : Shared} {a : Addr} (I : Inv X pins σ H s) (d : IsDN H a) :
    s.TypeIs (.ref a) "dict" ∧ (∀ b, Value.ref a = .ref b → ∃ ob, s.heap.get? b = some ob ∧ ob.dict = none) := by
  rcases d with ⟨kvs, e⟩ | ⟨kvs, e⟩
  · obtain ⟨_, hd, vs, _, dd⟩ := dk_of I.hok e
    refine ⟨dd.typeIs, fun b q => ?_⟩
    cases q
    obtain ⟨ob, _, _, h1, h2, _⟩ := dd
    exact ⟨ob, h1, h2.2.1⟩
  · obtain ⟨_, hd, xs, _, dd⟩ := dn_of I.hok e
    refine ⟨dd.typeIs, fun b q => ?_⟩
    cases q
    obtain ⟨ob, _, _, h1, h2, _⟩ := dd
    exact ⟨ob, h1, h2.2.1⟩
section
variable {X : Cx} {pins : List (Addr × Obj)} {σ : St} {H : Hp} {s : Shared} {a : Addr} {y z : V} {u r : Value} {A : Around} {E : Value → Shared → Prop}
theorem d_setdefault {Q : Value → Shared → Prop} {Qv : VK} (hu : A.units + 2 < cLine) (I : Inv X pins σ H s) (g : DSd H a y z Qv) (ry : RelV y u) (rz : RelV z r) (h : ∀ v w' H' s', Inv X pins σ H' s' → RelV v w' → Qv v H' → Q w' s') :
    wpAny (model X.prog X.w) A (call (.builtin "dict.setdefault") [.ref a, u, r]) Q E s := by
  rcases g with ⟨kvs, k, e, ey, l, g1, g2⟩ | ⟨kvs, k, b, e, ey, eb, l, g1, g2⟩
  · subst ey
    obtain ⟨zz, hd, vs, rel, dd⟩ := dk_of I.hok e
    have hz : vs.length ≤ sizeLine := by rw [← rel.length]; exact zz
    refine call_meetsIn PySem.F.slot_dict_setdefault dd.typeIs PySem.F.entry_dict_setdefault (PySem.F.args_dict_setdefault_3 _ _ _) (kt_meets_setdefault (mixKind X.prog X.w) a (kV_is ry) hd r) ⟨vs, dd, hz, fun v hv => ?_, fun hn h' dd' hs => ?_⟩
    · have q := rel.val k
      rw [hv] at q
      cases ev : valV kvs k with
      | none => rw [ev] at q; exact q.elim
      | some v' =>
        rw [ev] at q
        exact h v' v H _ (I.tok _) q (g1 v' ev)
    · have q := rel.val k
      rw [hn] at q
      have ev : valV kvs k = none := by
        cases ev : valV kvs k with
        | none => rfl
        | some v' => rw [ev] at q; exact q.elim
      refine h z r _ _ ?_ rz (g2 ev)
      have he : ∃ q, h'.get? a = some q := let ⟨q, _, _, hq, _⟩ := dd'; ⟨q, hq⟩
      have hl : (kvs ++ [(k, z)]).length ≤ sizeLine := by rw [List.length_append, List.length_singleton]; omega
      have rel' := rel.put k rz
      rw [putK_new z ev] at rel'
      exact d_write I (by rw [e]; exact True.intro) hs he (dk_new hl hd rel' dd')
  · subst ey
    cases (show u = Value.ref b from ry)
    obtain ⟨zz, hd, xs, rel, dd⟩ := dn_of I.hok e
    have hz : xs.length ≤ sizeLine := by rw [← Paired.length rel]; exact zz
    refine call_meetsIn PySem.F.slot_dict_setdefault dd.typeIs PySem.F.entry_dict_setdefault (PySem.F.args_dict_setdefault_3 _ _ _) (meetsH_setdefault (nestKind X.prog X.w) a b hd r)
      ⟨(show A.units + 1 + 1 < cLine by omega), k, xs, nest_of I.hok eb, dd, hz, fun p hp => ?_, fun hn h' dd' hs => ?_⟩
    · have q := rel.val k
      rw [hp] at q
      cases ev : valV kvs k with
      | none => rw [ev] at q; exact q.elim
      | some v' =>
        rw [ev] at q
        exact h v' p.2 H _ (I.tok _) q (g1 v' ev)
    · have q := rel.val k
      rw [hn] at q
      have ev : valV kvs k = none := by
        cases ev : valV kvs k with
        | none => rfl
        | some v' => rw [ev] at q; exact q.elim
      refine h z r _ _ ?_ rz (g2 ev)
      have hl : (kvs ++ [(k, z)]).length ≤ sizeLine := by rw [List.length_append, List.length_singleton]; omega
      obtain ⟨q, es, ep, hq, h2, h3, h4, _, h5⟩ := dd'
      refine d_write I (by rw [e]; exact True.intro) hs ⟨q, hq⟩ ⟨hl, hd, _, (rel.put ev eb rz).keeps fun c ys ec => ?_, q, es, ep, hq, h2, h3, h4, h5⟩
      rw [upd_ne (ne_of ec e (fun z => nomatch z))]
      exact ec
end
def tDSd (td ty tx : TE) : TE := fun σ H Q => td σ H fun x H1 => ∃ a, x = .ref a ∧ IsDN H1 a ∧ ty σ H1 fun y H2 => tx σ H2 fun z H3 => DSd H3 a y z Q
theorem pe_dsd {X : Cx} {o e f : Expr} {apos cpos : Pos} {td ty tx : TE} (hu : X.A.units + 2 < cLine) (ho : PE X o td) (he : PE X e ty) (hf : PE X f tx) (m : M2 X o "setdefault" apos e f cpos) : PE X (.Call (.Attribute o "setdefault" apos) [e, f] [] cpos) (tDSd td ty tx) := by
  intro pins s σ H Q I h
  refine wpAny_Call_method m.base m.few m.line PySem.F.plainAttrs_dict PySem.F.slot_dict_setdefault PySem.F.type_dict_setdefault (thn (ho pins s σ H _ I h) fun u s1 ⟨x, H1, I1, rx, a, ex, d, q1⟩ => ?_)
  subst ex
  obtain rfl : u = Value.ref a := rx
  obtain ⟨t1, t2⟩ := isDN_at I1 d
  refine ⟨t1, t2, ?_⟩
  rw [m.trees]
  refine Calls.callWith_builtin rfl (Calls.evalArgs_plain (Calls.spliced_cons (thn (he pins s1 σ H1 _ I1 q1) fun iv s2 ⟨y, H2, I2, ry, q2⟩ =>
    Calls.spliced_cons (thn (hf pins s2 σ H2 _ I2 q2) fun fv s3 ⟨z, H3, I3, rz, g⟩ => Calls.spliced_nil ?_))))
  exact d_setdefault hu I3 g ry rz fun v w' H' s' I' r' q' => ⟨v, H', I', r', q'⟩
/-- two dicts of numbers by numbers, compared -/
theorem hits_of {A : Around} {s : Shared} {kb : List (Key × Value)} {kvb : List (Key × V)} (relb : KV kvb kb) : ∀ {kva : List (Key × V)} {ka : List (Key × Value)}, KV kva ka → (∀ p ∈ kva, ∃ i j, p.2 = .int i ∧ valV kvb p.1 = some (.int j)) →
    PySem.W.KeqHits A s kb ka (decide (∀ p ∈ kva, valV kvb p.1 = some p.2)) := by
  intro kva ka rel
  unfold KV at rel
  induction rel with
  | nil =>
    intro _
    rw [decide_eq_true (by intro p hp; cases hp)]
    exact .nil
  | @cons p q ps qs h t ih =>
    intro hall
    obtain ⟨i, j, e1, e2⟩ := hall p List.mem_cons_self
    obtain ⟨p1, p2⟩ := p
    obtain ⟨q1, q2⟩ := q
    obtain ⟨h1, h2⟩ := h
    simp only at h1 h2 e1 e2
    subst h1 e1
    obtain ⟨t1, rfl⟩ := h2
    have z := relb.val p1
    rw [e2] at z
    obtain ⟨y, hy, t2, rfl⟩ := RelO.some_of z
    have ih' := ih fun p hp => hall p (List.mem_cons_of_mem _ hp)
    have e : decide (∀ p ∈ (p1, V.int i) :: ps, valV kvb p.1 = some p.2) = ((i == j) && decide (∀ p ∈ ps, valV kvb p.1 = some p.2)) := by
      by_cases c : i = j
      · subst c
        by_cases d : ∀ p ∈ ps, valV kvb p.1 = some p.2
        · rw [decide_eq_true d, decide_eq_true (by
            intro p hp
            rcases List.mem_cons.mp hp with rfl | hp
            · exact e2
            · exact d p hp)]
          simp
        · rw [decide_eq_false d, decide_eq_false fun z => d fun p hp => z p (List.mem_cons_of_mem _ hp)]
          simp
      · rw [decide_eq_false fun z => by
          have := z _ List.mem_cons_self
          rw [e2] at this
          injection this with this
          injection this with this
          exact c this.symm]
        have : (i == j) = false := beq_eq_false_iff_ne.mpr c
        rw [this]; simp
    rw [e]
    exact .hit hy (SeqAt.EqAt.int_int i t1 j t2) ih'
def rNeDict : R2 := fun x y H Q => ∃ a b kva kvb, x = .ref a ∧ y = .ref b ∧ H a = some (.dK kva) ∧ H b = some (.dK kvb) ∧ kva.length = kvb.length ∧ (∀ p ∈ kva, ∃ i j, p.2 = .int i ∧ valV kvb p.1 = some (.int j)) ∧
  Q (.bl (!decide (∀ p ∈ kva, valV kvb p.1 = some p.2))) H
theorem op_neDict {X : Cx} (hu : X.A.units < cLine) : OpR X (compareOp .NotEq) rNeDict := by
  intro pins s σ H x y v u Q I rx ry h
  obtain ⟨a, b, kva, kvb, rfl, rfl, ha, hb, hl, hall, q⟩ := h
  cases rx
  cases ry
  obtain ⟨za, la, va, ra, da⟩ := dk_of I.hok ha
  obtain ⟨zb, lb, vb, rb, db⟩ := dk_of I.hok hb
  refine PySem.W.keq_ne la lb da db hu (fun _ => hits_of rb ra hall) ⟨.bl _, H, I, rfl, ?_⟩
  rw [← ra.length, ← rb.length, hl, beq_self_eq_true, Bool.true_and]
  exact q
end L2
/-! A CALL WITH LISTS THAT ARE HANDED IN: the promise of a def at the heap behind the top, for a specification's row. -/
namespace L2
open PySem PySem.Spec PyProof.Rows
abbrev Given := List (Addr × List Value × List Int)
def GivenOk (h : Heap) (fr : Given) : Prop := ∀ e ∈ fr, h.get? e.1 = some { cls := .type "list", data := .seq e.2.1.toArray } ∧ IntsAre e.2.1 e.2.2 ∧ e.2.2.length ≤ sizeLine
def givenH (K : PySem.W.Frag) (fr : Given) : Hp := fun b => if (K.lookup b).isSome = true then none else (fr.find? fun e => decide (e.1 = b)).map fun e => HO.frz { cls := .type "list", data := .seq e.2.1.toArray } (.lst (e.2.2.map V.int))
theorem givenH_some {K : PySem.W.Frag} {fr : Given} {b : Addr} {u : HO} (h : givenH K fr b = some u) : K.lookup b = none ∧ ∃ e ∈ fr, e.1 = b ∧ u = HO.frz { cls := .type "list", data := .seq e.2.1.toArray } (.lst (e.2.2.map V.int)) := by
  unfold givenH at h
  by_cases c : (K.lookup b).isSome = true
  · rw [if_pos c] at h; cases h
  · rw [if_neg c] at h
    obtain ⟨e, he, rfl⟩ := Option.map_eq_some_iff.mp h
    refine ⟨Option.not_isSome_iff_eq_none.mp c, e, List.mem_of_find?_eq_some he, ?_, rfl⟩
    have := List.find?_some he
    exact of_decide_eq_true this
theorem givenH_sq {K : PySem.W.Frag} {fr : Given} {h : Heap} (ok : GivenOk h fr) (KX : K.In h) {e : Addr × List Value × List Int} (he : e ∈ fr) : SqL K (givenH K fr) e.1 (e.2.2.map V.int) := by
  obtain ⟨h1, h2, h3⟩ := ok e he
  have rv := vals_ints h2
  cases hk : K.lookup e.1 with
  | some o =>
    have z := KX _ o hk
    rw [h1] at z
    cases z
    refine .inr ⟨_, e.2.1.toArray, _, hk, rfl, rfl, rfl, ?_, by simpa using rv⟩
    rw [List.size_toArray, h2.length]; exact h3
  | none =>
    have hf : ∃ e', (fr.find? fun x => decide (x.1 = e.1)) = some e' := by
      cases q : fr.find? fun x => decide (x.1 = e.1) with
      | some e' => exact ⟨e', rfl⟩
      | none =>
        have := List.find?_eq_none.mp q e he
        simp at this
    obtain ⟨e', q⟩ := hf
    have em := List.mem_of_find?_eq_some q
    have ee : e'.1 = e.1 := of_decide_eq_true (List.find?_some (p := fun (x : Addr × List Value × List Int) => decide (x.1 = e.1)) q)
    obtain ⟨g1, g2, g3⟩ := ok e' em
    rw [ee, h1] at g1
    have ev : e.2.1 = e'.2.1 := by
      have := Option.some.inj g1
      injection this with _ _ z _
      injection z with z _
      have := congrArg Array.toList z
      simpa using this
    have exs : e'.2.2.map V.int = e.2.2.map V.int := Vals.inj (vals_ints g2) (by rw [← ev]; exact rv)
    refine .inl (.inr ⟨{ cls := .type "list", data := .seq e'.2.1.toArray }, ?_⟩)
    unfold givenH
    rw [if_neg (by rw [hk]; simp), q, ← exs]
    rfl
theorem spec_call {P : Program} {w : World} {K : PySem.W.Frag} {mg mb : Str → Option Value} {k : Nat} {fa : Addr} {fd : FuncData} {ps : List Str} {sp : Sp} {s₁ : Shared} {fr : Given} {us : List Value} {vs : List V} {out : List Int}
    (KX : K.In s₁.heap) (hns : s₁.heap.Ns mainGlobals mg) (hb : s₁.heap.Ns builtinsNs mb) (hbb : ∀ x : Str, x ≠ "__name__" → mb x = bootBuiltins x) (hlim : s₁.heap.NoLimit) (hg : s₁.gens = #[])
    (ok : GivenOk s₁.heap fr) (hr : Room k callerA) (hv : Vals vs us)
    (F : ∀ base : Heap, K.In base → base.Ns mainGlobals mg → FnOk P w K mg base CX0 k fa fd ps sp) (hbind : BindsTo s₁ fd ⟨us, []⟩ (ps.zip us))
    (hsp : ∀ H : Hp, (∀ e ∈ fr, SqL K H e.1 (e.2.2.map V.int)) → sp vs H (fun v H' => ∃ p, v = .ref p ∧ H' p = some (.lst (out.map V.int))) fun _ _ _ => False) :
    codeAny (model P w) callerA (.call (.ref fa) ⟨us, []⟩) (fun r s' => (∃ p its n, r = .ok (.ret (.ref p)) ∧ s'.heap.get? p = some { cls := .type "list", data := .seq its n } ∧ IntsAre its.toList out) ∧ OldK s₁.heap s'.heap ∧ s'.os = s₁.os ∧ AllBare s'.gens) s₁ := by
  have hO : ∀ b, givenH K fr b = none ∨ ∃ o xs, givenH K fr b = some (.frz o (.lst xs)) := fun b => by
    cases q : givenH K fr b with
    | none => exact .inl rfl
    | some u => obtain ⟨_, e, _, _, rfl⟩ := givenH_some q; exact .inr ⟨_, _, rfl⟩
  have hok : HOk P w (givenH K fr) s₁.heap := fun b u z => by
    obtain ⟨_, e, he, rfl, rfl⟩ := givenH_some z
    obtain ⟨h1, h2, h3⟩ := ok e he
    exact ⟨h1, by rw [List.length_map]; exact h3, e.2.1, _, vals_ints h2, h1⟩
  generalize hH : givenH K fr = H at hO hok
  have base_of : ∀ {b : Addr} {o : Obj}, s₁.heap.get? b = some o → H b = none → (hidT s₁.heap H).get? b = some o := fun e n => hidT_get e n
  have noA : ∀ {b : Addr} {o : Obj} {es : Array DictEntry} {ep : Nat}, s₁.heap.get? b = some o → o.data = .dict es ep → H b = none := fun {b o es ep} e d => by
    cases q : H b with
    | none => rfl
    | some u =>
      rw [← hH] at q
      obtain ⟨_, e', he, rfl, _⟩ := givenH_some q
      obtain ⟨h1, _, _⟩ := ok e' he
      rw [h1] at e; cases e
      have d' : Data.seq _ _ = Data.dict es ep := d
      cases d'
  have nsK : ∀ {b : Addr} {m : Str → Option Value}, s₁.heap.Ns b m → (hidT s₁.heap H).Ns b m := fun {b m} ⟨o, es, ep, e, d, r⟩ => ⟨o, es, ep, base_of e (noA e d), d, r⟩
  have hKb : K.In (hidT s₁.heap H) := fun b o e => base_of (KX b o e) (by
    cases q : H b with
    | none => rfl
    | some u =>
      rw [← hH] at q
      obtain ⟨z, _⟩ := givenH_some q
      rw [z] at e; cases e)
  have hM : Mod K mg (hidT s₁.heap H) := ⟨hKb, nsK hns, ⟨mb, nsK hb, hbb⟩, let ⟨mc, h1, h2⟩ := hlim; ⟨mc, nsK h1, h2⟩⟩
  have e0 : Env0 P w K mg (hidT s₁.heap H) callerA [] s₁ H := ⟨rfl, hM, fun b o e => of_hidT e, Nat.le_of_eq (hidT_size _ _), trivial, fun b hb => absurd (show b ∈ ([] : List Addr) from hb) (by simp), hok, .of_eq hg⟩
  refine codeAny_mono ((F _ hKb (nsK hns)).run callerA [] s₁ H ⟨us, []⟩ us vs _ _ hr e0 hbind hv (hsp H fun e he => by rw [← hH]; exact givenH_sq ok KX he)) fun r s' h => ?_
  cases r with
  | error e => exact (show False from h).elim
  | ok fl =>
    cases fl with
    | next => exact False.elim h
    | brk => exact False.elim h
    | cont => exact False.elim h
    | ret u =>
      obtain ⟨v, H', os, bare, un, hok', r', p, hp, q⟩ := h
      subst hp
      obtain rfl : u = Value.ref p := r'
      obtain ⟨_, its, n, rv, e⟩ := (show ObjOk P w H' s'.heap p (.lst (out.map V.int)) from hok' p _ q)
      refine ⟨⟨p, its.toArray, n, rfl, e, by simpa using intsAre_of rv⟩, OldK.of_keep fun b o e => ?_, os, bare⟩
      cases q : H b with
      | none => exact un.keep b o e q (by intro z; exact absurd (show b ∈ ([] : List Addr) from z) (by simp)) (by simp)
      | some u =>
        rcases hO b with z | ⟨ob, xs, z⟩
        · rw [q] at z; cases z
        · have z2 := un.frzs b ob _ z
          obtain ⟨e1, _⟩ := hok b _ z
          obtain ⟨e2, _⟩ := hok' b _ z2
          rw [e] at e1; cases e1
          exact e2
theorem readsW_ints {R : PySem.W.WRecords} {cl : Str → Option Addr} {h : Heap} : ∀ {vs : List Value} {ns : List Int}, IntsAre vs ns → PySem.W.ReadsAllW R cl h vs (ns.map .int) []
  | _, _, .nil => .nil
  | _, _, .cons n t r => .cons (.int n t) (readsW_ints r)
/-- the end of a specification's call: a list of whole numbers -/
theorem goodS {r : PySem.W.OpenSpec} {cl : Str → Option Addr} {mean : ExcName → Option Value} {args : List PySem.W.WData} {s₁ s' : Shared} {res : Result} {out : List Int} (hp : r.post args (.list (out.map .int)) = true)
    (h : (∃ p its n, res = .ok (.ret (.ref p)) ∧ s'.heap.get? p = some { cls := .type "list", data := .seq its n } ∧ IntsAre its.toList out) ∧ OldK s₁.heap s'.heap ∧ s'.os = s₁.os ∧ AllBare s'.gens) :
    PySem.W.GoodWG r.claim cl mean args s₁ res s' := by
  obtain ⟨⟨p, its, n, rfl, e, hi⟩, h2, h3, h4⟩ := h
  exact ⟨.inl ⟨.ref p, .list (out.map .int), [p], rfl, fun _ => rfl, .list e rfl rfl (readsW_ints hi), hp, fun h => absurd h Bool.false_ne_true⟩, h2, h3, h4⟩
/-- the request, one argument at a time -/
theorem sdec_cons {c : PySem.W.Codec} {cs : List PySem.W.Codec} {d : PySem.W.WData} {ds : List PySem.W.WData} (h : (PySem.W.Codec.decAll (c :: cs) (d :: ds)).isSome = true) :
    (∃ a, c.dec d = some a) ∧ (PySem.W.Codec.decAll cs ds).isSome = true := by
  have e : PySem.W.Codec.decAll (c :: cs) (d :: ds) = PySem.W.Codec.both Prod.mk (c.dec d) (PySem.W.Codec.decAll cs ds) := rfl
  rw [e] at h
  cases h1 : c.dec d with
  | none => rw [h1] at h; cases h
  | some a =>
    cases h2 : PySem.W.Codec.decAll cs ds with
    | none => rw [h1, h2] at h; cases h
    | some r => exact ⟨⟨a, rfl⟩, rfl⟩
theorem sdec_join {c : PySem.W.Codec} {cs : List PySem.W.Codec} {d : PySem.W.WData} {ds : List PySem.W.WData} {a : c.denote} {r : PySem.W.Codec.denoteAll cs} (h1 : c.dec d = some a) (h2 : PySem.W.Codec.decAll cs ds = some r) :
    PySem.W.Codec.decAll (c :: cs) (d :: ds) = some (a, r) := by
  have e : PySem.W.Codec.decAll (c :: cs) (d :: ds) = PySem.W.Codec.both Prod.mk (c.dec d) (PySem.W.Codec.decAll cs ds) := rfl
  rw [e, h1, h2]; rfl
theorem sdec_int {lo hi z : Int} {a : Int} (h : (PySem.W.Codec.int lo hi).dec (.int z) = some a) : (PySem.W.Codec.int lo hi).dec (.int z) = some z ∧ lo ≤ z ∧ z ≤ hi := by
  have e : (PySem.W.Codec.int lo hi).dec (.int z) = if PySem.W.Codec.inInt lo hi z = true then some z else none := rfl
  rw [e] at h ⊢
  by_cases c : PySem.W.Codec.inInt lo hi z = true
  · rw [if_pos c] at h ⊢
    unfold PySem.W.Codec.inInt at c
    simp only [Bool.and_eq_true, decide_eq_true_eq] at c
    exact ⟨rfl, c.1, c.2⟩
  · rw [if_neg c] at h; cases h
theorem sdec_ints {least most : Nat} {lo hi : Int} {ns : List Int} {a : List Int} (h : (PySem.W.Codec.list least most (.int lo hi)).dec (.list (ns.map .int)) = some a) :
    (PySem.W.Codec.list least most (.int lo hi)).dec (.list (ns.map .int)) = some ns ∧ ns.length ≤ most ∧ ∀ x ∈ ns, lo ≤ x ∧ x ≤ hi := by
  have e : (PySem.W.Codec.list least most (.int lo hi)).dec (.list (ns.map .int)) = if PySem.W.Codec.inLen least most (ns.map PySem.W.WData.int) = true then PySem.W.Codec.decItems (PySem.W.Codec.decInt lo hi) (ns.map .int) else none := rfl
  rw [e, PySem.W.os_decItems_ints] at h ⊢
  by_cases c : PySem.W.Codec.inLen least most (ns.map PySem.W.WData.int) = true
  · rw [if_pos c] at h ⊢
    by_cases d : ns.all (PySem.W.Codec.inInt lo hi) = true
    · rw [if_pos d] at h ⊢
      refine ⟨rfl, ?_, fun x hx => ?_⟩
      · unfold PySem.W.Codec.inLen PySem.W.Codec.inNat at c
        simp only [Bool.and_eq_true, decide_eq_true_eq, List.length_map] at c
        exact c.2
      · have := List.all_eq_true.mp d x hx
        unfold PySem.W.Codec.inInt at this
        simp only [Bool.and_eq_true, decide_eq_true_eq] at this
        exact this
    · rw [if_neg d] at h; cases h
  · rw [if_neg c] at h; cases h
end L2
/-! list(zip(a, b)) of two lists: a new list of new pairs. -/
namespace PySem
open Sem (wp)
namespace F
theorem zip_no_len : typeLookup (.type "zip") "__len__" = pure none := by rw [typeLookup_type, builtinLookup_eq_fast]; kernel_rfl
theorem zip_no_hint : typeLookup (.type "zip") "__length_hint__" = pure none := by rw [typeLookup_type, builtinLookup_eq_fast]; kernel_rfl
end F
/-- a zip whose own tuple is handed out, to a -/
abbrev ZipOut (h : Heap) (z TI TO a : Addr) (f : Bool) : Prop :=
  h.get? z = some { cls := .type "zip", dict := none, data := .fields #[rawInt a, .bool f, .bool false, .ref TI, .ref TO], slots := #[] }
section
variable {prog : Program} {w : World} {A : Around} {E : Value → Shared → Prop} {s : Shared}
theorem alive_of {a : Addr} {o : Obj} {Q : Option Obj → Shared → Prop} (ho : s.heap.get? a = some o) (h : Q (some o) s) : wpAny (model prog w) A (loadIfAlive a) Q E s := by
  have h' : Q (s.heap.get? a) s := by rw [ho]; exact h
  exact fun _ _ _ => h'
theorem zip_out_item {z TI TO i1 i2 l1 l2 a : Addr} {f : Bool} {oa : Obj} {k1 k2 : Nat} {xs ys : Array Value} {x y : Value} {Q : Value → Shared → Prop} (D : ZipApart z TI TO i1 i2 l1 l2)
    (hz : ZipOut s.heap z TI TO a f) (ha : s.heap.get? a = some oa) (hTI : IsPair s.heap TI (.ref i1) (.ref i2))
    (h1 : s.heap.IsListIter i1 l1 k1) (h2 : s.heap.IsListIter i2 l2 k2) (hl1 : s.heap.IsList l1 xs) (hl2 : s.heap.IsList l2 ys) (hx : xs[k1]? = some x) (hy : ys[k2]? = some y)
    (hQ : ∀ h', ZipOut h' z TI TO a true → h'.IsListIter i1 l1 (k1 + 1) → h'.IsListIter i2 l2 (k2 + 1) → IsPair h' s.heap.objs.size x y → h'.objs.size = s.heap.objs.size + 1 →
      (∀ c o, c ≠ z → c ≠ i1 → c ≠ i2 → s.heap.get? c = some o → h'.get? c = some o) → Q (.ref s.heap.objs.size) { s with heap := h' }) :
    wpAny (model prog w) A (Builtin.«zip.__next__» ⟨[.ref z], []⟩) (fun fin s' => ∃ v, fin = .done (.ret v) ∧ Q v s') E s := by
  show wpAny _ _ (field (.ref z) 2 >>= _) _ _ _
  refine wpAny_bind (wpAny_field hz rfl (x := .bool false) rfl ?_)
  show wpAny _ _ (field (.ref z) 3 >>= _) _ _ _
  refine wpAny_bind (wpAny_field hz rfl (x := .ref TI) rfl ?_)
  refine wpAny_bind (wpAny_seqItems hTI rfl ?_)
  show wpAny _ _ (Builtin.SmallTypes.ownedTupleIsFree (.ref z) >>= _) _ _ _
  refine wpAny_bind ?_
  unfold Builtin.SmallTypes.ownedTupleIsFree
  refine wpAny_bind (wpAny_field hz rfl (x := rawInt a) rfl ?_)
  show wpAny _ _ (loadIfAlive ((a : Int).toNat) >>= _) _ _ _
  rw [Int.toNat_natCast]
  refine wpAny_bind (alive_of ha ?_)
  simp only [Option.isNone_some, Bool.false_eq_true, if_false]
  refine wpAny_bind (wpAny_field hz rfl (x := .bool f) rfl ?_)
  have fin : ∀ h₁ h₂ h₃ : Heap, ZipOut h₁ z TI TO a true → Heap.SameBut z s.heap h₁ → h₂.IsListIter i1 l1 (k1 + 1) → Heap.SameBut i1 h₁ h₂ → h₃.IsListIter i2 l2 (k2 + 1) → Heap.SameBut i2 h₂ h₃ →
      wpAny (model prog w) A (ret (.ref h₃.objs.size)) (fun fin s' => ∃ v, fin = .done (.ret v) ∧ Q v s') E { s with heap := h₃.push { cls := .type "tuple", data := .seq #[x, y] } } := fun h₁ h₂ h₃ hz₁ hs₁ h1₂ hs₂ h2₃ hs₃ => by
    have hsz : h₃.objs.size = s.heap.objs.size := by rw [hs₃.1, hs₂.1, hs₁.1]
    refine wpAny_pure ⟨_, rfl, ?_⟩
    rw [hsz]
    have up : ∀ c o, h₃.get? c = some o → (h₃.push { cls := .type "tuple", data := .seq #[x, y] }).get? c = some o := fun c o e => Heap.get?_push_of_some _ e
    refine hQ _ (up _ _ (hs₃.extBut _ _ D.i2z.symm (hs₂.extBut _ _ D.i1z.symm hz₁))) ((h1₂.extBut hs₃.extBut D.i12).at fun o e => up _ o e) (h2₃.at fun o e => up _ o e) ?_ ?_ fun c o c1 c3 c4 e => up c o (hs₃.extBut _ _ c4 (hs₂.extBut _ _ c3 (hs₁.extBut _ _ c1 e)))
    · show (h₃.push _).get? _ = _
      rw [← hsz]; exact Heap.get?_push_size _ rfl
    · rw [Heap.size_push, hsz]
  cases f with
  | true =>
    rw [if_neg (show ¬ ((Value.bool true != Value.bool true) = true) from Bool.false_ne_true)]
    refine wpAny_pure ?_
    simp only [Bool.false_eq_true, if_false]
    obtain ⟨h₁, g, d, tk, os⟩ := s
    have hz₁ : ZipOut h₁ z TI TO a true := hz
    have hs₁ : Heap.SameBut z (Shared.heap ⟨h₁, g, d, tk, os⟩) h₁ := Heap.SameBut.refl _ _
    rw [← Array.forIn_toList]
    simp only [List.forIn_cons, List.forIn_nil]
    refine wpAny_bind (wpAny_bind (wpAny_bind (wpAny_holding ?_)))
    show wpAny _ _ (Builtin.SmallTypes.nextOf (.ref i1) >>= _) _ _ _
    refine wpAny_bind (wpAny_nextOf_list_item (h1.extBut hs₁.extBut D.i1z) (hl1.extBut hs₁.extBut D.l1z) hx fun h₂ h1₂ hs₂ => wpAny_pure ?_)
    refine wpAny_pure ?_
    refine wpAny_bind (wpAny_bind (wpAny_holding ?_))
    show wpAny _ _ (Builtin.SmallTypes.nextOf (.ref i2) >>= _) _ _ _
    refine wpAny_bind (wpAny_nextOf_list_item ((h2.extBut hs₁.extBut D.i2z).extBut hs₂.extBut D.i12.symm) ((hl2.extBut hs₁.extBut D.l2z).extBut hs₂.extBut D.l2i1) hy fun h₃ h2₃ hs₃ => wpAny_pure ?_)
    refine wpAny_pure ?_
    refine wpAny_pure ?_
    show wpAny _ _ (newTuple [x, y] >>= _) _ _ _
    refine wpAny_bind (wpAny_newTuple ?_)
    exact fin h₁ h₂ h₃ hz₁ hs₁ h1₂ hs₂ h2₃ hs₃
  | false =>
    rw [if_pos (show (Value.bool false != Value.bool true) = true from rfl)]
    refine wpAny_bind (wpAny_setField_rec hz (by simp) fun h₁ hz₁ hs₁ => ?_)
    replace hz₁ : ZipOut h₁ z TI TO a true := hz₁
    refine wpAny_pure ?_
    simp only [Bool.false_eq_true, if_false]
    rw [← Array.forIn_toList]
    simp only [List.forIn_cons, List.forIn_nil]
    refine wpAny_bind (wpAny_bind (wpAny_bind (wpAny_holding ?_)))
    show wpAny _ _ (Builtin.SmallTypes.nextOf (.ref i1) >>= _) _ _ _
    refine wpAny_bind (wpAny_nextOf_list_item (h1.extBut hs₁.extBut D.i1z) (hl1.extBut hs₁.extBut D.l1z) hx fun h₂ h1₂ hs₂ => wpAny_pure ?_)
    refine wpAny_pure ?_
    refine wpAny_bind (wpAny_bind (wpAny_holding ?_))
    show wpAny _ _ (Builtin.SmallTypes.nextOf (.ref i2) >>= _) _ _ _
    refine wpAny_bind (wpAny_nextOf_list_item ((h2.extBut hs₁.extBut D.i2z).extBut hs₂.extBut D.i12.symm) ((hl2.extBut hs₁.extBut D.l2z).extBut hs₂.extBut D.l2i1) hy fun h₃ h2₃ hs₃ => wpAny_pure ?_)
    refine wpAny_pure ?_
    refine wpAny_pure ?_
    show wpAny _ _ (newTuple [x, y] >>= _) _ _ _
    refine wpAny_bind (wpAny_newTuple ?_)
    exact fin h₁ h₂ h₃ hz₁ hs₁ h1₂ hs₂ h2₃ hs₃
theorem zip_out_end {z TI TO i1 i2 l1 l2 a : Addr} {f : Bool} {oa : Obj} {k1 k2 : Nat} {xs ys : Array Value} {Q : Fin → Shared → Prop} (hh : A.handled = none) (D : ZipApart z TI TO i1 i2 l1 l2)
    (hz : ZipOut s.heap z TI TO a f) (ha : s.heap.get? a = some oa) (hTI : IsPair s.heap TI (.ref i1) (.ref i2))
    (h1 : s.heap.IsListIter i1 l1 k1) (h2 : s.heap.IsListIter i2 l2 k2) (hl1 : s.heap.IsList l1 xs) (hl2 : s.heap.IsList l2 ys) (hend : xs[k1]? = none ∨ ys[k2]? = none)
    (hE : ∀ h' e, (∀ c o, c ≠ z → c ≠ i1 → c ≠ i2 → s.heap.get? c = some o → h'.get? c = some o) → (∃ o, h'.get? e = some o ∧ o.cls = .type "StopIteration") → E (.ref e) { s with heap := h' }) :
    wpAny (model prog w) A (Builtin.«zip.__next__» ⟨[.ref z], []⟩) Q E s := by
  show wpAny _ _ (field (.ref z) 2 >>= _) _ _ _
  refine wpAny_bind (wpAny_field hz rfl (x := .bool false) rfl ?_)
  show wpAny _ _ (field (.ref z) 3 >>= _) _ _ _
  refine wpAny_bind (wpAny_field hz rfl (x := .ref TI) rfl ?_)
  refine wpAny_bind (wpAny_seqItems hTI rfl ?_)
  show wpAny _ _ (Builtin.SmallTypes.ownedTupleIsFree (.ref z) >>= _) _ _ _
  refine wpAny_bind ?_
  unfold Builtin.SmallTypes.ownedTupleIsFree
  refine wpAny_bind (wpAny_field hz rfl (x := rawInt a) rfl ?_)
  show wpAny _ _ (loadIfAlive ((a : Int).toNat) >>= _) _ _ _
  rw [Int.toNat_natCast]
  refine wpAny_bind (alive_of ha ?_)
  simp only [Option.isNone_some, Bool.false_eq_true, if_false]
  refine wpAny_bind (wpAny_field hz rfl (x := .bool f) rfl ?_)
  cases f with
  | true =>
    rw [if_neg (show ¬ ((Value.bool true != Value.bool true) = true) from Bool.false_ne_true)]
    refine wpAny_pure ?_
    simp only [Bool.false_eq_true, if_false]
    obtain ⟨h₁, g, d, tk, os⟩ := s
    have hz₁ : ZipOut h₁ z TI TO a true := hz
    have hs₁ : Heap.SameBut z (Shared.heap ⟨h₁, g, d, tk, os⟩) h₁ := Heap.SameBut.refl _ _
    rw [← Array.forIn_toList]
    simp only [List.forIn_cons, List.forIn_nil]
    refine wpAny_bind (wpAny_bind (wpAny_bind (wpAny_holding ?_)))
    show wpAny _ _ (Builtin.SmallTypes.nextOf (.ref i1) >>= _) _ _ _
    cases hx : xs[k1]? with
    | none => exact wpAny_bind (wpAny_nextOf_list_end hh (h1.extBut hs₁.extBut D.i1z) (hl1.extBut hs₁.extBut D.l1z) hx fun h₂ e hs₂ he => hE h₂ e (fun c o c1 c3 _ x => hs₂ _ _ c3 (hs₁.extBut _ _ c1 x)) he)
    | some x =>
      have hy : ys[k2]? = none := by rcases hend with h | h; rw [hx] at h; cases h; exact h
      refine wpAny_bind (wpAny_nextOf_list_item (h1.extBut hs₁.extBut D.i1z) (hl1.extBut hs₁.extBut D.l1z) hx fun h₂ h1₂ hs₂ => wpAny_pure ?_)
      refine wpAny_pure ?_
      refine wpAny_bind (wpAny_bind (wpAny_holding ?_))
      show wpAny _ _ (Builtin.SmallTypes.nextOf (.ref i2) >>= _) _ _ _
      exact wpAny_bind (wpAny_nextOf_list_end hh ((h2.extBut hs₁.extBut D.i2z).extBut hs₂.extBut D.i12.symm) ((hl2.extBut hs₁.extBut D.l2z).extBut hs₂.extBut D.l2i1) hy fun h₃ e hs₃ he =>
        hE h₃ e (fun c o c1 c3 c4 x => hs₃ _ _ c4 (hs₂.extBut _ _ c3 (hs₁.extBut _ _ c1 x))) he)
  | false =>
    rw [if_pos (show (Value.bool false != Value.bool true) = true from rfl)]
    refine wpAny_bind (wpAny_setField_rec hz (by simp) fun h₁ hz₁ hs₁ => ?_)
    refine wpAny_pure ?_
    simp only [Bool.false_eq_true, if_false]
    rw [← Array.forIn_toList]
    simp only [List.forIn_cons, List.forIn_nil]
    refine wpAny_bind (wpAny_bind (wpAny_bind (wpAny_holding ?_)))
    show wpAny _ _ (Builtin.SmallTypes.nextOf (.ref i1) >>= _) _ _ _
    cases hx : xs[k1]? with
    | none => exact wpAny_bind (wpAny_nextOf_list_end hh (h1.extBut hs₁.extBut D.i1z) (hl1.extBut hs₁.extBut D.l1z) hx fun h₂ e hs₂ he => hE h₂ e (fun c o c1 c3 _ x => hs₂ _ _ c3 (hs₁.extBut _ _ c1 x)) he)
    | some x =>
      have hy : ys[k2]? = none := by rcases hend with h | h; rw [hx] at h; cases h; exact h
      refine wpAny_bind (wpAny_nextOf_list_item (h1.extBut hs₁.extBut D.i1z) (hl1.extBut hs₁.extBut D.l1z) hx fun h₂ h1₂ hs₂ => wpAny_pure ?_)
      refine wpAny_pure ?_
      refine wpAny_bind (wpAny_bind (wpAny_holding ?_))
      show wpAny _ _ (Builtin.SmallTypes.nextOf (.ref i2) >>= _) _ _ _
      exact wpAny_bind (wpAny_nextOf_list_end hh ((h2.extBut hs₁.extBut D.i2z).extBut hs₂.extBut D.i12.symm) ((hl2.extBut hs₁.extBut D.l2z).extBut hs₂.extBut D.l2i1) hy fun h₃ e hs₃ he =>
        hE h₃ e (fun c o c1 c3 c4 x => hs₃ _ _ c4 (hs₂.extBut _ _ c3 (hs₁.extBut _ _ c1 x))) he)
end
end PySem
namespace PySem
open Sem (wp)
/-- a zip over two lists at its i-th turn: its own tuple free, or handed out -/
structure ZSt (h : Heap) (z TI TO i1 i2 l1 l2 S : Addr) (xs ys : Array Value) (i : Nat) : Prop where
  own : IsZip h z TI TO .none ∨ ∃ a f oa, ZipOut h z TI TO a f ∧ h.get? a = some oa ∧ a ≠ z ∧ a ≠ S ∧ a ≠ i1 ∧ a ≠ i2 ∧ a ≠ TO
  ti : IsPair h TI (.ref i1) (.ref i2)
  to : ∃ u v, IsPair h TO u v
  it1 : h.IsListIter i1 l1 i
  it2 : h.IsListIter i2 l2 i
  ls1 : h.IsList l1 xs
  ls2 : h.IsList l2 ys
theorem ZSt.keep {h h' : Heap} {z TI TO i1 i2 l1 l2 S : Addr} {xs ys : Array Value} {i : Nat} (x : ZSt h z TI TO i1 i2 l1 l2 S xs ys i) (hk : ∀ b o, b ≠ S → h.get? b = some o → h'.get? b = some o)
    (hS : S ≠ z ∧ S ≠ TI ∧ S ≠ TO ∧ S ≠ i1 ∧ S ≠ i2 ∧ S ≠ l1 ∧ S ≠ l2) : ZSt h' z TI TO i1 i2 l1 l2 S xs ys i := by
  obtain ⟨s1, s2, s3, s4, s5, s6, s7⟩ := hS
  refine ⟨?_, hk _ _ s2.symm x.ti, let ⟨u, v, e⟩ := x.to; ⟨u, v, hk _ _ s3.symm e⟩, x.it1.at fun o e => hk _ o s4.symm e, x.it2.at fun o e => hk _ o s5.symm e, x.ls1.at fun o e => hk _ o s6.symm e, x.ls2.at fun o e => hk _ o s7.symm e⟩
  rcases x.own with e | ⟨a, f, oa, e, ea, a1, a2, a3⟩
  · exact .inl (hk _ _ s1.symm e)
  · exact .inr ⟨a, f, oa, hk _ _ s1.symm e, hk _ _ a2 ea, a1, a2, a3⟩
section
variable {prog : Program} {w : World} {A : Around} {E : Value → Shared → Prop} {s : Shared}
theorem zst_item {z TI TO i1 i2 l1 l2 S : Addr} {xs ys : Array Value} {i : Nat} {x y : Value} {Q : Option Value → Shared → Prop} (D : ZipApart z TI TO i1 i2 l1 l2) (st : ZSt s.heap z TI TO i1 i2 l1 l2 S xs ys i) (hS : S < s.heap.objs.size)
    (hx : xs[i]? = some x) (hy : ys[i]? = some y)
    (hQ : ∀ h', ZSt h' z TI TO i1 i2 l1 l2 S xs ys (i + 1) → IsPair h' s.heap.objs.size x y → h'.objs.size = s.heap.objs.size + 1 →
      (∀ c o, c ≠ z → c ≠ TO → c ≠ i1 → c ≠ i2 → s.heap.get? c = some o → h'.get? c = some o) → Q (some (.ref s.heap.objs.size)) { s with heap := h' }) :
    wpAny (model prog w) A (pyNext (.ref z)) Q E s := by
  have lt : ∀ {b : Addr} {o : Obj}, s.heap.get? b = some o → s.heap.objs.size ≠ b := fun e => Nat.ne_of_gt (Heap.lt_size e)
  obtain ⟨u0, v0, hTO⟩ := st.to
  have l1' : s.heap.objs.size ≠ i1 := by obtain ⟨_, e, _⟩ := st.it1; exact lt e
  have l2' : s.heap.objs.size ≠ i2 := by obtain ⟨_, e, _⟩ := st.it2; exact lt e
  rcases st.own with hz | ⟨a, f, oa, hz, ha, a1, a2, a3, a4, a5⟩
  · refine wpAny_pyNext_zip_item D hz st.ti hTO st.it1 st.it2 st.ls1 st.ls2 hx hy fun h' b1 b2 b3 b4 b5 b6 b7 => hQ h' ⟨.inr ⟨_, false, _, b1, b5, lt hz, Nat.ne_of_gt hS, l1', l2', lt hTO⟩, ?_, ⟨_, _, b2⟩, b3, b4, ?_, ?_⟩ b5 b6 b7
    · exact b7 _ _ D.TIz D.TITO D.TIi1 D.TIi2 st.ti
    · exact st.ls1.at fun o e => b7 _ o D.l1z D.l1TO D.l1i1 D.l1i2 e
    · exact st.ls2.at fun o e => b7 _ o D.l2z D.l2TO D.l2i1 D.l2i2 e
  · have hT : s.TypeIs (.ref z) "zip" := ⟨_, hz, rfl⟩
    unfold pyNext
    refine wpAny_bind (wpAny_attempt (wpAny_callSpecial?_slot (name := Str.ofString "__next__") hT F.slot_zip_next
      (wpAny_call_entry F.slot_zip_next hT F.entry_zip_next
        (zip_out_item D hz ha st.ti st.it1 st.it2 st.ls1 st.ls2 hx hy fun h' b1 b3 b4 b5 b6 b7 => wpAny_pure (hQ h' ⟨.inr ⟨a, true, oa, b1, b7 a oa a1 a3 a4 ha, a1, a2, a3, a4, a5⟩, ?_, ⟨u0, v0, ?_⟩, b3, b4, ?_, ?_⟩ b5 b6 fun c o c1 _ c3 c4 e => b7 c o c1 c3 c4 e)) (F.args_zip_next_1 _))))
    · exact b7 _ _ D.TIz D.TIi1 D.TIi2 st.ti
    · exact b7 _ _ D.TOz D.TOi1 D.TOi2 hTO
    · exact st.ls1.at fun o e => b7 _ o D.l1z D.l1i1 D.l1i2 e
    · exact st.ls2.at fun o e => b7 _ o D.l2z D.l2i1 D.l2i2 e
theorem zst_done {z TI TO i1 i2 l1 l2 S : Addr} {xs ys : Array Value} {i : Nat} {Q : Option Value → Shared → Prop} (hh : A.handled = none) (D : ZipApart z TI TO i1 i2 l1 l2) (st : ZSt s.heap z TI TO i1 i2 l1 l2 S xs ys i)
    (hend : xs[i]? = none ∨ ys[i]? = none) (hQ : ∀ h', (∀ c o, c ≠ z → c ≠ TO → c ≠ i1 → c ≠ i2 → s.heap.get? c = some o → h'.get? c = some o) → Q none { s with heap := h' }) :
    wpAny (model prog w) A (pyNext (.ref z)) Q E s := by
  obtain ⟨u0, v0, hTO⟩ := st.to
  rcases st.own with hz | ⟨a, f, oa, hz, ha, _⟩
  · exact wpAny_pyNext_zip_end hh D hz st.ti hTO st.it1 st.it2 st.ls1 st.ls2 hend hQ
  · have hT : s.TypeIs (.ref z) "zip" := ⟨_, hz, rfl⟩
    unfold pyNext
    refine wpAny_bind (wpAny_attempt (wpAny_callSpecial?_slot (name := Str.ofString "__next__") hT F.slot_zip_next
      (wpAny_call_entry F.slot_zip_next hT F.entry_zip_next (zip_out_end hh D hz ha st.ti st.it1 st.it2 st.ls1 st.ls2 hend fun h' e hk he => ?_) (F.args_zip_next_1 _))))
    obtain ⟨o, ho, hc⟩ := he
    refine wpAny_bind (wpAny_isInstance (T := "StopIteration") (b := true) ⟨o, ho, hc⟩ isSubtype_stop ?_)
    exact wpAny_pure (hQ _ fun c o c1 _ c3 c4 e => hk c o c1 c3 c4 e)
end
structure ZG (xs ys : Array Value) (lo : Addr) (h : Heap) (as : List Addr) : Prop where
  rise : as.Pairwise (· < ·)
  above : ∀ a ∈ as, lo ≤ a
  pairs : ∀ (j : Nat) (a : Addr), as[j]? = some a → ∃ x y, xs[j]? = some x ∧ ys[j]? = some y ∧ IsPair h a x y
theorem ZG.there {xs ys : Array Value} {lo : Addr} {h : Heap} {as : List Addr} (g : ZG xs ys lo h as) {a : Addr} (ha : a ∈ as) : a < h.objs.size := by
  obtain ⟨j, hj⟩ := List.mem_iff_getElem?.mp ha
  obtain ⟨_, _, _, _, e⟩ := g.pairs j a hj
  exact Heap.lt_size e
section
variable {prog : Program} {w : World} {A : Around} {s : Shared} {R : Result → Shared → Prop} {xs ys : Array Value}
theorem zl_loop {S z TI TO i1 i2 l1 l2 lo : Addr} {n : Nat} (hh : A.handled = none) (D : ZipApart z TI TO i1 i2 l1 l2) (hS : S ≠ z ∧ S ≠ TI ∧ S ≠ TO ∧ S ≠ i1 ∧ S ≠ i2 ∧ S ≠ l1 ∧ S ≠ l2) (hlo : S < lo ∧ z < lo ∧ TO < lo ∧ i1 < lo ∧ i2 < lo)
    (hn : n = min xs.size ys.size) (hnl : n ≤ sizeLine) (res : Value) {h₁ : Heap}
    (hR : ∀ h' acc c as, (∀ b o, b ≠ S → b ≠ z → b ≠ TO → b ≠ i1 → b ≠ i2 → h₁.get? b = some o → h'.get? b = some o) → h'.get? S = some { cls := .type "list", dict := none, data := .seq acc c, slots := #[] } → as.length = n → ZG xs ys lo h' as →
      acc.toList = as.map Value.ref → R (.ok (.ret res)) { s with heap := h' }) :
    ∀ (k i : Nat) (h : Heap) (c : Nat) (acc : Array Value) (as : List Addr), n - i = k → i ≤ n → ZSt h z TI TO i1 i2 l1 l2 S xs ys i → (∀ b o, b ≠ S → b ≠ z → b ≠ TO → b ≠ i1 → b ≠ i2 → h₁.get? b = some o → h.get? b = some o) →
      h.get? S = some { cls := .type "list", dict := none, data := .seq acc c, slots := #[] } → acc.toList = as.map Value.ref → as.length = i → ZG xs ys lo h as → lo ≤ h.objs.size →
      codeAny (model prog w) A (.builtin "list.extend.loop" ⟨[.ref S, .ref z, res], []⟩) R { s with heap := h } := by
  obtain ⟨s1, s2, s3, s4, s5, s6, s7⟩ := id hS
  obtain ⟨o1, o2, o3, o4, o5⟩ := hlo
  have ap : ∀ {u v : Addr}, u < lo → lo ≤ v → v ≠ u := fun p q => Nat.ne_of_gt (Nat.lt_of_lt_of_le p q)
  intro k
  induction k with
  | zero =>
    intro i h c acc as hk hi hst hkeep hSg hacc hal hG hIs
    have hin : i = n := by omega
    have hend : xs[i]? = none ∨ ys[i]? = none := by
      rcases Nat.le_total xs.size ys.size with q | q
      · exact .inl (Array.getElem?_eq_none (by omega))
      · exact .inr (Array.getElem?_eq_none (by omega))
    refine codeAny_builtin F.entry_extend_loop ?_
    rw [Around.under_plainId F.plain_extend_loop _]
    show wpAny _ A.in1 (pyNext (.ref z) >>= _) _ _ _
    refine wpAny_bind (zst_done (s := { s with heap := h }) (A := A.in1) hh D hst hend fun h' he => ?_)
    refine wpAny_pure (hR h' acc c as (fun b o h1 h2 h3 h4 h5 e => he b o h2 h3 h4 h5 (hkeep b o h1 h2 h3 h4 h5 e)) (he S _ s1 s3 s4 s5 hSg) (by omega) ⟨hG.rise, hG.above, fun j a hj => ?_⟩ hacc)
    obtain ⟨x, y, e1, e2, e3⟩ := hG.pairs j a hj
    have hla := hG.above a (List.mem_of_getElem? hj)
    exact ⟨x, y, e1, e2, he a _ (ap o2 hla) (ap o3 hla) (ap o4 hla) (ap o5 hla) e3⟩
  | succ k ih =>
    intro i h c acc as hk hi hst hkeep hSg hacc hal hG hIs
    have hlt : i < n := by omega
    obtain ⟨x, hx⟩ : ∃ x, xs[i]? = some x := ⟨xs[i]'(by omega), Array.getElem?_eq_getElem (by omega)⟩
    obtain ⟨y, hy⟩ : ∃ y, ys[i]? = some y := ⟨ys[i]'(by omega), Array.getElem?_eq_getElem (by omega)⟩
    have hsz : acc.size = i := by rw [← Array.length_toList, hacc, List.length_map, hal]
    refine codeAny_builtin F.entry_extend_loop ?_
    rw [Around.under_plainId F.plain_extend_loop _]
    show wpAny _ A.in1 (pyNext (.ref z) >>= _) _ _ _
    refine wpAny_bind (zst_item (s := { s with heap := h }) (S := S) D hst (Heap.lt_size hSg) hx hy fun h' hst' ht hz hkp => ?_)
    dsimp only at ht hz hkp ⊢
    have hS' := hkp S _ s1 s3 s4 s5 hSg
    have up : ∀ b o, b ≠ S → h'.get? b = some o → (h'.update S (Obj.mapSeq (·.push (Value.ref h.objs.size)))).get? b = some o := fun b o hb e => (Heap.get?_update_other _ _ (Ne.symm hb)).trans e
    have hSl : S < h.objs.size := Heap.lt_size hSg
    show wpAny _ A.in1 (updateSeq S (·.push (Value.ref h.objs.size)) >>= _) _ _ _
    refine wpAny_bind ?_
    refine wpAny_updateSeq hS' rfl (wpAny_pure ⟨plainId_quiet F.plain_extend_loop _, ih (i + 1) _ _ (acc.push (Value.ref h.objs.size)) (as ++ [h.objs.size]) (by omega) hlt (hst'.keep up hS)
      (fun b o h1 h2 h3 h4 h5 e => up b o h1 (hkp b o h2 h3 h4 h5 (hkeep b o h1 h2 h3 h4 h5 e))) (Heap.get?_update_self _ hS' rfl) (by rw [Array.toList_push, hacc, List.map_append]; rfl) (by rw [List.length_append, hal]; rfl) ⟨?_, ?_, ?_⟩ ?_⟩) (by rw [hsz]; omega) (by show (acc.push (Value.ref h.objs.size)).size ≤ sizeLine + 1; rw [Array.size_push, hsz]; omega)
    · refine List.pairwise_append.mpr ⟨hG.rise, List.pairwise_singleton _ _, fun a ha b hb => ?_⟩
      rw [List.mem_singleton.mp hb]
      exact hG.there ha
    · intro a ha
      rcases List.mem_append.mp ha with ha | ha
      · exact hG.above a ha
      · rw [List.mem_singleton.mp ha]; exact hIs
    · intro j b hj
      rcases Nat.lt_trichotomy j as.length with h1 | h1 | h1
      · rw [List.getElem?_append_left h1] at hj
        obtain ⟨x', y', e1, e2, e3⟩ := hG.pairs j b hj
        have hb := hG.above b (List.mem_of_getElem? hj)
        exact ⟨x', y', e1, e2, up b _ (ap o1 hb) (hkp b _ (ap o2 hb) (ap o3 hb) (ap o4 hb) (ap o5 hb) e3)⟩
      · subst h1
        have hb : h.objs.size = b := by simpa using hj
        subst hb
        exact ⟨x, y, by rw [hal]; exact hx, by rw [hal]; exact hy, up _ _ (Nat.ne_of_gt hSl) ht⟩
      · have hnone : (as ++ [h.objs.size])[j]? = none := List.getElem?_eq_none (by rw [List.length_append, List.length_singleton]; omega)
        rw [hnone] at hj; cases hj
    · have e : (h'.update S (Obj.mapSeq (·.push (Value.ref h.objs.size)))).get? h.objs.size = _ := up _ _ (Nat.ne_of_gt hSl) ht
      exact Nat.le_of_lt (Nat.lt_of_le_of_lt hIs (Heap.lt_size e))
end
section
variable {prog : Program} {w : World} {A : Around} {E : Value → Shared → Prop} {s : Shared} {xs ys : Array Value}
theorem zl_extend {R : Result → Shared → Prop} {S z TI TO i1 i2 l1 l2 : Addr} {n : Nat} (hh : A.handled = none) (D : ZipApart z TI TO i1 i2 l1 l2) (hS : S ≠ z ∧ S ≠ TI ∧ S ≠ TO ∧ S ≠ i1 ∧ S ≠ i2 ∧ S ≠ l1 ∧ S ≠ l2)
    (hn : n = min xs.size ys.size) (hnl : n ≤ sizeLine) (res : Value) (c₀ : Nat) (hz0 : IsZip s.heap z TI TO .none) (st : ZSt s.heap z TI TO i1 i2 l1 l2 S xs ys 0) (hSg : s.heap.get? S = some { cls := .type "list", data := .seq #[] c₀ })
    (hR : ∀ h' acc c as, (∀ b o, b ≠ S → b ≠ z → b ≠ TO → b ≠ i1 → b ≠ i2 → s.heap.get? b = some o → h'.get? b = some o) → h'.get? S = some { cls := .type "list", dict := none, data := .seq acc c, slots := #[] } → as.length = n → ZG xs ys s.heap.objs.size h' as →
      acc.toList = as.map Value.ref → R (.ok (.ret res)) { s with heap := h' }) :
    wpAny (model prog w) A.in1 (Builtin.List.listExtendWith (.ref S) (.ref z) res)
      (fun fin s' => match fin with | .done f => R (.ok f) s' | .again c' => c'.quiet = true ∧ codeAny (model prog w) A c' R s') (fun e s' => R (.error e) s') s := by
  have hT : s.TypeIs (.ref z) "zip" := ⟨_, hz0, rfl⟩
  obtain ⟨s1, s2, s3, s4, s5, s6, s7⟩ := id hS
  have hlo : S < s.heap.objs.size ∧ z < s.heap.objs.size ∧ TO < s.heap.objs.size ∧ i1 < s.heap.objs.size ∧ i2 < s.heap.objs.size := by
    obtain ⟨_, _, e3⟩ := st.to
    obtain ⟨_, e4, _⟩ := st.it1
    obtain ⟨_, e5, _⟩ := st.it2
    exact ⟨Heap.lt_size hSg, Heap.lt_size hz0, Heap.lt_size e3, Heap.lt_size e4, Heap.lt_size e5⟩
  unfold Builtin.List.listExtendWith
  refine wpAny_bind (wpAny_typeOf hT ?_)
  have h1 : Builtin.List.listSameRef (.ref S) (.ref z) = false := by simp [Builtin.List.listSameRef, s1]
  have h2 : (Value.type "zip" == Value.type "list") = false := by decide
  have h3 : (Value.type "zip" == Value.type "tuple") = false := by decide
  simp only [h1, h2, h3, Bool.or_false, Bool.false_eq_true, if_false]
  refine wpAny_bind (wpAny_pyIter_zip hz0 ?_)
  refine wpAny_bind (wpAny_holding ?_)
  unfold Builtin.List.listLengthHint
  refine wpAny_bind (wpAny_specialOf hT F.zip_no_len ?_)
  show wpAny _ A.in1 (specialOf (Value.ref z) (Str.ofString "__length_hint__") >>= _) _ _ _
  refine wpAny_bind (wpAny_specialOf hT F.zip_no_hint ?_)
  refine wpAny_pure ?_
  show wpAny _ A.in1 (rule "list.extend.makes-room" >>= fun _ => Builtin.List.listTouch (.ref S) >>= fun _ =>
    again (.builtin "list.extend.loop" ⟨[.ref S, .ref z, res], []⟩)) _ _ _
  refine wpAny_bind (wpAny_rule ?_)
  refine wpAny_bind ?_
  show wpAny _ A.in1 (updateSeq S (·.push .none) >>= fun _ => updateSeq S (·.pop)) _ _ _
  refine wpAny_bind (wpAny_updateSeq hSg rfl ?_)
  have hS₂ := Heap.get?_update_self (Obj.mapSeq (·.push Value.none)) hSg rfl
  refine wpAny_updateSeq hS₂ rfl ?_
  have hS₃ := Heap.get?_update_self (Obj.mapSeq (·.pop)) hS₂ rfl
  have oth : ∀ b o, b ≠ S → s.heap.get? b = some o → ((s.heap.update S (Obj.mapSeq (·.push Value.none))).update S (Obj.mapSeq (·.pop))).get? b = some o :=
    fun b o hb e => (Heap.get?_update_other _ _ (Ne.symm hb)).trans ((Heap.get?_update_other _ _ (Ne.symm hb)).trans e)
  refine wpAny_pure ⟨plainId_quiet F.plain_extend_loop _, zl_loop (s := s) (h₁ := s.heap) (lo := s.heap.objs.size) hh D hS hlo hn hnl res (fun h' acc c as hk hS' hl hG hacc => hR h' acc c as hk hS' hl hG hacc)
    n 0 _ _ _ [] rfl (Nat.zero_le _) (st.keep oth hS) (fun b o hb _ _ _ _ e => oth b o hb e) hS₃ rfl rfl ⟨List.Pairwise.nil, (fun _ ha => nomatch ha), (fun j a hj => by simp at hj)⟩ ?_⟩
  rw [Heap.size_update, Heap.size_update]
  exact Nat.le_refl _
theorem zl_call {Q : Value → Shared → Prop} {z TI TO i1 i2 l1 l2 : Addr} {n : Nat} (hh : A.handled = none) (D : ZipApart z TI TO i1 i2 l1 l2) (hn : n = min xs.size ys.size) (hnl : n ≤ sizeLine)
    (hz : IsZip s.heap z TI TO .none) (hTI : IsPair s.heap TI (.ref i1) (.ref i2)) (hTO : ∃ u v, IsPair s.heap TO u v) (h1 : s.heap.IsListIter i1 l1 0) (h2 : s.heap.IsListIter i2 l2 0) (hl1 : s.heap.IsList l1 xs) (hl2 : s.heap.IsList l2 ys)
    (hQ : ∀ h' acc c as, (∀ b o, b ≠ z → b ≠ TO → b ≠ i1 → b ≠ i2 → s.heap.get? b = some o → h'.get? b = some o) → h'.get? s.heap.objs.size = some { cls := .type "list", dict := none, data := .seq acc c, slots := #[] } → as.length = n →
      ZG xs ys (s.heap.objs.size + 1) h' as → acc.toList = as.map Value.ref → Q (.ref s.heap.objs.size) { s with heap := h' }) :
    wpAny (model prog w) A (call (.type "list") [.ref z]) Q E s := by
  refine callType_codes (Q₁ := fun obj s₁ => obj = .ref s.heap.objs.size ∧ s₁ = { s with heap := s.heap.push { cls := .type "list", data := .seq #[] } }) F.called_list (F.typeCall_list_1 _) F.entry_list_init
    (code_list_new _ ⟨rfl, rfl⟩) fun obj s₁ h₁ => ?_
  obtain ⟨rfl, rfl⟩ := h₁
  have hSg : (s.heap.push { cls := .type "list", data := .seq #[] }).get? s.heap.objs.size = some { cls := .type "list", data := .seq #[] } := Heap.get?_push_size _ rfl
  have lt : ∀ {b : Addr} {o : Obj}, s.heap.get? b = some o → s.heap.objs.size ≠ b := fun e => Nat.ne_of_gt (Heap.lt_size e)
  have hS : s.heap.objs.size ≠ z ∧ s.heap.objs.size ≠ TI ∧ s.heap.objs.size ≠ TO ∧ s.heap.objs.size ≠ i1 ∧ s.heap.objs.size ≠ i2 ∧ s.heap.objs.size ≠ l1 ∧ s.heap.objs.size ≠ l2 := by
    obtain ⟨_, _, e3⟩ := hTO
    obtain ⟨_, e4, _⟩ := h1
    obtain ⟨_, e5, _⟩ := h2
    obtain ⟨_, e6, _⟩ := hl1
    obtain ⟨_, e7, _⟩ := hl2
    exact ⟨lt hz, lt hTI, lt e3, lt e4, lt e5, lt e6, lt e7⟩
  refine ⟨⟨_, hSg, rfl⟩, F.args_list_init_2 _ _, ?_⟩
  show wpAny _ _ (do let old ← Builtin.List.listItems (.ref s.heap.objs.size); Builtin.List.listUpdate (.ref s.heap.objs.size) (fun _ => #[]); letGo old.toList.reverse; Builtin.List.listExtendWith (.ref s.heap.objs.size) (.ref z) .none) _ _ _
  refine wpAny_bind ?_
  unfold Builtin.List.listItems
  refine wpAny_bind (wpAny_seqItems hSg rfl (wpAny_pure ?_))
  show wpAny _ _ (updateSeq s.heap.objs.size (fun _ => #[]) >>= fun _ => letGo (#[] : Array Value).toList.reverse >>= fun _ => Builtin.List.listExtendWith (.ref s.heap.objs.size) (.ref z) .none) _ _ _
  refine wpAny_bind (wpAny_updateSeq hSg rfl ?_)
  have hS₂ := Heap.get?_update_self (Obj.mapSeq (fun _ => (#[] : Array Value))) hSg rfl
  have kp : ∀ b o, s.heap.get? b = some o → ((s.heap.push { cls := .type "list", data := .seq #[] }).update s.heap.objs.size (Obj.mapSeq (fun _ => (#[] : Array Value)))).get? b = some o :=
    fun b o e => (Heap.get?_update_other _ _ (lt e)).trans (Heap.get?_push_of_some _ e)
  refine wpAny_bind (wpAny_letGo ?_)
  refine zl_extend (xs := xs) (ys := ys) (A := A.in1) hh D hS hn hnl .none _ (kp _ _ hz) ⟨.inl (kp _ _ hz), kp _ _ hTI, let ⟨u, v, e⟩ := hTO; ⟨u, v, kp _ _ e⟩, h1.at fun o e => kp _ o e, h2.at fun o e => kp _ o e, hl1.at fun o e => kp _ o e, hl2.at fun o e => kp _ o e⟩ hS₂ fun h' acc c as hk hS' hl hG hacc => ?_
  refine ⟨rfl, hQ h' acc c as (fun b o b1 b2 b3 b4 e => hk b o (fun q => lt e q.symm) b1 b2 b3 b4 (kp b o e)) hS' hl ⟨hG.rise, fun a ha => ?_, hG.pairs⟩ hacc⟩
  have := hG.above a ha
  rw [Heap.size_update, Heap.size_push] at this
  exact this
end
end PySem
namespace L2
open PySem PySem.Spec PyProof.Rows
/-- new objects, laid at once -/
def joinH (H N : Hp) : Hp := fun b => match N b with
  | some o => some o
  | none => H b
theorem joinH_new {H N : Hp} {b : Addr} {o : HO} (h : N b = some o) : joinH H N b = some o := by unfold joinH; rw [h]
theorem joinH_old {H N : Hp} {b : Addr} (h : N b = none) : joinH H N b = H b := by unfold joinH; rw [h]
section
variable {X : Cx} {pins : List (Addr × Obj)} {σ : St} {H : Hp} {s : Shared}
theorem joinH_keeps {N : Hp} (I : Inv X pins σ H s) (hN : ∀ a o, N a = some o → s.heap.objs.size ≤ a) {b : Addr} {u : HO} (e : H b = some u) : joinH H N b = some u := by
  cases q : N b with
  | none => rw [joinH_old q]; exact e
  | some o => exact absurd (Nat.lt_of_lt_of_le (I.hok.lt e) (hN b o q)) (Nat.lt_irrefl _)
theorem Inv.laidN {h' : Heap} {t' : Nat} {N : Hp} (I : Inv X pins σ H s) (k : ∀ b u, s.heap.get? b = some u → h'.get? b = some u) (hN : ∀ a o, N a = some o → s.heap.objs.size ≤ a)
    (new : ∀ a o, N a = some o → ObjOk X.prog X.w (joinH H N) h' a o) : Inv X pins σ (joinH H N) { s with heap := h', toks := t' } := by
  have old : ∀ b u, H b = some u → joinH H N b = some u := fun b u e => joinH_keeps I hN e
  refine I.un ⟨fun b o q _ _ _ => k b o q, fun b o q _ _ _ => ⟨o.slots, k b o q⟩, fun b o q n _ => ?_, fun b o q _ => ⟨o, k b o q⟩, fun b xs q => old _ _ q, fun b o u q => old _ _ q, fun b ps q => ⟨#[], by rw [old _ _ q]; simp⟩⟩ fun b u e => ?_
  · have : N b = none := by
      cases z : N b with
      | none => rfl
      | some o' => exact absurd (Nat.lt_of_lt_of_le (Heap.lt_size q) (hN b o' z)) (Nat.lt_irrefl _)
    rw [joinH_old this]; exact n
  · cases q : N b with
    | some o' =>
      rw [joinH_new q] at e
      cases e
      exact new b _ q
    | none => rw [joinH_old q] at e; exact (I.hok b u e).stay (fun c v _ q => k c v q) (fun c q => old _ _ q) fun c xs q => old _ _ q
end
theorem vals_refs : ∀ as : List Addr, Vals (as.map V.ref) (as.map Value.ref)
  | [] => .nil
  | _ :: as => .cons rfl (vals_refs as)
/-- list(zip(a, b)) -/
def tLZ (K : PySem.W.Frag) (ta : TA) : TE := fun σ H Q => ta σ H fun vs H1 => ∃ a b xs ys, vs = [.ref a, .ref b] ∧ SqL K H1 a xs ∧ SqL K H1 b ys ∧
  ∀ (l : Addr) (as : List Addr) (H2 : Hp), H1 l = none → as.length = min xs.length ys.length → Same H1 H2 → H2 l = some (.lst (as.map V.ref)) → (∀ (j : Nat) (x y : V), xs[j]? = some x → ys[j]? = some y → ∃ c, as[j]? = some c ∧ H2 c = some (.tup [x, y])) → Q (.ref l) H2
theorem pe_listzip {X : Cx} {e e2 : Expr} {ta : TA} {p pos p2 pos2 : Pos} (hc : X.calm = true) (hg : Gl X "zip") (hm : X.mg "zip" = none) (hg' : Gl X "list") (hm' : X.mg "list" = none) (ha : PA X [e, e2] ta)
    (hs : starEach [e, e2] X.env = (false, eval e X.env) :: starEach [e2] X.env := by rfl) (hpl : (backTo pos (starEach [e2] X.env)).any (·.1) = false := by rfl)
    (he : starEach [.Call (.Name "zip" p) [e, e2] [] pos] X.env = (false, eval (.Call (.Name "zip" p) [e, e2] [] pos) X.env) :: starEach [] X.env := by rfl)
    (ht : backTo pos2 (starEach [.Call (.Name "zip" p) [e, e2] [] pos] X.env) = [(false, eval (.Call (.Name "zip" p) [e, e2] [] pos) X.env)] := by rfl) :
    PE X (.Call (.Name "list" p2) [.Call (.Name "zip" p) [e, e2] [] pos] [] pos2) (tLZ X.K ta) := by
  intro pins s σ H Q I h
  refine wpAny_Call_Name_kw (ld_blt I hg' hm' PyProof.Rows.boot_list ?_)
  refine PyProof.Rows.callWith_type1 ?_ he rfl
  rw [ht]
  refine Calls.spliced_cons (Call_ (ld_blt I hg hm boot_zip5 (PyProof.Rows.callWith_type1 (thn (ha pos pins s σ H _ I h) fun us s1 ⟨vs, H1, I1, r1, q1⟩ => ?_) hs hpl)))
  obtain ⟨a, b, xs, ys, ex, hqx, hqy, q⟩ := q1
  subst ex
  cases r1 with
  | cons r rr =>
    cases rr with
    | cons r' rr =>
      cases rr
      cases r
      cases r'
      obtain ⟨its, rv, p1, z1⟩ := I1.list hqx
      obtain ⟨its2, rv2, p2, z2⟩ := I1.list hqy
      have la : a < s1.heap.objs.size := p1.lt
      have lb : b < s1.heap.objs.size := p2.lt
      have e1 := rv.length
      have e2 := rv2.length
      refine call_zip_2 p1.isList p2.isList fun h' hz hTI hTO h1 h2 hsz hk => Calls.spliced_nil ?_
      refine zl_call (s := { s1 with heap := h' }) (n := min xs.length ys.length) (I.ok.hd hc) (PySem.W.ktu_apart s1.heap.objs.size a b la lb) (by rw [List.size_toArray, List.size_toArray, e1, e2]) (Nat.le_trans (Nat.min_le_left _ _) z1) hz hTI ⟨_, _, hTO⟩ h1 h2
        (p1.isList.at fun o e => hk _ o e) (p2.isList.at fun o e => hk _ o e) fun h2' acc c as hk2 hl has hG hacc => ?_
      have ne4 : ∀ {u : Addr} {o : Obj} {v : Addr}, s1.heap.get? u = some o → s1.heap.objs.size ≤ v → u ≠ v := fun e q => Nat.ne_of_lt (Nat.lt_of_lt_of_le (Heap.lt_size e) q)
      have hk3 : ∀ b o, s1.heap.get? b = some o → h2'.get? b = some o := fun b o e =>
        hk2 b o (ne4 e (Nat.le_add_right _ _)) (ne4 e (Nat.le_add_right _ _)) (ne4 e (Nat.le_refl _)) (ne4 e (Nat.le_add_right _ _)) (hk b o e)
      have hl' : h2'.get? h'.objs.size = some { cls := .type "list", dict := none, data := .seq acc c, slots := #[] } := hl
      have hG' : ZG its.toArray its2.toArray (h'.objs.size + 1) h2' as := hG
      have nd : as.Nodup := hG'.rise.imp fun q => Nat.ne_of_lt q
      have low : s1.heap.objs.size ≤ h'.objs.size := by rw [hsz]; exact Nat.le_add_right _ _
      let N : Hp := fun b => if b = h'.objs.size then some (.lst (as.map V.ref)) else if b ∈ as then some (.tup [xs.getD (as.idxOf b) .non, ys.getD (as.idxOf b) .non]) else none
      have hNs : N h'.objs.size = some (.lst (as.map V.ref)) := if_pos rfl
      have hNa : ∀ (j : Nat) (b : Addr) (x y : V), as[j]? = some b → xs[j]? = some x → ys[j]? = some y → N b = some (.tup [x, y]) := fun j b x y ej ex ey => by
        have hb := List.mem_of_getElem? ej
        have hne : b ≠ h'.objs.size := Nat.ne_of_gt (hG'.above b hb)
        have hj : as.idxOf b = j := by
          obtain ⟨hjl, hjb⟩ := List.getElem?_eq_some_iff.mp ej
          rw [← hjb]
          exact nd.idxOf_getElem j hjl
        show (if b = h'.objs.size then _ else if b ∈ as then _ else _) = _
        rw [if_neg hne, if_pos hb, hj, List.getD_eq_getElem?_getD, List.getD_eq_getElem?_getD, ex, ey]; rfl
      have hN : ∀ b o, N b = some o → s1.heap.objs.size ≤ b := fun b o e => by
        by_cases c1 : b = h'.objs.size
        · rw [c1]; exact low
        · by_cases c2 : b ∈ as
          · exact Nat.le_trans low (Nat.le_of_lt (hG'.above b c2))
          · have e' : (if b = h'.objs.size then _ else if b ∈ as then _ else none) = some o := e
            rw [if_neg c1, if_neg c2] at e'
            cases e'
      have get : ∀ (j : Nat) (b : Addr), as[j]? = some b → ∃ x y u v, xs[j]? = some x ∧ ys[j]? = some y ∧ RelV x u ∧ RelV y v ∧ IsPair h2' b u v := fun j b ej => by
        obtain ⟨u, v, eu, ev, ep⟩ := hG'.pairs j b ej
        have hjl : j < as.length := (List.getElem?_eq_some_iff.mp ej).1
        have hx : xs[j]? = some (xs[j]'(by omega)) := List.getElem?_eq_getElem (by omega)
        have hy : ys[j]? = some (ys[j]'(by omega)) := List.getElem?_eq_getElem (by omega)
        obtain ⟨u', eu', ru⟩ := rv.get hx
        obtain ⟨v', ev', rv'⟩ := rv2.get hy
        have z1 : u' = u := by simpa [eu'] using eu
        have z2 : v' = v := by simpa [ev'] using ev
        subst z1 z2
        exact ⟨_, _, u', v', hx, hy, ru, rv', ep⟩
      have I2 : Inv X pins σ (joinH H1 N) { s1 with heap := h2', toks := s1.toks } := I1.laidN hk3 hN fun b o e => by
        by_cases c1 : b = h'.objs.size
        · subst c1
          rw [hNs] at e
          cases e
          have ea : acc = (as.map Value.ref).toArray := by rw [← hacc]
          refine ⟨?_, as.map Value.ref, c, vals_refs as, ?_⟩
          · rw [List.length_map, has]; exact Nat.le_trans (Nat.min_le_left _ _) z1
          · rw [← ea]; exact hl'
        · by_cases c2 : b ∈ as
          · obtain ⟨j, ej⟩ := List.mem_iff_getElem?.mp c2
            obtain ⟨x, y, u, v, ex, ey, ru, rv', ep⟩ := get j b ej
            rw [hNa j b x y ej ex ey] at e
            cases e
            exact ⟨by show 2 ≤ sizeLine; decide, [u, v], .cons ru (.cons rv' .nil), ⟨_, ep, rfl, _, rfl⟩⟩
          · have e' : (if b = h'.objs.size then _ else if b ∈ as then _ else none) = some o := e
            rw [if_neg c1, if_neg c2] at e'
            cases e'
      refine ⟨.ref h'.objs.size, joinH H1 N, I2, rfl, q _ as _ (I1.hok.fresh low) has (fun b u e => joinH_keeps I1 hN e) (joinH_new hNs) fun j x y ex ey => ?_⟩
      have hjl : j < as.length := by
        have h3 := (List.getElem?_eq_some_iff.mp ex).1
        have h4 := (List.getElem?_eq_some_iff.mp ey).1
        omega
      exact ⟨as[j], List.getElem?_eq_getElem hjl, joinH_new (hNa j _ x y (List.getElem?_eq_getElem hjl) ex ey)⟩
/-- {k: v}, the key a tuple of numbers and texts; the new dict stands empty while the pair is made -/
def tDispT (tk tv : TE) : TE := fun σ H Q => ∀ p, H p = none → tk σ (upd H p (.dT [])) fun x H1 => tv σ H1 fun y H2 => ∃ b k, x = .ref b ∧ H2 b = some (.tup (k.map kV)) ∧ H2 p = some (.dT []) ∧ Q (.ref p) (upd H2 p (.dT [(k, y)]))
theorem pe_dispT {X : Cx} {pos : Pos} {k v : Expr} {tk tv : TE} (hu : X.A.units + 1 < cLine) (hk : PE X k tk) (hv : PE X v tv) : PE X (.Dict [some k] [v] pos) (tDispT tk tv) := by
  intro pins s σ H Q I q
  have hn := I.hok.fresh (Nat.le_refl s.heap.objs.size)
  have I1 := I.laid (a := s.heap.objs.size) (o := .dT []) (h' := s.heap.push { cls := .type "dict", data := .dict #[] }) (t' := s.toks) (fun _ _ q => Heap.get?_push_of_some _ q) (Nat.le_refl _) (dt_empty s.heap I.big)
  refine wpAny_Dict_any rfl rfl (by simp) (by show 1 ≤ 15; decide) (pairTrees_cons_walk (thn (hk pins _ σ _ _ I1 (q _ hn)) fun u s1 ⟨x, H1, I1, rx, q1⟩ => thn (hv pins s1 σ H1 _ I1 q1) fun w2 s2 ⟨y, H2, I2, ry, b, ks, ex, eb, e, q2⟩ => pairTrees_nil_walk ?_))
  subst ex
  cases (show u = Value.ref b from rx)
  obtain ⟨z, hd, xs, rel, dd⟩ := dt_of I2.hok e
  cases rel
  unfold storeAll
  rw [List.forIn_cons]
  refine wpAny_bind (wpAny_bind (wpAny_dictSet_heap (hsz := Nat.zero_le _) (knd := tupleKind (mixKind X.prog X.w)) (show X.A.units < cLine from Nat.lt_of_succ_lt hu) (key_of I2.hok eb) dd fun h' dd' hs => wpAny_pure ?_))
  show wpAny _ _ (forIn [] PUnit.unit _) _ _ _
  rw [List.forIn_nil]
  refine wpAny_pure ⟨.ref s.heap.objs.size, upd H2 s.heap.objs.size (.dT [(ks, y)]), ?_, rfl, q2⟩
  obtain ⟨q, es, ep, hq, h2, h3, h4, _, h5⟩ := dd'
  have rel0 : KT H2 [] [] := .nil
  refine d_write I2 (by rw [e]; exact True.intro) hs ⟨q, hq⟩ ⟨by show 1 ≤ sizeLine; decide, hd, _, (rel0.put ks eb ry).keeps fun c ys ec => ?_, q, es, ep, hq, h2, h3, h4, h5⟩
  rw [upd_ne (ne_of ec e (fun z => nomatch z))]
  exact ec
end L2
set_option maxHeartbeats 1000000
namespace Lm
/-! ### pushing what is new -/
section
variable {α β : Type} [DecidableEq α] [DecidableEq β]
def push (l : List α) (x : α) : List α := if x ∈ l then l else l ++ [x]
def ext (l xs : List α) : List α := xs.foldl push l
abbrev dd (xs : List α) : List α := ext [] xs
theorem ext_nil (l : List α) : ext l [] = l := rfl
theorem ext_cons (l : List α) (x : α) (xs : List α) : ext l (x :: xs) = ext (push l x) xs := rfl
theorem ext_app (l xs ys : List α) : ext l (xs ++ ys) = ext (ext l xs) ys := List.foldl_append
theorem ext_snoc (l xs : List α) (x : α) : ext l (xs ++ [x]) = push (ext l xs) x := by rw [ext_app]; rfl
theorem push_in {l : List α} {x : α} (h : x ∈ l) : push l x = l := if_pos h
theorem push_out {l : List α} {x : α} (h : x ∉ l) : push l x = l ++ [x] := if_neg h
theorem mem_push {l : List α} {x a : α} : a ∈ push l x ↔ a ∈ l ∨ a = x := by
  by_cases h : x ∈ l
  · rw [push_in h]
    constructor
    · exact .inl
    · rintro (q | rfl)
      · exact q
      · exact h
  · rw [push_out h]; simp
theorem mem_ext {a : α} : ∀ {xs l : List α}, a ∈ ext l xs ↔ a ∈ l ∨ a ∈ xs
  | [], l => by simp [ext_nil]
  | x :: xs, l => by rw [ext_cons, mem_ext, mem_push, List.mem_cons, or_assoc]
theorem mem_dd {a : α} {xs : List α} : a ∈ dd xs ↔ a ∈ xs := by rw [dd, mem_ext]; simp
theorem nodup_push {l : List α} (h : l.Nodup) (x : α) : (push l x).Nodup := by
  by_cases q : x ∈ l
  · rw [push_in q]; exact h
  · rw [push_out q]
    refine List.nodup_append.mpr ⟨h, by simp, ?_⟩
    intro a ha b hb e
    rw [List.mem_singleton] at hb
    subst hb e
    exact q ha
theorem nodup_ext : ∀ {xs l : List α}, l.Nodup → (ext l xs).Nodup
  | [], _, h => h
  | x :: xs, l, h => by rw [ext_cons]; exact nodup_ext (nodup_push h x)
theorem nodup_dd (xs : List α) : (dd xs).Nodup := nodup_ext List.nodup_nil
theorem ext_pre : ∀ (xs l : List α), ∃ m, ext l xs = l ++ m
  | [], l => ⟨[], by simp [ext_nil]⟩
  | x :: xs, l => by
    obtain ⟨m, h⟩ := ext_pre xs (push l x)
    rw [ext_cons, h]
    by_cases q : x ∈ l
    · rw [push_in q]; exact ⟨m, rfl⟩
    · rw [push_out q]; exact ⟨x :: m, by simp⟩
theorem ext_sub : ∀ {xs l : List α}, (∀ x ∈ xs, x ∈ l) → ext l xs = l
  | [], _, _ => rfl
  | x :: xs, l, h => by
    rw [ext_cons, push_in (h x List.mem_cons_self)]
    exact ext_sub fun y hy => h y (List.mem_cons_of_mem _ hy)
theorem dd_map_ext (c : α → β) : ∀ (xs l : List α), dd ((ext l xs).map c) = ext (dd (l.map c)) (xs.map c)
  | [], l => rfl
  | x :: xs, l => by
    rw [ext_cons, dd_map_ext c xs, List.map_cons, ext_cons]
    congr 1
    by_cases q : x ∈ l
    · rw [push_in q, push_in (mem_dd.mpr (List.mem_map_of_mem q))]
    · rw [push_out q, List.map_append, List.map_singleton, dd, ext_snoc]
theorem ext_filter (l : List α) : ∀ (xs m : List α), l ++ (ext m xs).filter (fun x => decide (x ∉ l)) = ext (l ++ m.filter fun x => decide (x ∉ l)) xs
  | [], m => rfl
  | x :: xs, m => by
    rw [ext_cons, ext_filter l xs, ext_cons]
    congr 1
    by_cases q : x ∈ m
    · rw [push_in q]
      by_cases r : x ∈ l
      · rw [push_in (by simp [r])]
      · rw [push_in (by simp [r, q])]
    · rw [push_out q, List.filter_append]
      by_cases r : x ∈ l
      · rw [push_in (by simp [r])]
        simp [r]
      · rw [push_out (by simp [r, q])]
        simp [r]
theorem ext_eq (l xs : List α) : ext l xs = l ++ (dd xs).filter (fun x => decide (x ∉ l)) := by
  rw [dd, ext_filter]; simp
theorem loop_eq : ∀ (xs acc : List α), List.eraseDupsBy.loop (fun x y => x == y) xs acc = ext acc.reverse xs
  | [], acc => by rw [List.eraseDupsBy.loop]; rfl
  | x :: xs, acc => by
    rw [List.eraseDupsBy.loop, ext_cons]
    by_cases h : x ∈ acc
    · have e : acc.any (fun y => x == y) = true := List.any_eq_true.mpr ⟨x, h, by simp⟩
      rw [e]
      dsimp only
      rw [loop_eq xs acc, push_in (by simpa using h)]
    · have e : acc.any (fun y => x == y) = false := by
        rw [Bool.eq_false_iff]
        intro q
        obtain ⟨y, hy, e⟩ := List.any_eq_true.mp q
        rw [beq_iff_eq] at e
        subst e
        exact h hy
      rw [e]
      dsimp only
      rw [loop_eq xs (x :: acc), push_out (by simpa using h), List.reverse_cons]
theorem eraseDups_eq (xs : List α) : xs.eraseDups = dd xs := by
  unfold List.eraseDups List.eraseDupsBy
  rw [loop_eq]; rfl
theorem dd_len : ∀ (xs l : List α), (ext l xs).length ≤ l.length + xs.length
  | [], l => by simp [ext_nil]
  | x :: xs, l => by
    have h := dd_len xs (push l x)
    rw [ext_cons, List.length_cons]
    by_cases q : x ∈ l
    · rw [push_in q] at h ⊢; omega
    · rw [push_out q] at h ⊢; rw [List.length_append, List.length_singleton] at h; omega
theorem dd_full : ∀ (xs l : List α), l.Nodup → (ext l xs).length = l.length + xs.length → (l ++ xs).Nodup
  | [], l, hl, _ => by simpa using hl
  | x :: xs, l, hl, h => by
    rw [ext_cons, List.length_cons] at h
    have z := dd_len xs (push l x)
    by_cases q : x ∈ l
    · rw [push_in q] at h z; omega
    · have e := dd_full xs (push l x) (nodup_push hl x) (by rw [h, push_out q, List.length_append, List.length_singleton]; omega)
      rw [push_out q] at e
      simpa using e
theorem len_sub : ∀ {A B : List α}, A.Nodup → (∀ x ∈ A, x ∈ B) → A.length ≤ B.length
  | [], _, _, _ => Nat.zero_le _
  | a :: A, B, hn, h => by
    have ha := h a List.mem_cons_self
    obtain ⟨hx, hn'⟩ := List.nodup_cons.mp hn
    have q := len_sub (A := A) (B := B.erase a) hn' fun x hxA => by
      have : x ≠ a := fun e => hx (e ▸ hxA)
      exact (List.mem_erase_of_ne this).mpr (h x (List.mem_cons_of_mem _ hxA))
    rw [List.length_erase_of_mem ha] at q
    have : 0 < B.length := List.length_pos_of_mem ha
    rw [List.length_cons]; omega
theorem nodup_of_sub {A B : List α} (hn : A.Nodup) (h : ∀ x ∈ A, x ∈ B) (hl : B.length ≤ A.length) : B.Nodup := by
  have q := len_sub hn (B := dd B) fun x hx => mem_dd.mpr (h x hx)
  have z := dd_len B []
  have := dd_full B [] List.nodup_nil (by rw [List.length_nil, Nat.zero_add] at z ⊢; show (dd B).length = B.length; have : (dd B).length ≤ B.length := z; omega)
  simpa using this
end

/-! ### first states of each class -/
section
variable {α β : Type} [DecidableEq α] [DecidableEq β]
def repP (m : Nat → α) (P : List Nat) (s : Nat) : List Nat := if m s ∈ P.map m then P else P ++ [s]
def reps (m : Nat → α) (L : List Nat) : List Nat := L.foldl (repP m) []
theorem reps_snoc (m : Nat → α) (L : List Nat) (s : Nat) : reps m (L ++ [s]) = repP m (reps m L) s := by
  unfold reps; rw [List.foldl_append]; rfl
theorem snoc_ind {P : List Nat → Prop} (h0 : P []) (h1 : ∀ L s, P L → P (L ++ [s])) : ∀ L, P L := by
  intro L
  have : ∀ n, ∀ L : List Nat, L.length = n → P L := by
    intro n
    induction n with
    | zero => intro L h; rw [List.length_eq_zero_iff.mp h]; exact h0
    | succ n ih =>
      intro L h
      have hne : L ≠ [] := fun e => by rw [e] at h; cases h
      rw [← List.dropLast_concat_getLast hne]
      exact h1 _ _ (ih _ (by rw [List.length_dropLast, h]; rfl))
  exact this _ L rfl
theorem reps_map (m : Nat → α) (L : List Nat) : (reps m L).map m = dd (L.map m) := by
  induction L using snoc_ind with
  | h0 => rfl
  | h1 L s ih =>
    rw [reps_snoc, List.map_append, List.map_singleton, dd, ext_snoc, ← dd, ← ih]
    unfold repP push
    split
    · rfl
    · rw [List.map_append]; rfl
theorem reps_mem (m : Nat → α) {p : Nat} (L : List Nat) : p ∈ reps m L → p ∈ L := by
  induction L using snoc_ind with
  | h0 => intro h; cases h
  | h1 L s ih =>
    rw [reps_snoc]
    unfold repP
    split
    · intro h; exact List.mem_append_left _ (ih h)
    · intro h
      rcases List.mem_append.mp h with h | h
      · exact List.mem_append_left _ (ih h)
      · exact List.mem_append_right _ h
theorem reps_has (m : Nat → α) {L : List Nat} {s : Nat} (h : s ∈ L) : ∃ p, p ∈ reps m L ∧ m p = m s := by
  have : m s ∈ (reps m L).map m := by rw [reps_map]; exact mem_dd.mpr (List.mem_map_of_mem h)
  obtain ⟨p, hp, e⟩ := List.mem_map.mp this
  exact ⟨p, hp, e⟩
theorem reps_congr {m : Nat → α} {c : Nat → β} (L : List Nat) : (∀ s ∈ L, ∀ t ∈ L, m s = m t ↔ c s = c t) → reps m L = reps c L := by
  induction L using snoc_ind with
  | h0 => intro _; rfl
  | h1 L s ih =>
    intro h
    have e := ih fun s hs t ht => h s (List.mem_append_left _ hs) t (List.mem_append_left _ ht)
    have hs : s ∈ L ++ [s] := by simp
    rw [reps_snoc, reps_snoc, ← e]
    unfold repP
    have q : (m s ∈ (reps m L).map m) ↔ (c s ∈ (reps m L).map c) := by
      rw [List.mem_map, List.mem_map]
      constructor
      · rintro ⟨p, hp, e⟩
        exact ⟨p, hp, (h p (List.mem_append_left _ (reps_mem m L hp)) s hs).mp e⟩
      · rintro ⟨p, hp, e⟩
        exact ⟨p, hp, (h p (List.mem_append_left _ (reps_mem m L hp)) s hs).mpr e⟩
    by_cases z : m s ∈ (reps m L).map m
    · rw [if_pos z, if_pos (q.mp z)]
    · rw [if_neg z, if_neg fun y => z (q.mpr y)]
/-- the number of a state's class -/
def num (m : Nat → α) (L : List Nat) (s : Nat) : Nat := (dd (L.map m)).idxOf (m s)
theorem idx_map (m : Nat → α) (a : α) : ∀ P : List Nat, (P.map m).idxOf a = P.findIdx fun p => decide (m p = a)
  | [] => rfl
  | p :: P => by
    rw [List.map_cons, List.idxOf_cons, List.findIdx_cons, idx_map m a P]
    by_cases h : m p = a
    · simp [h]
    · have h' : (m p == a) = false := by simpa using h
      simp [h, h']
theorem findIdx_congr {p q : Nat → Bool} : ∀ {P : List Nat}, (∀ x ∈ P, p x = q x) → P.findIdx p = P.findIdx q
  | [], _ => rfl
  | x :: P, h => by
    rw [List.findIdx_cons, List.findIdx_cons, h x List.mem_cons_self, findIdx_congr fun y hy => h y (List.mem_cons_of_mem _ hy)]
theorem num_congr {m : Nat → α} {c : Nat → β} {L : List Nat} (h : ∀ s ∈ L, ∀ t ∈ L, m s = m t ↔ c s = c t) {s : Nat} (hs : s ∈ L) : num m L s = num c L s := by
  unfold num
  rw [← reps_map, ← reps_map, idx_map, idx_map, reps_congr L h]
  refine findIdx_congr fun p hp => ?_
  rw [decide_eq_decide]
  exact h p (reps_mem c L hp) s hs
theorem num_lt {m : Nat → α} {L : List Nat} {s : Nat} (hs : s ∈ L) : num m L s < (dd (L.map m)).length :=
  List.idxOf_lt_length_iff.mpr (mem_dd.mpr (List.mem_map_of_mem hs))
theorem num_get {m : Nat → α} {L : List Nat} {s : Nat} (hs : s ∈ L) : (dd (L.map m))[num m L s]? = some (m s) := by
  rw [List.getElem?_eq_getElem (num_lt hs)]
  exact congrArg some (List.getElem_idxOf (num_lt hs))
theorem num_inj {m : Nat → α} {L : List Nat} {s t : Nat} (hs : s ∈ L) (ht : t ∈ L) : num m L s = num m L t ↔ m s = m t := by
  constructor
  · intro e
    have a := num_get (m := m) hs
    have b := num_get (m := m) ht
    rw [e, b] at a
    exact (Option.some.inj a).symm
  · intro e; unfold num; rw [e]
theorem num_canon (m : Nat → α) (L : List Nat) {s : Nat} (hs : s ∈ L) : num (num m L) L s = num m L s :=
  num_congr (fun s hs t ht => num_inj hs ht) hs
/-- a state met while the list is gone through: it is the first of its class just where its number is that of the classes met -/
theorem num_at {m : Nat → α} {pre post : List Nat} {s : Nat} : num m (pre ++ s :: post) s = (if m s ∈ dd (pre.map m) then (dd (pre.map m)).idxOf (m s) else (dd (pre.map m)).length) := by
  unfold num
  rw [List.map_append, List.map_cons, dd, ext_app, ext_cons]
  obtain ⟨r, e⟩ := ext_pre (post.map m) (push (ext [] (pre.map m)) (m s))
  rw [e]
  by_cases h : m s ∈ ext [] (pre.map m)
  · rw [push_in h, if_pos h, List.idxOf_append, if_pos h]
  · rw [push_out h, if_neg h, List.idxOf_append, if_pos (by simp), List.idxOf_append, if_neg h]
    simp
theorem num_pre {m : Nat → α} {pre post : List Nat} {s : Nat} (h : s ∈ pre) : num m (pre ++ post) s = num m pre s := by
  unfold num
  rw [List.map_append, dd, ext_app]
  obtain ⟨r, e⟩ := ext_pre (post.map m) (ext [] (pre.map m))
  rw [e, List.idxOf_append, if_pos (mem_dd.mpr (List.mem_map_of_mem h))]
/-- how many classes -/
def cnt (m : Nat → α) (L : List Nat) : Nat := (dd (L.map m)).length
theorem cnt_le (m : Nat → α) (L : List Nat) : cnt m L ≤ L.length := by
  have h := dd_len (L.map m) []
  rw [List.length_map, List.length_nil, Nat.zero_add] at h
  exact h
theorem cnt_reps (m : Nat → α) (L : List Nat) : cnt m L = (reps m L).length := by unfold cnt; rw [← reps_map, List.length_map]
theorem cnt_num (m : Nat → α) (L : List Nat) : cnt (num m L) L = cnt m L := by
  rw [cnt_reps, cnt_reps, reps_congr L fun s hs t ht => num_inj hs ht]
/-- a finer marking has as many classes at the least, and just as many only if it is the same -/
theorem cnt_mono {m : Nat → α} {g : Nat → β} {L : List Nat} (h : ∀ s ∈ L, ∀ t ∈ L, m s = m t → g s = g t) : cnt g L ≤ cnt m L ∧ (cnt m L ≤ cnt g L → ∀ s ∈ L, ∀ t ∈ L, g s = g t → m s = m t) := by
  have sub : ∀ x ∈ dd (L.map g), x ∈ (reps m L).map g := by
    intro x hx
    obtain ⟨s, hs, e⟩ := List.mem_map.mp (mem_dd.mp hx)
    obtain ⟨p, hp, ep⟩ := reps_has m hs
    exact List.mem_map.mpr ⟨p, hp, by rw [h p (reps_mem m L hp) s hs ep, e]⟩
  have le := len_sub (nodup_dd _) sub
  rw [List.length_map] at le
  refine ⟨by rw [cnt_reps m]; exact le, fun q s hs t ht e => ?_⟩
  have nd := nodup_of_sub (nodup_dd _) sub (by rw [List.length_map, ← cnt_reps]; exact q)
  obtain ⟨p, hp, ep⟩ := reps_has m hs
  obtain ⟨r, hr, er⟩ := reps_has m ht
  have eg : g p = g r := by rw [h p (reps_mem m L hp) s hs ep, h r (reps_mem m L hr) t ht er, e]
  obtain ⟨i, hi, ei⟩ := List.getElem_of_mem hp
  obtain ⟨j, hj, ej⟩ := List.getElem_of_mem hr
  have hij : i = j := by
    refine (List.getElem_inj (i := i) (j := j) (h₀ := by rw [List.length_map]; exact hi) (h₁ := by rw [List.length_map]; exact hj) nd).mp ?_
    rw [List.getElem_map, List.getElem_map, ei, ej]; exact eg
  subst hij
  rw [ei] at ej
  rw [← ep, ← er, ej]
end
end Lm
set_option maxHeartbeats 1000000
namespace Lm
/-! ### stable relations -/
section
variable (row : Nat → List Nat) (tk : Nat → Nat)
/-- related states take alike and lead to related states, letter by letter -/
def Stable (E : Nat → Nat → Prop) : Prop := ∀ s t, E s t → tk s = tk t ∧ (row s).length = (row t).length ∧ ∀ (i a b : Nat), (row s)[i]? = some a → (row t)[i]? = some b → E a b
def Closed (L : List Nat) : Prop := ∀ s ∈ L, ∀ a ∈ row s, a ∈ L
/-- a marking on the way: it tells takes apart, and tells apart nothing that is alike -/
structure Fine (L : List Nat) (g : Nat → Nat) : Prop where
  ta : ∀ s ∈ L, ∀ t ∈ L, g s = g t → tk s = tk t
  al : ∀ E, Stable row tk E → ∀ s ∈ L, ∀ t ∈ L, E s t → g s = g t
end
section
variable {row : Nat → List Nat} {tk : Nat → Nat} {L : List Nat} {g : Nat → Nat} {α : Type} [DecidableEq α] {m : Nat → α}
theorem map_eq_of_related {E : Nat → Nat → Prop} (hc : Closed row L) (h : ∀ s ∈ L, ∀ t ∈ L, E s t → g s = g t) {s t : Nat} (hs : s ∈ L) (ht : t ∈ L) (hl : (row s).length = (row t).length)
    (q : ∀ (i a b : Nat), (row s)[i]? = some a → (row t)[i]? = some b → E a b) : (row s).map g = (row t).map g := by
  apply List.ext_getElem?
  intro i
  rw [List.getElem?_map, List.getElem?_map]
  by_cases hi : i < (row s).length
  · have hi' : i < (row t).length := by omega
    rw [List.getElem?_eq_getElem hi, List.getElem?_eq_getElem hi']
    simp only [Option.map_some]
    congr 1
    exact h _ (hc s hs _ (List.getElem_mem hi)) _ (hc t ht _ (List.getElem_mem hi')) (q i _ _ (List.getElem?_eq_getElem hi) (List.getElem?_eq_getElem hi'))
  · rw [List.getElem?_eq_none (by omega), List.getElem?_eq_none (by omega)]
/-- the marking by takes -/
theorem fine_takes {tk' : Nat → α} (h : ∀ s ∈ L, ∀ t ∈ L, tk' s = tk' t ↔ tk s = tk t) : Fine row tk L (num tk' L) where
  ta := fun s hs t ht e => (h s hs t ht).mp ((num_inj hs ht).mp e)
  al := fun E hE s hs t ht e => (num_inj hs ht).mpr ((h s hs t ht).mpr (hE s t e).1)
/-- what a marking by a state's class and those that its letters lead to tells -/
def Sig (row : Nat → List Nat) (g : Nat → Nat) (L : List Nat) (m : Nat → α) : Prop := ∀ s ∈ L, ∀ t ∈ L, m s = m t ↔ g s = g t ∧ (row s).map g = (row t).map g
theorem fine_step (hc : Closed row L) (F : Fine row tk L g) (hm : Sig row g L m) : Fine row tk L (num m L) where
  ta := fun s hs t ht e => F.ta s hs t ht ((hm s hs t ht).mp ((num_inj hs ht).mp e)).1
  al := fun E hE s hs t ht e => (num_inj hs ht).mpr ((hm s hs t ht).mpr ⟨F.al E hE s hs t ht e, map_eq_of_related hc (F.al E hE) hs ht (hE s t e).2.1 (hE s t e).2.2⟩)
/-- no more classes came: letters lead states of one class to one class -/
theorem done_of_cnt (hm : Sig row g L m) (h : cnt m L ≤ cnt g L) : ∀ s ∈ L, ∀ t ∈ L, g s = g t → m s = m t :=
  (cnt_mono fun s hs t ht e => ((hm s hs t ht).mp e).1).2 h
theorem cnt_step (hm : Sig row g L m) : cnt g L ≤ cnt m L := (cnt_mono fun s hs t ht e => ((hm s hs t ht).mp e).1).1
/-- a marking that's done -/
structure Done (row : Nat → List Nat) (tk : Nat → Nat) (L : List Nat) (g : Nat → Nat) : Prop extends Fine row tk L g where
  go : ∀ s ∈ L, ∀ t ∈ L, g s = g t → (row s).map g = (row t).map g
theorem Done.stable (D : Done row tk L g) (hc : Closed row L) : Stable row tk fun s t => s ∈ L ∧ t ∈ L ∧ g s = g t := by
  rintro s t ⟨hs, ht, e⟩
  have em := D.go s hs t ht e
  refine ⟨D.ta s hs t ht e, by have := congrArg List.length em; simpa using this, fun i a b ha hb => ⟨hc s hs a (List.mem_of_getElem? ha), hc t ht b (List.mem_of_getElem? hb), ?_⟩⟩
  have q := congrArg (fun l => l[i]?) em
  simp only [List.getElem?_map, ha, hb, Option.map_some] at q
  exact Option.some.inj q
/-- two markings that are done tell the same apart -/
theorem done_eq {L' : List Nat} {c : Nat → Nat} (D : Done row tk L g) (C : Done row tk L' c) (hc : Closed row L) (hc' : Closed row L') (sub : ∀ s ∈ L, s ∈ L') :
    ∀ s ∈ L, ∀ t ∈ L, g s = g t ↔ c s = c t := by
  intro s hs t ht
  constructor
  · intro e; exact C.al _ (D.stable hc) s (sub s hs) t (sub t ht) ⟨hs, ht, e⟩
  · intro e; exact D.al _ (C.stable hc') s hs t ht ⟨sub s hs, sub t ht, e⟩
/-- the loop's ends: the split is as it was -/
theorem done_of_same (F : Fine row tk L g) (hm : Sig row g L m) (h : ∀ s ∈ L, num m L s = g s) : Done row tk L g where
  toFine := F
  go := fun s hs t ht e => ((hm s hs t ht).mp ((num_inj hs ht).mp (by rw [h s hs, h t ht, e]))).2
theorem more_of_other (hm : Sig row g L m) (canon : ∀ s ∈ L, num g L s = g s) (h : ¬ ∀ s ∈ L, num m L s = g s) : cnt g L < cnt (num m L) L := by
  rw [cnt_num]
  have h1 := cnt_step hm
  rcases Nat.lt_or_ge (cnt g L) (cnt m L) with q | q
  · exact q
  · refine absurd (fun s hs => ?_) h
    have z := done_of_cnt hm q
    rw [num_congr (fun s hs t ht => ⟨fun e => ((hm s hs t ht).mp e).1, z s hs t ht⟩) hs]
    exact canon s hs
end

/-! ### states in the order of first words -/
inductive Reach (row : Nat → List Nat) : Nat → List Nat → Prop where
  | start : Reach row 0 [0]
  | step {d l q} : Reach row d l → l[d]? = some q → Reach row (d + 1) (ext l (row q))
structure ReachOk (row : Nat → List Nat) (N d : Nat) (l : List Nat) : Prop where
  nd : l.Nodup
  le : d ≤ l.length
  lt : ∀ s ∈ l, s < N
  zero : l[0]? = some 0
  cl : ∀ q ∈ l.take d, ∀ x ∈ row q, x ∈ l
theorem Reach.ok {row : Nat → List Nat} {N d : Nat} {l : List Nat} (h0 : 0 < N) (hr : ∀ s, s < N → ∀ a ∈ row s, a < N) (h : Reach row d l) : ReachOk row N d l := by
  induction h with
  | start => exact ⟨by simp, by simp, by simpa using h0, rfl, by simp⟩
  | @step d l q _ hq ih =>
    have hd : d < l.length := (List.getElem?_eq_some_iff.mp hq).1
    have hqm : q ∈ l := List.mem_of_getElem? hq
    obtain ⟨m, em⟩ := ext_pre (row q) l
    refine ⟨nodup_ext ih.nd, ?_, fun s hs => ?_, ?_, fun p hp x hx => ?_⟩
    · rw [em, List.length_append]; omega
    · rcases mem_ext.mp hs with hs | hs
      · exact ih.lt s hs
      · exact hr q (ih.lt q hqm) s hs
    · rw [em, List.getElem?_append_left (by omega)]; exact ih.zero
    · rw [em, List.take_append_of_le_length (by omega)] at hp
      rw [mem_ext]
      rw [List.take_succ, hq] at hp
      rcases List.mem_append.mp hp with hp | hp
      · exact .inl (ih.cl p hp x hx)
      · simp at hp; subst hp; exact .inr hx
theorem ReachOk.few {row : Nat → List Nat} {N d : Nat} {l : List Nat} (h : ReachOk row N d l) : l.length ≤ N := by
  have q := len_sub h.nd (B := List.range N) fun x hx => List.mem_range.mpr (h.lt x hx)
  simpa using q
theorem ReachOk.closed {row : Nat → List Nat} {N : Nat} {l : List Nat} (h : ReachOk row N l.length l) : Closed row l := fun s hs a ha => h.cl s (by rw [List.take_length]; exact hs) a ha
/-- classes in turn -/
def turn (succ : Nat → List Nat) : Nat → List Nat → List Nat → List Nat
  | 0, done, _ => done
  | f + 1, done, todo => match todo with
    | [] => done
    | q :: r => turn succ f (done ++ [q]) (r ++ ((succ q).eraseDups).filter fun (x : Nat) => !(done ++ todo).contains x)
theorem turn_nil (succ : Nat → List Nat) : ∀ (f : Nat) (done : List Nat), turn succ f done [] = done
  | 0, _ => rfl
  | _ + 1, _ => rfl
theorem turn_cons (succ : Nat → List Nat) (f : Nat) (done : List Nat) (q : Nat) (r : List Nat) : ∃ new, turn succ (f + 1) done (q :: r) = turn succ f (done ++ [q]) (r ++ new) ∧ done ++ [q] ++ (r ++ new) = ext (done ++ q :: r) (succ q) := by
  refine ⟨_, rfl, ?_⟩
  rw [ext_eq, eraseDups_eq]
  have e : (fun x : Nat => !(done ++ q :: r).contains x) = fun x => decide (x ∉ done ++ q :: r) := by
    funext x
    by_cases h : x ∈ done ++ q :: r
    · simp [h]
    · simp [h]
  rw [e]
  simp
theorem reach_turn {row succ : Nat → List Nat} {c : Nat → Nat} {N : Nat} (h0 : 0 < N) (hr : ∀ s, s < N → ∀ a ∈ row s, a < N) (hs : ∀ s, s < N → succ (c s) = (row s).map c) {d : Nat} {l : List Nat} (h : Reach row d l) :
    ∃ todo, dd (l.map c) = dd ((l.take d).map c) ++ todo ∧ ∀ F, turn succ (F + (dd ((l.take d).map c)).length) [] [c 0] = turn succ F (dd ((l.take d).map c)) todo := by
  induction h with
  | start => exact ⟨[c 0], rfl, fun F => rfl⟩
  | @step d l q h hq ih =>
    obtain ⟨todo, e, ht⟩ := ih
    have ok := h.ok h0 hr
    have hd : d < l.length := (List.getElem?_eq_some_iff.mp hq).1
    have hqm : q ∈ l := List.mem_of_getElem? hq
    have hqN := ok.lt q hqm
    have et : (ext l (row q)).take (d + 1) = l.take d ++ [q] := by
      obtain ⟨m, em⟩ := ext_pre (row q) l
      rw [em, List.take_append_of_le_length (by omega), List.take_succ, hq]; rfl
    have ed : dd ((ext l (row q)).map c) = ext (dd (l.map c)) (succ (c q)) := by rw [dd_map_ext, hs q hqN]
    have ek : dd ((l.take d ++ [q]).map c) = push (dd ((l.take d).map c)) (c q) := by rw [List.map_append, List.map_singleton, dd, ext_snoc]
    rw [et, ed, ek]
    by_cases z : c q ∈ dd ((l.take d).map c)
    · rw [push_in z]
      refine ⟨todo, ?_, ht⟩
      rw [ext_sub ?_]
      · exact e
      · intro x hx
        obtain ⟨p, hp, ep⟩ := List.mem_map.mp (mem_dd.mp z)
        have hpN := ok.lt p (List.mem_of_mem_take hp)
        rw [← ep, hs p hpN] at hx
        obtain ⟨y, hy, ey⟩ := List.mem_map.mp hx
        rw [← ey]
        exact mem_dd.mpr (List.mem_map_of_mem (ok.cl p hp y hy))
    · rw [push_out z]
      have es : l = l.take d ++ q :: l.drop (d + 1) := by
        have a := List.take_append_drop d l
        rw [List.drop_eq_getElem_cons hd, (List.getElem?_eq_some_iff.mp hq).2] at a
        exact a.symm
      have er : ∃ r, todo = c q :: r := by
        have a : dd (l.map c) = ext (dd ((l.take d).map c) ++ [c q]) ((l.drop (d + 1)).map c) := by
          conv => lhs; rw [es]
          rw [List.map_append, List.map_cons, dd, ext_app, ext_cons, push_out z]
        obtain ⟨r, hr'⟩ := ext_pre ((l.drop (d + 1)).map c) (dd ((l.take d).map c) ++ [c q])
        rw [e, hr', List.append_assoc] at a
        exact ⟨r, List.append_cancel_left a⟩
      obtain ⟨r, rfl⟩ := er
      have F1 := fun F => turn_cons succ F (dd ((l.take d).map c)) (c q) r
      obtain ⟨new, _, e2⟩ := F1 0
      refine ⟨r ++ new, by rw [e2, e], fun F => ?_⟩
      have a := ht (F + 1)
      rw [List.length_append, List.length_singleton, show F + ((dd ((l.take d).map c)).length + 1) = F + 1 + (dd ((l.take d).map c)).length by omega, a]
      obtain ⟨new', e1', e2'⟩ := F1 F
      rw [e1']
      have : new' = new := by
        rw [← e2, List.append_assoc, List.append_assoc] at e2'
        exact List.append_cancel_left (List.append_cancel_left (List.append_cancel_left e2'))
      rw [this]
theorem reach_all {row succ : Nat → List Nat} {c : Nat → Nat} {N : Nat} (h0 : 0 < N) (hr : ∀ s, s < N → ∀ a ∈ row s, a < N) (hs : ∀ s, s < N → succ (c s) = (row s).map c) {l : List Nat} (h : Reach row l.length l) {f : Nat} (hf : N ≤ f) :
    turn succ f [] [c 0] = dd (l.map c) := by
  obtain ⟨todo, e, ht⟩ := reach_turn h0 hr hs h
  rw [List.take_length] at e ht
  have z : todo = [] := by
    have := congrArg List.length e
    rw [List.length_append] at this
    exact List.length_eq_zero_iff.mp (by omega)
  subst z
  have l1 := dd_len (l.map c) []
  have l2 := (h.ok h0 hr).few
  rw [List.length_map, List.length_nil] at l1
  have a := ht (f - (dd (l.map c)).length)
  have l3 : (dd (l.map c)).length ≤ l.length := by have : (dd (l.map c)).length ≤ 0 + l.length := l1; omega
  rw [turn_nil, Nat.sub_add_cancel (by omega)] at a
  exact a

/-! ### the specification's kinds -/
def cf (c : List Nat) (i : Nat) : Nat := c.getD i 0
def rowOf (rows : List (List Nat)) (i : Nat) : List Nat := rows.getD i []
theorem inTurn_eq (rows : List (List Nat)) (c : List Nat) : ∀ (f : Nat) (done todo : List Nat), Sw38.inTurn rows c f done todo = turn (fun q => (rowOf rows ((List.range rows.length).findIdx fun (i : Nat) => c.getD i 0 == q)).map (cf c)) f done todo
  | 0, _, _ => rfl
  | f + 1, done, [] => rfl
  | f + 1, done, q :: r => by
    unfold Sw38.inTurn turn
    exact inTurn_eq rows c f _ _
theorem getD_map_range {N i : Nat} (f : Nat → Nat) (h : i < N) : ((List.range N).map f).getD i 0 = f i := by
  rw [List.getD_eq_getElem?_getD, List.getElem?_map, List.getElem?_range h]; rfl
theorem range_map_cf {c : List Nat} : (List.range c.length).map (cf c) = c := by
  apply List.ext_getElem?
  intro i
  rw [List.getElem?_map]
  by_cases h : i < c.length
  · rw [List.getElem?_range h, List.getElem?_eq_getElem h]
    simp [cf, List.getD_eq_getElem?_getD, List.getElem?_eq_getElem h]
  · rw [List.getElem?_eq_none (by simpa using h), List.getElem?_eq_none (by simpa using h)]; rfl
def sg (rows : List (List Nat)) (c : List Nat) (i : Nat) : List Nat := cf c i :: (rowOf rows i).map (cf c)
theorem beq_one {α : Type} [DecidableEq α] (b : BEq α) [LawfulBEq α] : b = instBEqOfDecidableEq := by
  have h : b.beq = fun x y => decide (x = y) := by
    funext x y
    by_cases h : x = y
    · subst h
      rw [decide_eq_true rfl]; exact beq_self_eq_true x
    · rw [decide_eq_false h, Bool.eq_false_iff]
      intro q
      exact h (beq_iff_eq.mp q)
  cases b
  unfold instBEqOfDecidableEq
  congr
theorem kinds_eq {α : Type} [DecidableEq α] {b : BEq α} [LawfulBEq α] (S : List α) : S.map (fun x => (S.eraseDups).idxOf x) = S.map (fun x => @List.idxOf α instBEqOfDecidableEq x (dd S)) ∧ S.eraseDups = dd S := by
  have := beq_one b
  subst this
  rw [eraseDups_eq]
  exact ⟨rfl, rfl⟩
theorem refined_succ (rows : List (List Nat)) (f : Nat) (c : List Nat) : Sw38.refined rows (f + 1) c =
    (if cnt (sg rows c) (List.range rows.length) = (c.eraseDups).length then (List.range rows.length).map (num (sg rows c) (List.range rows.length)) else Sw38.refined rows f ((List.range rows.length).map (num (sg rows c) (List.range rows.length)))) := by
  have k : ((List.range rows.length).map (sg rows c)).map (fun x => (((List.range rows.length).map (sg rows c)).eraseDups).idxOf x) = (List.range rows.length).map (num (sg rows c) (List.range rows.length)) := by
    rw [(kinds_eq _).1, List.map_map]; rfl
  rw [← k]
  unfold cnt
  rw [← (kinds_eq _).2]
  rfl
theorem sig_sg (rows : List (List Nat)) (c : List Nat) (L : List Nat) : Sig (rowOf rows) (cf c) L (sg rows c) := by
  intro s _ t _
  unfold sg
  rw [List.cons.injEq]
theorem refined_done {rows : List (List Nat)} {tk : Nat → Nat} (hc : Closed (rowOf rows) (List.range rows.length)) : ∀ (f : Nat) (c : List Nat), c.length = rows.length → Fine (rowOf rows) tk (List.range rows.length) (cf c) → rows.length < f + cnt (cf c) (List.range rows.length) →
    (Sw38.refined rows f c).length = rows.length ∧ Done (rowOf rows) tk (List.range rows.length) (cf (Sw38.refined rows f c))
  | 0, c, _, _, h => by
    have := cnt_le (cf c) (List.range rows.length)
    rw [List.length_range] at this
    omega
  | f + 1, c, hl, F, h => by
    rw [refined_succ]
    have S := sig_sg rows c (List.range rows.length)
    have ec : (c.eraseDups).length = cnt (cf c) (List.range rows.length) := by unfold cnt; rw [← hl, range_map_cf, eraseDups_eq]
    have en : ∀ s ∈ List.range rows.length, cf ((List.range rows.length).map (num (sg rows c) (List.range rows.length))) s = num (sg rows c) (List.range rows.length) s := fun s hs => getD_map_range _ (List.mem_range.mp hs)
    have F' := fine_step (m := sg rows c) hc F S
    have F2 : Fine (rowOf rows) tk (List.range rows.length) (cf ((List.range rows.length).map (num (sg rows c) (List.range rows.length)))) := by
      refine ⟨fun s hs t ht e => ?_, fun E hE s hs t ht e => ?_⟩
      · rw [en s hs, en t ht] at e; exact F'.ta s hs t ht e
      · rw [en s hs, en t ht]; exact F'.al E hE s hs t ht e
    have hl2 : ((List.range rows.length).map (num (sg rows c) (List.range rows.length))).length = rows.length := by rw [List.length_map, List.length_range]
    by_cases q : cnt (sg rows c) (List.range rows.length) = (c.eraseDups).length
    · rw [if_pos q]
      refine ⟨hl2, F2, fun s hs t ht e => ?_⟩
      rw [en s hs, en t ht] at e
      have e1 := (num_inj hs ht).mp e
      have e2 := ((S s hs t ht).mp e1).2
      have st := done_of_cnt S (by rw [q, ec]; exact Nat.le_refl _)
      apply List.ext_getElem?
      intro i
      rw [List.getElem?_map, List.getElem?_map]
      have q := congrArg (fun l => l[i]?) e2
      simp only [List.getElem?_map] at q
      cases ha : (rowOf rows s)[i]? with
      | none =>
        cases hb : (rowOf rows t)[i]? with
        | none => rfl
        | some b => rw [ha, hb] at q; cases q
      | some a =>
        cases hb : (rowOf rows t)[i]? with
        | none => rw [ha, hb] at q; cases q
        | some b =>
          rw [ha, hb] at q
          simp only [Option.map_some, Option.some.injEq] at q ⊢
          have ma := hc s hs a (List.mem_of_getElem? ha)
          have mb := hc t ht b (List.mem_of_getElem? hb)
          rw [en a ma, en b mb]
          exact (num_inj ma mb).mpr (st a ma b mb q)
    · rw [if_neg q]
      refine refined_done hc f _ hl2 F2 ?_
      have c1 := cnt_step S
      have c2 : cnt (cf ((List.range rows.length).map (num (sg rows c) (List.range rows.length)))) (List.range rows.length) = cnt (sg rows c) (List.range rows.length) := by
        unfold cnt
        rw [List.map_congr_left en]
        exact cnt_num _ _
      rw [c2]
      omega
/-! ### the answer -/
/-- what the program tells: the first states of the classes, their letters, their takes -/
def told (row : Nat → List Nat) (tk g : Nat → Nat) (l : List Nat) : List Nat := (reps g l).length :: ((reps g l).flatMap (fun p => (row p).map g) ++ (reps g l).map tk)
theorem findIdx_range {N : Nat} {p : Nat → Bool} {i : Nat} (hi : i < N) (h : p i = true) : (List.range N).findIdx p < N ∧ p ((List.range N).findIdx p) = true := by
  have hlt : (List.range N).findIdx p < (List.range N).length := List.findIdx_lt_length_of_exists ⟨i, List.mem_range.mpr hi, h⟩
  have z := List.findIdx_getElem (w := hlt)
  rw [List.getElem_range] at z
  rw [List.length_range] at hlt
  exact ⟨hlt, z⟩
theorem toNat_inj {a b : Bool} (h : a.toNat = b.toNat) : a = b := by cases a <;> cases b <;> first | rfl | cases h
theorem leastOf_eq {m : Sw38.Machine} {g : Nat → Nat} {l : List Nat} (h0 : 0 < m.rows.length) (hN : m.rows.length ≤ 190) (ht : m.takes.length = m.rows.length) (hr : ∀ s, s < m.rows.length → ∀ a ∈ rowOf m.rows s, a < m.rows.length)
    (hl : Reach (rowOf m.rows) l.length l) (D : Done (rowOf m.rows) (fun i => (m.takes.getD i false).toNat) l g) (canon : ∀ s ∈ l, num g l s = g s) :
    Sw38.leastOf m = ⟨(reps g l).map fun p => (rowOf m.rows p).map g, (reps g l).map fun p => m.takes.getD p false⟩ := by
  have ok := hl.ok h0 hr
  have clo := ok.closed
  have cR : Closed (rowOf m.rows) (List.range m.rows.length) := fun s hs a ha => List.mem_range.mpr (hr s (List.mem_range.mp hs) a ha)
  have e0 : ∀ s, cf (m.takes.map fun (b : Bool) => b.toNat) s = (m.takes.getD s false).toNat := by
    intro s
    unfold cf
    rw [List.getD_eq_getElem?_getD, List.getD_eq_getElem?_getD, List.getElem?_map]
    cases m.takes[s]? <;> rfl
  have F0 : Fine (rowOf m.rows) (fun i => (m.takes.getD i false).toNat) (List.range m.rows.length) (cf (m.takes.map fun (b : Bool) => b.toNat)) := by
    refine ⟨fun s _ t _ e => ?_, fun E hE s _ t _ e => ?_⟩
    · rw [e0, e0] at e; exact e
    · rw [e0, e0]; exact (hE s t e).1
  obtain ⟨hcl, C⟩ := refined_done (tk := fun i => (m.takes.getD i false).toNat) cR 200 (m.takes.map fun (b : Bool) => b.toNat) (by rw [List.length_map, ht]) F0 (by omega)
  generalize hc : Sw38.refined m.rows 200 (m.takes.map fun (b : Bool) => b.toNat) = c at hcl C
  have one : ∀ s, s < m.rows.length → ((List.range m.rows.length).findIdx fun (i : Nat) => c.getD i 0 == cf c s) < m.rows.length ∧ cf c ((List.range m.rows.length).findIdx fun (i : Nat) => c.getD i 0 == cf c s) = cf c s := by
    intro s hs
    have z := findIdx_range (p := fun (i : Nat) => c.getD i 0 == cf c s) hs (by show (c.getD s 0 == cf c s) = true; unfold cf; simp)
    exact ⟨z.1, by have := z.2; simpa [cf] using this⟩
  have hsucc : ∀ s, s < m.rows.length → (fun q => (rowOf m.rows ((List.range m.rows.length).findIdx fun (i : Nat) => c.getD i 0 == q)).map (cf c)) (cf c s) = (rowOf m.rows s).map (cf c) := by
    intro s hs
    have z := one s hs
    exact C.go _ (List.mem_range.mpr z.1) s (List.mem_range.mpr hs) z.2
  have ho : Sw38.inTurn m.rows c 200 [] [c.getD 0 0] = dd (l.map (cf c)) := by
    rw [inTurn_eq]
    exact reach_all (c := cf c) (succ := fun q => (rowOf m.rows ((List.range m.rows.length).findIdx fun (i : Nat) => c.getD i 0 == q)).map (cf c)) h0 hr hsucc hl (by omega)
  have par := done_eq D C clo cR fun s hs => List.mem_range.mpr (ok.lt s hs)
  have er := reps_congr l par
  have eo : dd (l.map (cf c)) = (reps g l).map (cf c) := by rw [er, reps_map]
  have eg : ∀ s ∈ l, (dd (l.map (cf c))).idxOf (cf c s) = g s := by
    intro s hs
    have : num g l s = num (cf c) l s := num_congr par hs
    rw [canon s hs] at this
    exact this.symm
  have el : Sw38.leastOf m = ⟨(dd (l.map (cf c))).map fun (q : Nat) => (m.rows.getD ((List.range m.rows.length).findIdx fun (i : Nat) => c.getD i 0 == q) []).map fun (j : Nat) => (dd (l.map (cf c))).idxOf (c.getD j 0),
      (dd (l.map (cf c))).map fun (q : Nat) => m.takes.getD ((List.range m.rows.length).findIdx fun (i : Nat) => c.getD i 0 == q) false⟩ := by
    unfold Sw38.leastOf
    dsimp only
    rw [hc, ho]
  have rows_eq : ((dd (l.map (cf c))).map fun (q : Nat) => (m.rows.getD ((List.range m.rows.length).findIdx fun (i : Nat) => c.getD i 0 == q) []).map fun (j : Nat) => (dd (l.map (cf c))).idxOf (c.getD j 0)) = (reps g l).map fun p => (rowOf m.rows p).map g := by
    conv => lhs; arg 2; rw [eo]
    rw [List.map_map]
    refine List.map_congr_left fun p hp => ?_
    have hpl := reps_mem g l hp
    have z := hsucc p (ok.lt p hpl)
    have z' := congrArg (List.map fun q => (dd (l.map (cf c))).idxOf q) z
    simp only [List.map_map] at z'
    refine Eq.trans ?_ (Eq.trans z' ?_)
    · rfl
    · refine List.map_congr_left fun a ha => ?_
      exact eg a (clo p hpl a ha)
  have takes_eq : ((dd (l.map (cf c))).map fun (q : Nat) => m.takes.getD ((List.range m.rows.length).findIdx fun (i : Nat) => c.getD i 0 == q) false) = (reps g l).map fun i => m.takes.getD i false := by
    conv => lhs; arg 2; rw [eo]
    rw [List.map_map]
    refine List.map_congr_left fun p hp => ?_
    have hpl := reps_mem g l hp
    have z := one p (ok.lt p hpl)
    have q := C.ta _ (List.mem_range.mpr z.1) p (List.mem_range.mpr (ok.lt p hpl)) z.2
    exact toNat_inj q
  rw [el, takes_eq, rows_eq]
theorem leastOf_told {m : Sw38.Machine} {g : Nat → Nat} {l : List Nat} (h0 : 0 < m.rows.length) (hN : m.rows.length ≤ 190) (ht : m.takes.length = m.rows.length) (hr : ∀ s, s < m.rows.length → ∀ a ∈ rowOf m.rows s, a < m.rows.length)
    (hl : Reach (rowOf m.rows) l.length l) (D : Done (rowOf m.rows) (fun i => (m.takes.getD i false).toNat) l g) (canon : ∀ s ∈ l, num g l s = g s) :
    ((Sw38.leastOf m).size : Nat) :: ((Sw38.leastOf m).rows.flatten ++ (Sw38.leastOf m).takes.map Bool.toNat) = told (rowOf m.rows) (fun i => (m.takes.getD i false).toNat) g l := by
  rw [leastOf_eq h0 hN ht hr hl D canon]
  unfold told Sw38.Machine.size
  dsimp only
  rw [List.length_map, List.flatMap_def, List.map_map]
  rfl
end Lm
set_option maxHeartbeats 1000000
namespace Lm
def rowA (k : Nat) (R : List Nat) (s : Nat) : List Nat := (R.drop (k * s)).take k
def natsOf (l : List Int) : List Nat := l.map Int.toNat
theorem asked_facts {k n : Int} {ns ts : List Int} (h : PySw38.least_asked k n ns ts = true) (hr : (1 ≤ k ∧ k ≤ 16) ∧ (1 ≤ n ∧ n ≤ 64)) :
    (ns.length : Int) = k * n ∧ (ts.length : Int) = n ∧ (∀ x ∈ ns, 0 ≤ x) ∧ (∀ x ∈ ts, 0 ≤ x) := by
  unfold PySw38.least_asked Sw38Neutral.asked at h
  rw [Bool.and_eq_true, List.all_cons, Bool.and_eq_true] at h
  have h1 := h.1.1
  unfold Sw38Neutral.asked1 at h1
  simp only [Bool.and_eq_true, decide_eq_true_eq, List.all_eq_true, if_pos hr] at h1
  obtain ⟨_, _, ⟨ha, hb⟩, hc, hd⟩ := h1
  refine ⟨hb, hd, fun x hx => ?_, fun x hx => ?_⟩
  · have := ha x hx
    unfold Sw38Neutral.natural at this
    simp only [Bool.and_eq_true, decide_eq_true_eq] at this
    exact this.1
  · have := hc x hx
    unfold Sw38Neutral.natural at this
    simp only [Bool.and_eq_true, decide_eq_true_eq] at this
    exact this.1
theorem within_iff {z : Int} {a b : Nat} : Sw38.within z a b = true ↔ (a : Int) ≤ z ∧ z ≤ (b : Int) := by
  unfold Sw38.within
  simp only [Bool.and_eq_true, decide_eq_true_eq]
def ansL (y : Sw38.Ans) : List Int := y.code :: (Sw38Neutral.ints y.rows ++ (Sw38Neutral.ints y.takes ++ Sw38Neutral.ints y.out))
theorem least_f (k n : Int) (ns ts : List Int) : PySw38.least k n ns ts = ansL (if (Sw38.within k 1 16 && Sw38.within n 1 64) = false then Sw38.says (-2) else match Sw38.machineOf k.toNat n.toNat (natsOf ns) (natsOf ts) with
    | some m => Sw38.shows (Sw38.leastOf m)
    | none => Sw38.says (-3)) := rfl
theorem least_out {k n : Int} {ns ts : List Int} (hr : ¬ ((1 ≤ k ∧ k ≤ 16) ∧ (1 ≤ n ∧ n ≤ 64))) : PySw38.least k n ns ts = [-2] := by
  have e : (Sw38.within k 1 16 && Sw38.within n 1 64) = false := by
    rw [Bool.eq_false_iff]
    intro q
    rw [Bool.and_eq_true, within_iff, within_iff] at q
    exact hr ⟨⟨by omega, by omega⟩, by omega, by omega⟩
  rw [least_f, if_pos e]
  rfl
def okS (n x : Int) : Bool := decide (0 ≤ x) && decide (x < n)
def okT (t : Int) : Bool := decide (t = 0) || decide (t = 1)
def okM (n : Int) (ns ts : List Int) : Bool := ns.all (okS n) && ts.all okT
theorem machine_ok {k n : Nat} {ns ts : List Int} (h1 : ns.length = k * n) (h2 : ts.length = n) (p1 : ∀ x ∈ ns, 0 ≤ x) (p2 : ∀ x ∈ ts, 0 ≤ x) :
    ((((natsOf ns).take (n * k)).all fun q => decide (q < n)) && (((natsOf ts).take n).all fun t => decide (t ≤ 1))) = okM n ns ts := by
  have l1 : (natsOf ns).length = n * k := by unfold natsOf; rw [List.length_map, h1, Nat.mul_comm]
  have l2 : (natsOf ts).length = n := by unfold natsOf; rw [List.length_map, h2]
  rw [← l1, List.take_length]
  conv => lhs; arg 2; rw [← l2]
  rw [List.take_length]
  unfold okM
  congr 1
  · unfold natsOf
    rw [List.all_map]
    rw [Bool.eq_iff_iff, List.all_eq_true, List.all_eq_true]
    constructor
    · intro h x hx
      have a := h x hx
      have b := p1 x hx
      simp only [Function.comp, decide_eq_true_eq] at a
      unfold okS
      simp only [Bool.and_eq_true, decide_eq_true_eq]
      omega
    · intro h x hx
      have a := h x hx
      unfold okS at a
      simp only [Bool.and_eq_true, decide_eq_true_eq] at a
      simp only [Function.comp, decide_eq_true_eq]
      omega
  · unfold natsOf
    rw [List.all_map, Bool.eq_iff_iff, List.all_eq_true, List.all_eq_true]
    constructor
    · intro h x hx
      have a := h x hx
      have b := p2 x hx
      simp only [Function.comp, decide_eq_true_eq] at a
      unfold okT
      simp only [Bool.or_eq_true, decide_eq_true_eq]
      omega
    · intro h x hx
      have a := h x hx
      unfold okT at a
      simp only [Bool.or_eq_true, decide_eq_true_eq] at a
      simp only [Function.comp, decide_eq_true_eq]
      omega
theorem in_range {k n : Int} (hr : (1 ≤ k ∧ k ≤ 16) ∧ (1 ≤ n ∧ n ≤ 64)) : ¬ (Sw38.within k 1 16 && Sw38.within n 1 64) = false := by
  intro q
  have : (Sw38.within k 1 16 && Sw38.within n 1 64) = true := by
    rw [Bool.and_eq_true, within_iff, within_iff]
    exact ⟨⟨by omega, by omega⟩, by omega, by omega⟩
  rw [this] at q
  cases q
theorem nat_len {k n : Int} {ns : List Int} (hr : (1 ≤ k ∧ k ≤ 16) ∧ (1 ≤ n ∧ n ≤ 64)) (h : (ns.length : Int) = k * n) : ns.length = k.toNat * n.toNat := by
  have e : k * n = ((k.toNat * n.toNat : Nat) : Int) := by
    rw [Int.natCast_mul, Int.toNat_of_nonneg (by omega), Int.toNat_of_nonneg (by omega)]
  rw [e] at h
  exact Int.ofNat.inj h
theorem least_bad {k n : Int} {ns ts : List Int} (hr : (1 ≤ k ∧ k ≤ 16) ∧ (1 ≤ n ∧ n ≤ 64)) (ha : PySw38.least_asked k n ns ts = true) (hm : okM n ns ts = false) : PySw38.least k n ns ts = [-3] := by
  obtain ⟨h1, h2, p1, p2⟩ := asked_facts ha hr
  have e1 := nat_len hr h1
  have e2 : ts.length = n.toNat := by omega
  have en : ((n.toNat : Nat) : Int) = n := Int.toNat_of_nonneg (by omega)
  have e := machine_ok e1 e2 p1 p2
  rw [en, hm] at e
  rw [least_f, if_neg (in_range hr)]
  unfold Sw38.machineOf
  rw [if_neg (by rw [e]; exact Bool.false_ne_true)]
  rfl
theorem rowOf_machine {k n : Nat} {R : List Nat} (h : R.length = k * n) : rowOf ((List.range n).map fun i => (R.drop (i * k)).take k) = rowA k R := by
  funext s
  unfold rowOf rowA
  rw [List.getD_eq_getElem?_getD, List.getElem?_map, Nat.mul_comm k s]
  by_cases hs : s < n
  · rw [List.getElem?_range hs]; rfl
  · rw [List.getElem?_eq_none (by simpa using hs)]
    have : R.length ≤ s * k := by rw [h, Nat.mul_comm]; exact Nat.mul_le_mul_right k (by omega)
    rw [List.drop_eq_nil_of_le this]; simp
theorem takes_machine {n : Nat} {T : List Nat} (h : T.length = n) (h1 : ∀ t ∈ T, t ≤ 1) : (fun i => ((((T.take n).map fun t => t == 1)).getD i false).toNat) = fun i => T.getD i 0 := by
  funext i
  rw [← h, List.take_length, List.getD_eq_getElem?_getD, List.getD_eq_getElem?_getD, List.getElem?_map]
  cases e : T[i]? with
  | none => rfl
  | some t =>
    have := h1 t (List.mem_of_getElem? e)
    show (t == 1).toNat = t
    rcases (show t = 0 ∨ t = 1 by omega) with rfl | rfl <;> rfl
/-- **What is due, by the program's own way.** -/
theorem least_due {k n : Int} {ns ts : List Int} (hr : (1 ≤ k ∧ k ≤ 16) ∧ (1 ≤ n ∧ n ≤ 64)) (ha : PySw38.least_asked k n ns ts = true) (hm : okM n ns ts = true) {l : List Nat} {g : Nat → Nat}
    (hl : Reach (rowA k.toNat (natsOf ns)) l.length l) (D : Done (rowA k.toNat (natsOf ns)) (fun i => (natsOf ts).getD i 0) l g) (canon : ∀ s ∈ l, num g l s = g s) :
    PySw38.least k n ns ts = (told (rowA k.toNat (natsOf ns)) (fun i => (natsOf ts).getD i 0) g l).map fun (x : Nat) => (x : Int) := by
  obtain ⟨h1, h2, p1, p2⟩ := asked_facts ha hr
  have e1 := nat_len hr h1
  have e2 : ts.length = n.toNat := by omega
  have en : ((n.toNat : Nat) : Int) = n := Int.toNat_of_nonneg (by omega)
  have e := machine_ok e1 e2 p1 p2
  rw [en, hm] at e
  have l1 : (natsOf ns).length = k.toNat * n.toNat := by unfold natsOf; rw [List.length_map, e1]
  have l2 : (natsOf ts).length = n.toNat := by unfold natsOf; rw [List.length_map, e2]
  have t1 : ∀ t ∈ natsOf ts, t ≤ 1 := by
    intro t ht
    unfold natsOf at ht
    obtain ⟨x, hx, rfl⟩ := List.mem_map.mp ht
    unfold okM at hm
    rw [Bool.and_eq_true] at hm
    have := List.all_eq_true.mp hm.2 x hx
    unfold okT at this
    simp only [Bool.or_eq_true, decide_eq_true_eq] at this
    omega
  have r1 : ∀ x ∈ natsOf ns, x < n.toNat := by
    intro t ht
    unfold natsOf at ht
    obtain ⟨x, hx, rfl⟩ := List.mem_map.mp ht
    unfold okM at hm
    rw [Bool.and_eq_true] at hm
    have := List.all_eq_true.mp hm.1 x hx
    unfold okS at this
    simp only [Bool.and_eq_true, decide_eq_true_eq] at this
    omega
  have er := rowOf_machine l1
  have et := takes_machine l2 t1
  rw [least_f, if_neg (in_range hr)]
  unfold Sw38.machineOf
  rw [if_pos e]
  have key := leastOf_told (m := ⟨(List.range n.toNat).map fun i => ((natsOf ns).drop (i * k.toNat)).take k.toNat, ((natsOf ts).take n.toNat).map fun t => t == 1⟩) (g := g) (l := l)
    (by simp; omega) (by simp; omega) (by simp; omega)
    (by
      dsimp only
      rw [er]
      intro s _ a hxa
      have : a < n.toNat := r1 a (List.mem_of_mem_drop (List.mem_of_mem_take hxa))
      simpa using this)
    (by dsimp only; rw [er]; exact hl) (by dsimp only; rw [er, et]; exact D) canon
  dsimp only at key
  rw [er, et] at key
  rw [← key]
  unfold ansL Sw38.shows Sw38Neutral.ints
  dsimp only
  rw [List.map_nil, List.append_nil, List.map_cons, List.map_append]
end Lm
set_option maxHeartbeats 1000000
namespace Lm
/-! ### words and what they lead to, breadth first -/
section
variable {α : Type} [DecidableEq α]
def pushL (next : α → Nat → α) (w : List Nat) (a : α) (l : List (List Nat × α)) (c : Nat) : List (List Nat × α) := if next a c ∈ l.map (·.2) then l else l ++ [(w ++ [c], next a c)]
def pushLs (next : α → Nat → α) (w : List Nat) (a : α) (l : List (List Nat × α)) (cs : List Nat) : List (List Nat × α) := cs.foldl (pushL next w a) l
abbrev extW (next : α → Nat → α) (k : Nat) (w : List Nat) (a : α) (l : List (List Nat × α)) : List (List Nat × α) := pushLs next w a l (List.range k)
theorem pushL_in {next : α → Nat → α} {w : List Nat} {a : α} {l : List (List Nat × α)} {c : Nat} (h : next a c ∈ l.map (·.2)) : pushL next w a l c = l := if_pos h
theorem pushL_out {next : α → Nat → α} {w : List Nat} {a : α} {l : List (List Nat × α)} {c : Nat} (h : next a c ∉ l.map (·.2)) : pushL next w a l c = l ++ [(w ++ [c], next a c)] := if_neg h
theorem pushLs_cons (next : α → Nat → α) (w : List Nat) (a : α) (l : List (List Nat × α)) (c : Nat) (cs : List Nat) : pushLs next w a l (c :: cs) = pushLs next w a (pushL next w a l c) cs := rfl
theorem pushLs_snoc (next : α → Nat → α) (w : List Nat) (a : α) (l : List (List Nat × α)) (c : Nat) (cs : List Nat) : pushLs next w a l (cs ++ [c]) = pushL next w a (pushLs next w a l cs) c := by
  unfold pushLs; rw [List.foldl_append]; rfl
theorem pushLs_map (next : α → Nat → α) (w : List Nat) (a : α) : ∀ (cs : List Nat) (l : List (List Nat × α)), (pushLs next w a l cs).map (·.2) = ext (l.map (·.2)) (cs.map (next a))
  | [], l => rfl
  | c :: cs, l => by
    rw [pushLs_cons, pushLs_map next w a cs, List.map_cons, ext_cons]
    congr 1
    by_cases h : next a c ∈ l.map (·.2)
    · rw [pushL_in h, push_in h]
    · rw [pushL_out h, push_out h, List.map_append]; rfl
theorem pushLs_pre (next : α → Nat → α) (w : List Nat) (a : α) : ∀ (cs : List Nat) (l : List (List Nat × α)), ∃ m, pushLs next w a l cs = l ++ m
  | [], l => ⟨[], by simp [pushLs]⟩
  | c :: cs, l => by
    obtain ⟨m, h⟩ := pushLs_pre next w a cs (pushL next w a l c)
    rw [pushLs_cons, h]
    by_cases q : next a c ∈ l.map (·.2)
    · rw [pushL_in q]; exact ⟨m, rfl⟩
    · rw [pushL_out q]; exact ⟨(w ++ [c], next a c) :: m, by simp⟩
theorem pushLs_mem {next : α → Nat → α} {w : List Nat} {a : α} {x : List Nat × α} : ∀ {cs : List Nat} {l : List (List Nat × α)}, x ∈ pushLs next w a l cs → x ∈ l ∨ ∃ c ∈ cs, x = (w ++ [c], next a c)
  | [], l, h => .inl h
  | c :: cs, l, h => by
    rw [pushLs_cons] at h
    rcases pushLs_mem h with h | ⟨c', hc, e⟩
    · by_cases q : next a c ∈ l.map (·.2)
      · rw [pushL_in q] at h; exact .inl h
      · rw [pushL_out q] at h
        rcases List.mem_append.mp h with h | h
        · exact .inl h
        · rw [List.mem_singleton] at h; exact .inr ⟨c, List.mem_cons_self, h⟩
    · exact .inr ⟨c', List.mem_cons_of_mem _ hc, e⟩
inductive ReachW (next : α → Nat → α) (k : Nat) (a0 : α) : Nat → List (List Nat × α) → Prop where
  | start : ReachW next k a0 0 [([], a0)]
  | step {d l w a} : ReachW next k a0 d l → l[d]? = some (w, a) → ReachW next k a0 (d + 1) (extW next k w a l)
structure ReachWOk (next : α → Nat → α) (k : Nat) (a0 : α) (P : α → Prop) (d : Nat) (l : List (List Nat × α)) : Prop where
  nd : (l.map (·.2)).Nodup
  le : d ≤ l.length
  all : ∀ x ∈ l, P x.2
  zero : l[0]? = some ([], a0)
  cl : ∀ x ∈ l.take d, ∀ c, c < k → next x.2 c ∈ l.map (·.2)
  word : ∀ x ∈ l, ∀ c ∈ x.1, c < k
  long : ∀ x ∈ l, x.1.length < l.length
theorem ReachW.ok {next : α → Nat → α} {k : Nat} {a0 : α} {P : α → Prop} (h0 : P a0) (hP : ∀ a c, P a → c < k → P (next a c)) {d : Nat} {l : List (List Nat × α)} (h : ReachW next k a0 d l) : ReachWOk next k a0 P d l := by
  induction h with
  | start => exact ⟨by simp, by simp, by simpa using h0, rfl, by simp, by simp, by simp⟩
  | @step d l w a _ hq ih =>
    have hd : d < l.length := (List.getElem?_eq_some_iff.mp hq).1
    have hqm : (w, a) ∈ l := List.mem_of_getElem? hq
    obtain ⟨m, em⟩ : ∃ m, extW next k w a l = l ++ m := pushLs_pre next w a (List.range k) l
    have emap : (extW next k w a l).map (·.2) = ext (l.map (·.2)) ((List.range k).map (next a)) := pushLs_map next w a (List.range k) l
    refine ⟨?_, ?_, fun x hx => ?_, ?_, fun x hx c hc => ?_, fun x hx c hc => ?_, fun x hx => ?_⟩
    · rw [emap]; exact nodup_ext ih.nd
    · rw [em, List.length_append]; omega
    · rcases pushLs_mem hx with hx | ⟨c, hc, rfl⟩
      · exact ih.all x hx
      · exact hP a c (ih.all _ hqm) (List.mem_range.mp hc)
    · rw [em, List.getElem?_append_left (by omega)]; exact ih.zero
    · rw [em, List.take_append_of_le_length (by omega), List.take_succ, hq] at hx
      rw [emap, mem_ext]
      rcases List.mem_append.mp hx with hx | hx
      · exact .inl (ih.cl x hx c hc)
      · simp at hx; subst hx; exact .inr (List.mem_map_of_mem (List.mem_range.mpr hc))
    · rcases pushLs_mem hx with hx | ⟨c', hc', rfl⟩
      · exact ih.word x hx c hc
      · rcases List.mem_append.mp hc with hc | hc
        · exact ih.word _ hqm c hc
        · rw [List.mem_singleton] at hc; rw [hc]; exact List.mem_range.mp hc'
    · by_cases hxl : x ∈ l
      · have := ih.long x hxl
        rw [em, List.length_append]; omega
      · rcases pushLs_mem hx with hx' | ⟨c, hc, rfl⟩
        · exact absurd hx' hxl
        · have h1 := ih.long _ hqm
          have h2 : 0 < m.length := by
            have hx2 := hx
            rw [em] at hx2
            rcases List.mem_append.mp hx2 with z | z
            · exact absurd z hxl
            · exact List.length_pos_of_mem z
          rw [em, List.length_append, List.length_append, List.length_singleton]
          dsimp only at h1
          omega
theorem ReachWOk.few {next : α → Nat → α} {k : Nat} {a0 : α} {P : α → Prop} {d : Nat} {l : List (List Nat × α)} (h : ReachWOk next k a0 P d l) {U : List α} (hU : ∀ a, P a → a ∈ U) : l.length ≤ U.length := by
  have q := len_sub h.nd (B := U) fun x hx => by
    obtain ⟨y, hy, rfl⟩ := List.mem_map.mp hx
    exact hU _ (h.all y hy)
  rwa [List.length_map] at q
/-- what was gone through stays where it is -/
theorem extW_get {next : α → Nat → α} {k : Nat} {w : List Nat} {a : α} {l : List (List Nat × α)} {i : Nat} (h : i < l.length) : (extW next k w a l)[i]? = l[i]? := by
  obtain ⟨m, em⟩ : ∃ m, extW next k w a l = l ++ m := pushLs_pre next w a (List.range k) l
  rw [em, List.getElem?_append_left h]
end
/-! ### apart -/
def next2 (m n : Sw38.Machine) (p : Nat × Nat) (c : Nat) : Nat × Nat := (m.next p.1 c, n.next p.2 c)
/-- two states of a pair take alike -/
def alike2 (m n : Sw38.Machine) (p : Nat × Nat) : Bool := m.takes.getD p.1 false == n.takes.getD p.2 false
theorem apart_fold (m n : Sw38.Machine) (w : List Nat) (a b : Nat) (n0 : Nat) : ∀ (cs : List Nat) (l : List (List Nat × Nat × Nat)), n0 ≤ l.length →
    cs.foldl (fun (x : List (Nat × Nat) × List (Sw38.Word × Nat × Nat)) (c : Nat) => let p := (m.next a c, n.next b c)
        if x.1.contains p then x else (x.1 ++ [p], x.2 ++ [(w ++ [c], p.1, p.2)])) (l.map (·.2), l.drop n0)
      = ((pushLs (next2 m n) w (a, b) l cs).map (·.2), (pushLs (next2 m n) w (a, b) l cs).drop n0)
  | [], l, _ => rfl
  | c :: cs, l, hl => by
    rw [List.foldl_cons, pushLs_cons]
    by_cases h : next2 m n (a, b) c ∈ l.map (·.2)
    · rw [pushL_in h]
      have e : (l.map (·.2)).contains (m.next a c, n.next b c) = true := List.contains_iff_mem.mpr h
      dsimp only
      rw [if_pos e]
      exact apart_fold m n w a b n0 cs l hl
    · rw [pushL_out h]
      have e : ¬ (l.map (·.2)).contains (m.next a c, n.next b c) = true := fun q => h (List.contains_iff_mem.mp q)
      dsimp only
      rw [if_neg e]
      have := apart_fold m n w a b n0 cs (l ++ [(w ++ [c], next2 m n (a, b) c)]) (by rw [List.length_append]; omega)
      rw [List.map_append, List.drop_append_of_le_length hl] at this
      exact this
theorem drop_cons {β : Type} {l : List β} {d : Nat} {x : β} (h : l[d]? = some x) : l.drop d = x :: l.drop (d + 1) := by
  have hd := (List.getElem?_eq_some_iff.mp h).1
  rw [List.drop_eq_getElem_cons hd, (List.getElem?_eq_some_iff.mp h).2]
theorem apart_one {k : Nat} {m n : Sw38.Machine} {d : Nat} {l : List (List Nat × Nat × Nat)} {w : List Nat} {p : Nat × Nat} (h : l[d]? = some (w, p)) (F : Nat) :
    Sw38.apartFrom k m n (F + 1) (l.map (·.2)) (l.drop d) = if alike2 m n p = true then Sw38.apartFrom k m n F ((extW (next2 m n) k w p l).map (·.2)) ((extW (next2 m n) k w p l).drop (d + 1)) else some w := by
  obtain ⟨a, b⟩ := p
  have hd := (List.getElem?_eq_some_iff.mp h).1
  rw [drop_cons h]
  have f := apart_fold m n w a b l.length (List.range k) l (Nat.le_refl _)
  rw [List.drop_length] at f
  have e2 : (extW (next2 m n) k w (a, b) l).drop (d + 1) = l.drop (d + 1) ++ (extW (next2 m n) k w (a, b) l).drop l.length := by
    obtain ⟨x, ex⟩ : ∃ x, extW (next2 m n) k w (a, b) l = l ++ x := pushLs_pre (next2 m n) w (a, b) (List.range k) l
    rw [ex, List.drop_append_of_le_length (by omega), List.drop_append_of_le_length (Nat.le_refl _), List.drop_length, List.nil_append]
  unfold alike2
  by_cases c : (m.takes.getD a false == n.takes.getD b false) = true
  · rw [if_pos c, e2]
    have c' : ¬ (m.takes.getD a false != n.takes.getD b false) = true := by simpa using c
    show (if (m.takes.getD a false != n.takes.getD b false) = true then some w else _) = _
    rw [if_neg c']
    show (let x := (List.range k).foldl _ (l.map (·.2), []); Sw38.apartFrom k m n F x.1 (l.drop (d + 1) ++ x.2)) = _
    rw [f]
  · rw [if_neg c]
    have c' : (m.takes.getD a false != n.takes.getD b false) = true := by simpa using c
    show (if (m.takes.getD a false != n.takes.getD b false) = true then some w else _) = _
    rw [if_pos c']
theorem apart_run {k : Nat} {m n : Sw38.Machine} {a0 : Nat × Nat} {d : Nat} {l : List (List Nat × Nat × Nat)} (h : ReachW (next2 m n) k a0 d l) :
    (∀ i, i < d → ∀ w p, l[i]? = some (w, p) → alike2 m n p = true) → ∀ F, Sw38.apartFrom k m n (F + d) [a0] [([], a0)] = Sw38.apartFrom k m n F (l.map (·.2)) (l.drop d) := by
  induction h with
  | start => intro _ F; rfl
  | @step d l w a h hq ih =>
    intro hp F
    have hd := (List.getElem?_eq_some_iff.mp hq).1
    have al := hp d (Nat.lt_succ_self d) w a (by rw [extW_get hd]; exact hq)
    have := ih (fun i hi w p e => hp i (by omega) w p (by rw [extW_get (by omega)]; exact e)) (F + 1)
    rw [show F + (d + 1) = F + 1 + d by omega, this, apart_one hq, if_pos al]
theorem apart_some {k : Nat} {m n : Sw38.Machine} {a0 : Nat × Nat} {d : Nat} {l : List (List Nat × Nat × Nat)} (h : ReachW (next2 m n) k a0 d l)
    (hp : ∀ i, i < d → ∀ w p, l[i]? = some (w, p) → alike2 m n p = true) {w : List Nat} {p : Nat × Nat} (hq : l[d]? = some (w, p)) (hn : alike2 m n p = false) {F : Nat} (hF : d < F) :
    Sw38.apartFrom k m n F [a0] [([], a0)] = some w := by
  have := apart_run h hp (F - 1 - d + 1)
  rw [show F - 1 - d + 1 + d = F by omega, apart_one hq, if_neg (by rw [hn]; exact Bool.false_ne_true)] at this
  exact this
theorem apart_none {k : Nat} {m n : Sw38.Machine} {a0 : Nat × Nat} {l : List (List Nat × Nat × Nat)} (h : ReachW (next2 m n) k a0 l.length l)
    (hp : ∀ i, i < l.length → ∀ w p, l[i]? = some (w, p) → alike2 m n p = true) {F : Nat} (hF : l.length ≤ F) :
    Sw38.apartFrom k m n F [a0] [([], a0)] = none := by
  have := apart_run h hp (F - l.length)
  rw [show F - l.length + l.length = F by omega, List.drop_length] at this
  rw [this]
  cases F - l.length <;> rfl
/-! ### first words -/
theorem first_fold (m : Sw38.Machine) (w : List Nat) (a : Nat) (pre : List (List Nat × Nat)) : ∀ (cs : List Nat) (new : List (List Nat × Nat)),
    pre ++ cs.foldl (fun (l : List (Sw38.Word × Nat)) (c : Nat) => let q := m.next a c
        if (pre ++ l).any fun (x : Sw38.Word × Nat) => x.2 == q then l else l ++ [(w ++ [c], q)]) new = pushLs m.next w a (pre ++ new) cs
  | [], new => rfl
  | c :: cs, new => by
    rw [List.foldl_cons, pushLs_cons]
    have e : (pre ++ new).any (fun (x : Sw38.Word × Nat) => x.2 == m.next a c) = decide (m.next a c ∈ (pre ++ new).map (·.2)) := by
      rw [Bool.eq_iff_iff, List.any_eq_true, decide_eq_true_eq, List.mem_map]
      constructor
      · rintro ⟨x, hx, e⟩; exact ⟨x, hx, by simpa using e⟩
      · rintro ⟨x, hx, e⟩; exact ⟨x, hx, by simpa using e⟩
    dsimp only
    rw [e]
    by_cases h : m.next a c ∈ (pre ++ new).map (·.2)
    · rw [if_pos (decide_eq_true h), pushL_in h]
      exact first_fold m w a pre cs new
    · rw [if_neg (by rw [decide_eq_false h]; exact Bool.false_ne_true), pushL_out h, List.append_assoc]
      exact first_fold m w a pre cs (new ++ [(w ++ [c], m.next a c)])
theorem first_run {k : Nat} {m : Sw38.Machine} {d : Nat} {l : List (List Nat × Nat)} (h : ReachW m.next k 0 d l) : ∀ F, Sw38.firstWords k m (F + d) [] [([], 0)] = Sw38.firstWords k m F (l.take d) (l.drop d) := by
  induction h with
  | start => intro F; rfl
  | @step d l w a h hq ih =>
    intro F
    have hd := (List.getElem?_eq_some_iff.mp hq).1
    rw [show F + (d + 1) = F + 1 + d by omega, ih (F + 1), drop_cons hq]
    have f := first_fold m w a l (List.range k) []
    rw [List.append_nil] at f
    have el : l.take d ++ (w, a) :: l.drop (d + 1) = l := by rw [← drop_cons hq, List.take_append_drop]
    show (let new := (List.range k).foldl (fun (l' : List (Sw38.Word × Nat)) (c : Nat) => let q := m.next a c
        if (l.take d ++ (w, a) :: l.drop (d + 1) ++ l').any fun (x : Sw38.Word × Nat) => x.2 == q then l' else l' ++ [(w ++ [c], q)]) []
      Sw38.firstWords k m F (l.take d ++ [(w, a)]) (l.drop (d + 1) ++ new)) = _
    rw [el]
    dsimp only at f ⊢
    generalize (List.range k).foldl _ [] = new at f
    have e1 : (extW m.next k w a l).take (d + 1) = l.take d ++ [(w, a)] := by
      show (pushLs m.next w a l (List.range k)).take (d + 1) = _
      rw [← f, List.take_append_of_le_length (by omega), List.take_succ, hq]; rfl
    have e2 : (extW m.next k w a l).drop (d + 1) = l.drop (d + 1) ++ new := by
      show (pushLs m.next w a l (List.range k)).drop (d + 1) = _
      rw [← f, List.drop_append_of_le_length (by omega)]
    rw [e1, e2]
theorem first_all {k : Nat} {m : Sw38.Machine} {l : List (List Nat × Nat)} (h : ReachW m.next k 0 l.length l) {F : Nat} (hF : l.length ≤ F) : Sw38.firstWords k m F [] [([], 0)] = l := by
  have := first_run h (F - l.length)
  rw [show F - l.length + l.length = F by omega, List.drop_length, List.take_length] at this
  rw [this]
  cases F - l.length <;> rfl
/-! ### words in order -/
theorem less_irrefl : ∀ a : List Nat, Sw38.less a a = false
  | [] => rfl
  | x :: s => by unfold Sw38.less; rw [if_pos rfl]; exact less_irrefl s
theorem less_trans : ∀ {a b c : List Nat}, Sw38.less a b = true → Sw38.less b c = true → Sw38.less a c = true
  | [], b, c, h, _ => by unfold Sw38.less at h; cases h
  | x :: a, [], c, h, _ => by unfold Sw38.less at h; cases h
  | x :: a, y :: b, [], _, h => by unfold Sw38.less at h; cases h
  | x :: a, y :: b, z :: c, h1, h2 => by
    unfold Sw38.less at h1 h2 ⊢
    by_cases e1 : x = y
    · subst e1
      rw [if_pos rfl] at h1
      by_cases e2 : x = z
      · subst e2
        rw [if_pos rfl] at h2 ⊢
        exact less_trans h1 h2
      · rw [if_neg e2] at h2 ⊢; exact h2
    · rw [if_neg e1, decide_eq_true_eq] at h1
      by_cases e2 : y = z
      · subst e2
        rw [if_neg e1, decide_eq_true_eq]; exact h1
      · rw [if_neg e2, decide_eq_true_eq] at h2
        rw [if_neg (by omega), decide_eq_true_eq]; omega
theorem less_total : ∀ {a b : List Nat}, a.length = b.length → a ≠ b → Sw38.less a b = true ∨ Sw38.less b a = true
  | [], [], _, h => absurd rfl h
  | [], _ :: _, h, _ => by simp at h
  | _ :: _, [], h, _ => by simp at h
  | x :: a, y :: b, hl, hn => by
    unfold Sw38.less
    by_cases e : x = y
    · subst e
      rw [if_pos rfl, if_pos rfl]
      exact less_total (by simpa using hl) fun q => hn (by rw [q])
    · rw [if_neg e, if_neg (Ne.symm e), decide_eq_true_eq, decide_eq_true_eq]; omega
theorem before_iff {a b : List Nat} : Sw38.before a b = true ↔ a.length < b.length ∨ (a.length = b.length ∧ Sw38.less a b = true) := by
  unfold Sw38.before
  simp only [Bool.or_eq_true, Bool.and_eq_true, decide_eq_true_eq, beq_iff_eq]
theorem before_irrefl (a : List Nat) : ¬ Sw38.before a a = true := by
  rw [before_iff, less_irrefl]
  rintro (h | ⟨_, h⟩)
  · omega
  · cases h
theorem before_trans {a b c : List Nat} (h1 : Sw38.before a b = true) (h2 : Sw38.before b c = true) : Sw38.before a c = true := by
  rw [before_iff] at h1 h2 ⊢
  rcases h1 with h1 | ⟨h1, h1'⟩
  · rcases h2 with h2 | ⟨h2, _⟩ <;> (left; omega)
  · rcases h2 with h2 | ⟨h2, h2'⟩
    · left; omega
    · exact .inr ⟨by omega, less_trans h1' h2'⟩
theorem before_total {a b : List Nat} (h : a ≠ b) : Sw38.before a b = true ∨ Sw38.before b a = true := by
  rw [before_iff, before_iff]
  rcases Nat.lt_trichotomy a.length b.length with q | q | q
  · exact .inl (.inl q)
  · rcases less_total q h with z | z
    · exact .inl (.inr ⟨q, z⟩)
    · exact .inr (.inr ⟨q.symm, z⟩)
  · exact .inr (.inl q)
abbrev InOrder (l : List (List Nat)) : Prop := l.Pairwise fun v w => Sw38.before v w = true
/-- a list in order is told by its words -/
theorem order_unique : ∀ {l j : List (List Nat)}, InOrder l → InOrder j → (∀ w, w ∈ l ↔ w ∈ j) → l = j
  | [], [], _, _, _ => rfl
  | [], y :: j, _, _, h => by have := (h y).mpr List.mem_cons_self; cases this
  | x :: l, [], _, _, h => by have := (h x).mp List.mem_cons_self; cases this
  | x :: l, y :: j, hl, hj, h => by
    obtain ⟨hx, hl'⟩ := List.pairwise_cons.mp hl
    obtain ⟨hy, hj'⟩ := List.pairwise_cons.mp hj
    have e : x = y := by
      rcases List.mem_cons.mp ((h x).mp List.mem_cons_self) with e | q
      · exact e
      · rcases List.mem_cons.mp ((h y).mpr List.mem_cons_self) with e | r
        · exact e.symm
        · exact absurd (before_trans (hy x q) (hx y r)) (before_irrefl y)
    subst e
    rw [order_unique hl' hj' fun w => ?_]
    constructor
    · intro hw
      rcases List.mem_cons.mp ((h w).mp (List.mem_cons_of_mem _ hw)) with e | q
      · subst e; exact absurd (hx w hw) (before_irrefl w)
      · exact q
    · intro hw
      rcases List.mem_cons.mp ((h w).mpr (List.mem_cons_of_mem _ hw)) with e | q
      · subst e; exact absurd (hy w hw) (before_irrefl w)
      · exact q
theorem mem_insertIn {w x : List Nat} : ∀ {l : List (List Nat)}, x ∈ Sw38.insertIn w l ↔ x = w ∨ x ∈ l
  | [] => by unfold Sw38.insertIn; simp
  | v :: l => by
    unfold Sw38.insertIn
    by_cases e : v = w
    · rw [if_pos e]; subst e; simp
    · rw [if_neg e]
      by_cases b : Sw38.before w v = true
      · rw [if_pos b]; simp
      · rw [if_neg b, List.mem_cons, mem_insertIn, List.mem_cons]
        constructor
        · rintro (h | h | h)
          · exact .inr (.inl h)
          · exact .inl h
          · exact .inr (.inr h)
        · rintro (h | h | h)
          · exact .inr (.inl h)
          · exact .inl h
          · exact .inr (.inr h)
theorem order_insertIn {w : List Nat} : ∀ {l : List (List Nat)}, InOrder l → InOrder (Sw38.insertIn w l)
  | [], _ => by unfold Sw38.insertIn; simp
  | v :: l, h => by
    obtain ⟨hv, hl⟩ := List.pairwise_cons.mp h
    unfold Sw38.insertIn
    by_cases e : v = w
    · rw [if_pos e]; exact h
    · rw [if_neg e]
      by_cases b : Sw38.before w v = true
      · rw [if_pos b]
        refine List.pairwise_cons.mpr ⟨fun x hx => ?_, h⟩
        rcases List.mem_cons.mp hx with e | hx
        · rw [e]; exact b
        · exact before_trans b (hv x hx)
      · rw [if_neg b]
        refine List.pairwise_cons.mpr ⟨fun x hx => ?_, order_insertIn hl⟩
        rcases mem_insertIn.mp hx with e' | hx
        · rw [e']
          rcases before_total e with z | z
          · exact z
          · exact absurd z b
        · exact hv x hx
theorem fold_insertIn : ∀ (xs l : List (List Nat)), InOrder l → InOrder (xs.foldl (fun l w => Sw38.insertIn w l) l) ∧ ∀ x, x ∈ xs.foldl (fun l w => Sw38.insertIn w l) l ↔ x ∈ l ∨ x ∈ xs
  | [], l, h => ⟨h, fun x => by simp⟩
  | w :: xs, l, h => by
    obtain ⟨h1, h2⟩ := fold_insertIn xs (Sw38.insertIn w l) (order_insertIn h)
    refine ⟨h1, fun x => ?_⟩
    rw [List.foldl_cons, h2 x, mem_insertIn, List.mem_cons]
    constructor
    · rintro ((h | h) | h)
      · exact .inr (.inl h)
      · exact .inl h
      · exact .inr (.inr h)
    · rintro (h | h | h)
      · exact .inl (.inr h)
      · exact .inl (.inl h)
      · exact .inr h
/-! ### the words that test a machine -/
def headsOf (k : Nat) (fw : List (List Nat × Nat)) : List (List Nat) := fw.flatMap fun x => x.1 :: (List.range k).map fun c => x.1 ++ [c]
def midsOf (k more : Nat) : List (List Nat) := (List.range (more + 1)).flatMap fun n => Sw38.wordsOf k n
def tailsOf (k : Nat) (m : Sw38.Machine) : List (List Nat) := [] :: (List.range m.size).flatMap fun j => (List.range j).filterMap fun i => Sw38.apartFrom k m m 2000 [(i, j)] [([], i, j)]
theorem testOf_order (k : Nat) (m : Sw38.Machine) (more : Nat) : InOrder (Sw38.testOf k m more) := by
  unfold Sw38.testOf
  exact (fold_insertIn _ [] List.Pairwise.nil).1
theorem testOf_mem {k : Nat} {m : Sw38.Machine} {more : Nat} {w : List Nat} : w ∈ Sw38.testOf k m more ↔ ∃ p ∈ headsOf k (Sw38.firstWords k m 100 [] [([], 0)]), ∃ u ∈ midsOf k more, ∃ t ∈ tailsOf k m, w = p ++ (u ++ t) := by
  unfold Sw38.testOf
  rw [(fold_insertIn _ [] List.Pairwise.nil).2 w, (kinds_eq _).2, mem_dd]
  show (w ∈ [] ∨ w ∈ (headsOf k (Sw38.firstWords k m 100 [] [([], 0)])).flatMap fun p => (midsOf k more).flatMap fun u => (tailsOf k m).map fun t => p ++ (u ++ t)) ↔ _
  simp only [List.not_mem_nil, false_or, List.mem_flatMap, List.mem_map]
  constructor
  · rintro ⟨p, hp, u, hu, t, ht, rfl⟩; exact ⟨p, hp, u, hu, t, ht, rfl⟩
  · rintro ⟨p, hp, u, hu, t, ht, rfl⟩; exact ⟨p, hp, u, hu, t, ht, rfl⟩
theorem mem_wordsOf {k : Nat} : ∀ {n : Nat} {w : List Nat}, w ∈ Sw38.wordsOf k n ↔ w.length = n ∧ ∀ c ∈ w, c < k
  | 0, w => by
    unfold Sw38.wordsOf
    rw [List.mem_singleton]
    constructor
    · rintro rfl; simp
    · rintro ⟨h, _⟩; exact List.length_eq_zero_iff.mp h
  | n + 1, w => by
    unfold Sw38.wordsOf
    rw [List.mem_flatMap]
    constructor
    · rintro ⟨v, hv, hw⟩
      obtain ⟨c, hc, rfl⟩ := List.mem_map.mp hw
      obtain ⟨h1, h2⟩ := mem_wordsOf.mp hv
      refine ⟨by rw [List.length_append, h1]; rfl, fun x hx => ?_⟩
      rcases List.mem_append.mp hx with hx | hx
      · exact h2 x hx
      · rw [List.mem_singleton] at hx; rw [hx]; exact List.mem_range.mp hc
    · rintro ⟨h1, h2⟩
      have hne : w ≠ [] := fun e => by rw [e] at h1; cases h1
      refine ⟨w.dropLast, mem_wordsOf.mpr ⟨by rw [List.length_dropLast, h1]; rfl, fun c hc => h2 c (by rw [← List.dropLast_concat_getLast hne]; exact List.mem_append_left _ hc)⟩, List.mem_map.mpr ⟨w.getLast hne, List.mem_range.mpr (h2 _ (List.getLast_mem hne)), List.dropLast_concat_getLast hne⟩⟩
theorem mem_mids {k more : Nat} {w : List Nat} : w ∈ midsOf k more ↔ w.length ≤ more ∧ ∀ c ∈ w, c < k := by
  unfold midsOf
  rw [List.mem_flatMap]
  constructor
  · rintro ⟨n, hn, hw⟩
    obtain ⟨h1, h2⟩ := mem_wordsOf.mp hw
    have := List.mem_range.mp hn
    exact ⟨by omega, h2⟩
  · rintro ⟨h1, h2⟩
    exact ⟨w.length, List.mem_range.mpr (by omega), mem_wordsOf.mpr ⟨rfl, h2⟩⟩
/-- **A list in order of just these words is what is due.** -/
theorem testOf_due {k : Nat} {m : Sw38.Machine} {more : Nat} {fw : List (List Nat × Nat)} {l : List (List Nat)} (hf : Sw38.firstWords k m 100 [] [([], 0)] = fw) (ho : InOrder l)
    (hm : ∀ w, w ∈ l ↔ ∃ p ∈ headsOf k fw, ∃ u ∈ midsOf k more, ∃ t ∈ tailsOf k m, w = p ++ (u ++ t)) : Sw38.testOf k m more = l := by
  subst hf
  exact order_unique (testOf_order k m more) ho fun w => by rw [testOf_mem, hm]
end Lm
set_option maxHeartbeats 1000000
namespace Lm
/-! ### a machine as it is handed in -/
def mach (k n : Nat) (R T : List Nat) : Sw38.Machine := ⟨(List.range n).map fun i => (R.drop (i * k)).take k, (T.take n).map fun t => t == 1⟩
structure IsMach (k n : Nat) (R T : List Nat) : Prop where
  rl : R.length = k * n
  tl : T.length = n
  rlt : ∀ x ∈ R, x < n
  tlt : ∀ t ∈ T, t ≤ 1
theorem mach_size (k n : Nat) (R T : List Nat) : (mach k n R T).rows.length = n := by unfold mach; simp
theorem mach_row {k n : Nat} {R T : List Nat} (h : IsMach k n R T) : rowOf (mach k n R T).rows = rowA k R := rowOf_machine h.rl
theorem mach_take {k n : Nat} {R T : List Nat} (h : IsMach k n R T) (s : Nat) : (mach k n R T).takes.getD s false = (T.getD s 0 == 1) := by
  have := congrFun (takes_machine h.tl h.tlt) s
  apply toNat_inj
  refine Eq.trans this ?_
  show T.getD s 0 = (T.getD s 0 == 1).toNat
  rw [List.getD_eq_getElem?_getD]
  cases e : T[s]? with
  | none => rfl
  | some t =>
    have := h.tlt t (List.mem_of_getElem? e)
    show t = (t == 1).toNat
    rcases (show t = 0 ∨ t = 1 by omega) with rfl | rfl <;> rfl
theorem mach_next {k n : Nat} {R T : List Nat} (h : IsMach k n R T) {s c : Nat} (hc : c < k) : (mach k n R T).next s c = R.getD (k * s + c) 0 := by
  show (rowOf (mach k n R T).rows s).getD c 0 = _
  rw [mach_row h]
  unfold rowA
  rw [List.getD_eq_getElem?_getD, List.getD_eq_getElem?_getD, List.getElem?_take_of_lt hc, List.getElem?_drop]
theorem row_get {k : Nat} {R : List Nat} {s c : Nat} (hc : c < k) : (rowA k R s)[c]? = R[k * s + c]? := by
  unfold rowA
  rw [List.getElem?_take_of_lt hc, List.getElem?_drop]
theorem next_lt {k n : Nat} {R T : List Nat} (h : IsMach k n R T) {s c : Nat} (hs : s < n) (hc : c < k) : (mach k n R T).next s c < n := by
  rw [mach_next h hc]
  have hb : k * s + c < R.length := by
    rw [h.rl]
    have : k * (s + 1) ≤ k * n := Nat.mul_le_mul_left k hs
    rw [Nat.mul_succ] at this
    omega
  rw [List.getD_eq_getElem?_getD, List.getElem?_eq_getElem hb]
  exact h.rlt _ (List.getElem_mem hb)
theorem isMach_of {k n : Int} {ns ts : List Int} (hr : 1 ≤ k ∧ 1 ≤ n) (h1 : (ns.length : Int) = k * n) (h2 : (ts.length : Int) = n) (hm : okM n ns ts = true) : IsMach k.toNat n.toNat (natsOf ns) (natsOf ts) := by
  unfold okM at hm
  rw [Bool.and_eq_true] at hm
  refine ⟨?_, ?_, fun x hx => ?_, fun x hx => ?_⟩
  · unfold natsOf
    rw [List.length_map]
    have e : k * n = ((k.toNat * n.toNat : Nat) : Int) := by rw [Int.natCast_mul, Int.toNat_of_nonneg (by omega), Int.toNat_of_nonneg (by omega)]
    rw [e] at h1
    exact Int.ofNat.inj h1
  · unfold natsOf; rw [List.length_map]; omega
  · unfold natsOf at hx
    obtain ⟨z, hz, rfl⟩ := List.mem_map.mp hx
    have := List.all_eq_true.mp hm.1 z hz
    unfold okS at this
    simp only [Bool.and_eq_true, decide_eq_true_eq] at this
    omega
  · unfold natsOf at hx
    obtain ⟨z, hz, rfl⟩ := List.mem_map.mp hx
    have := List.all_eq_true.mp hm.2 z hz
    unfold okT at this
    simp only [Bool.or_eq_true, decide_eq_true_eq] at this
    omega
/-- the machine, or none -/
theorem machineOf_ok {k n : Int} {ns ts : List Int} (hr : 1 ≤ k ∧ 1 ≤ n) (h1 : (ns.length : Int) = k * n) (h2 : (ts.length : Int) = n) (p1 : ∀ x ∈ ns, 0 ≤ x) (p2 : ∀ x ∈ ts, 0 ≤ x) :
    Sw38.machineOf k.toNat n.toNat (natsOf ns) (natsOf ts) = if okM n ns ts = true then some (mach k.toNat n.toNat (natsOf ns) (natsOf ts)) else none := by
  have e1 : ns.length = k.toNat * n.toNat := by
    have e : k * n = ((k.toNat * n.toNat : Nat) : Int) := by rw [Int.natCast_mul, Int.toNat_of_nonneg (by omega), Int.toNat_of_nonneg (by omega)]
    rw [e] at h1
    exact Int.ofNat.inj h1
  have e2 : ts.length = n.toNat := by omega
  have en : ((n.toNat : Nat) : Int) = n := Int.toNat_of_nonneg (by omega)
  have e := machine_ok e1 e2 p1 p2
  rw [en] at e
  unfold Sw38.machineOf
  rw [e]
  rfl
/-! ### apart, in its cases -/
def inApart (k n m : Int) : Prop := (1 ≤ k ∧ k ≤ 16) ∧ (1 ≤ n ∧ n ≤ 64) ∧ (1 ≤ m ∧ m ≤ 64)
theorem apart_f (k n m : Int) (ns ts us vs : List Int) : PySw38.apart k n m ns ts us vs = ansL (if (Sw38.within k 1 16 && (Sw38.within n 1 64 && Sw38.within m 1 64)) = false then Sw38.says (-2) else match Sw38.machineOf k.toNat n.toNat (natsOf ns) (natsOf ts), Sw38.machineOf k.toNat m.toNat (natsOf us) (natsOf vs) with
    | some p, some q => (match Sw38.apartFrom k.toNat p q 5000 [(0, 0)] [([], 0, 0)] with
      | some w => ⟨(w.length : Nat), [], [], w⟩
      | none => Sw38.says (-1))
    | _, _ => Sw38.says (-3)) := rfl
theorem apart_in {k n m : Int} : (Sw38.within k 1 16 && (Sw38.within n 1 64 && Sw38.within m 1 64)) = true ↔ inApart k n m := by
  unfold inApart
  rw [Bool.and_eq_true, Bool.and_eq_true, within_iff, within_iff, within_iff]
  constructor
  · rintro ⟨h1, h2, h3⟩; exact ⟨⟨by omega, by omega⟩, ⟨by omega, by omega⟩, by omega, by omega⟩
  · rintro ⟨h1, h2, h3⟩; exact ⟨⟨by omega, by omega⟩, ⟨by omega, by omega⟩, by omega, by omega⟩
theorem apart_asked {k n m : Int} {ns ts us vs : List Int} (h : PySw38.apart_asked k n m ns ts us vs = true) (hr : inApart k n m) :
    (ns.length : Int) = k * n ∧ (ts.length : Int) = n ∧ (us.length : Int) = k * m ∧ (vs.length : Int) = m ∧ (∀ x ∈ ns, 0 ≤ x) ∧ (∀ x ∈ ts, 0 ≤ x) ∧ (∀ x ∈ us, 0 ≤ x) ∧ (∀ x ∈ vs, 0 ≤ x) := by
  unfold PySw38.apart_asked Sw38Neutral.asked at h
  rw [Bool.and_eq_true, List.all_cons, Bool.and_eq_true] at h
  have h1 := h.1.1
  unfold inApart at hr
  unfold Sw38Neutral.asked1 at h1
  simp only [Bool.and_eq_true, decide_eq_true_eq, List.all_eq_true, if_pos hr] at h1
  obtain ⟨_, _, _, ⟨a1, b1⟩, ⟨a2, b2⟩, ⟨a3, b3⟩, a4, b4⟩ := h1
  have nn : ∀ {l : List Int} {b : Nat}, (∀ x ∈ l, Sw38Neutral.natural x b = true) → ∀ x ∈ l, 0 ≤ x := fun h x hx => by
    have := h x hx
    unfold Sw38Neutral.natural at this
    simp only [Bool.and_eq_true, decide_eq_true_eq] at this
    exact this.1
  exact ⟨b1, b2, b3, b4, nn a1, nn a2, nn a3, nn a4⟩
theorem apart_out {k n m : Int} {ns ts us vs : List Int} (hr : ¬ inApart k n m) : PySw38.apart k n m ns ts us vs = [-2] := by
  rw [apart_f, if_pos (by rw [Bool.eq_false_iff]; exact fun q => hr (apart_in.mp q))]; rfl
theorem apart_bad {k n m : Int} {ns ts us vs : List Int} (hr : inApart k n m) (ha : PySw38.apart_asked k n m ns ts us vs = true) (hm : (okM n ns ts && okM m us vs) = false) : PySw38.apart k n m ns ts us vs = [-3] := by
  obtain ⟨l1, l2, l3, l4, p1, p2, p3, p4⟩ := apart_asked ha hr
  have hr' := hr
  unfold inApart at hr'
  rw [apart_f, if_neg (by rw [apart_in.mpr hr]; simp), machineOf_ok ⟨hr'.1.1, hr'.2.1.1⟩ l1 l2 p1 p2, machineOf_ok ⟨hr'.1.1, hr'.2.2.1⟩ l3 l4 p3 p4]
  cases h1 : okM n ns ts with
  | false => rfl
  | true =>
    cases h2 : okM m us vs with
    | false => rfl
    | true => rw [h1, h2] at hm; cases hm
theorem apart_due {k n m : Int} {ns ts us vs : List Int} (hr : inApart k n m) (ha : PySw38.apart_asked k n m ns ts us vs = true) (h1 : okM n ns ts = true) (h2 : okM m us vs = true) :
    PySw38.apart k n m ns ts us vs = match Sw38.apartFrom k.toNat (mach k.toNat n.toNat (natsOf ns) (natsOf ts)) (mach k.toNat m.toNat (natsOf us) (natsOf vs)) 5000 [(0, 0)] [([], 0, 0)] with
      | some w => (w.length : Int) :: w.map fun (x : Nat) => (x : Int)
      | none => [-1] := by
  obtain ⟨l1, l2, l3, l4, p1, p2, p3, p4⟩ := apart_asked ha hr
  have hr' := hr
  unfold inApart at hr'
  rw [apart_f, if_neg (by rw [apart_in.mpr hr]; simp), machineOf_ok ⟨hr'.1.1, hr'.2.1.1⟩ l1 l2 p1 p2, machineOf_ok ⟨hr'.1.1, hr'.2.2.1⟩ l3 l4 p3 p4, if_pos h1, if_pos h2]
  dsimp only
  cases Sw38.apartFrom k.toNat (mach k.toNat n.toNat (natsOf ns) (natsOf ts)) (mach k.toNat m.toNat (natsOf us) (natsOf vs)) 5000 [(0, 0)] [([], 0, 0)] with
  | none => rfl
  | some w => rfl
/-! ### test, in its cases -/
def inTest (k n e o : Int) : Prop := (1 ≤ k ∧ k ≤ 4) ∧ ((1 ≤ n ∧ n ≤ 12) ∧ ((0 ≤ e ∧ e ≤ 2) ∧ (0 ≤ o ∧ o ≤ 2097152)))
theorem test_f (k n e o : Int) (ns ts : List Int) : PySw38.test k n e o ns ts = ansL (if (Sw38.within k 1 4 && (Sw38.within n 1 12 && (Sw38.within e 0 2 && Sw38.within o 0 Sw38.ROOM))) = false then Sw38.says (-2) else match Sw38.machineOf k.toNat n.toNat (natsOf ns) (natsOf ts) with
    | some m => if Sw38.leastOf m = m then (let l := Sw38.spelled (Sw38.testOf k.toNat m e.toNat)
      if o < (l.length : Int) then Sw38.says (-1) else ⟨(l.length : Nat), [], [], l⟩) else Sw38.says (-3)
    | none => Sw38.says (-3)) := rfl
theorem test_in {k n e o : Int} : (Sw38.within k 1 4 && (Sw38.within n 1 12 && (Sw38.within e 0 2 && Sw38.within o 0 Sw38.ROOM))) = true ↔ inTest k n e o := by
  unfold inTest Sw38.ROOM
  rw [Bool.and_eq_true, Bool.and_eq_true, Bool.and_eq_true, within_iff, within_iff, within_iff, within_iff]
  constructor
  · rintro ⟨h1, h2, h3, h4⟩; exact ⟨⟨by omega, by omega⟩, ⟨by omega, by omega⟩, ⟨by omega, by omega⟩, by omega, by omega⟩
  · rintro ⟨h1, h2, h3, h4⟩; exact ⟨⟨by omega, by omega⟩, ⟨by omega, by omega⟩, ⟨by omega, by omega⟩, by omega, by omega⟩
theorem test_asked {k n e o : Int} {ns ts : List Int} (h : PySw38.test_asked k n e o ns ts = true) : (inTest k n e o → (ns.length : Int) = k * n ∧ (ts.length : Int) = n ∧ (∀ x ∈ ns, 0 ≤ x) ∧ (∀ x ∈ ts, 0 ≤ x)) ∧ (PySw38.test k n e o ns ts).length ≤ 1000000 := by
  unfold PySw38.test_asked Sw38Neutral.asked at h
  rw [Bool.and_eq_true, List.all_cons, Bool.and_eq_true] at h
  refine ⟨fun hr => ?_, ?_⟩
  · have h1 := h.1.1
    unfold inTest at hr
    unfold Sw38Neutral.asked1 at h1
    simp only [Bool.and_eq_true, decide_eq_true_eq, List.all_eq_true, if_pos hr] at h1
    obtain ⟨_, _, _, _, ⟨a1, b1⟩, a2, b2⟩ := h1
    have nn : ∀ {l : List Int} {b : Nat}, (∀ x ∈ l, Sw38Neutral.natural x b = true) → ∀ x ∈ l, 0 ≤ x := fun h x hx => by
      have := h x hx
      unfold Sw38Neutral.natural at this
      simp only [Bool.and_eq_true, decide_eq_true_eq] at this
      exact this.1
    exact ⟨b1, b2, nn a1, nn a2⟩
  · have h2 := of_decide_eq_true h.2
    unfold Sw38Neutral.numbersOf at h2
    rw [List.map_cons, List.map_nil, List.sum_cons, List.sum_nil, Nat.add_zero] at h2
    exact h2
theorem test_out {k n e o : Int} {ns ts : List Int} (hr : ¬ inTest k n e o) : PySw38.test k n e o ns ts = [-2] := by
  rw [test_f, if_pos (by rw [Bool.eq_false_iff]; exact fun q => hr (test_in.mp q))]; rfl
theorem test_bad {k n e o : Int} {ns ts : List Int} (hr : inTest k n e o) (ha : PySw38.test_asked k n e o ns ts = true) (hm : okM n ns ts = false) : PySw38.test k n e o ns ts = [-3] := by
  obtain ⟨l1, l2, p1, p2⟩ := (test_asked ha).1 hr
  have hr' := hr
  unfold inTest at hr'
  rw [test_f, if_neg (by rw [test_in.mpr hr]; simp), machineOf_ok ⟨hr'.1.1, hr'.2.1.1⟩ l1 l2 p1 p2, if_neg (by rw [hm]; simp)]
  rfl
theorem test_due {k n e o : Int} {ns ts : List Int} (hr : inTest k n e o) (ha : PySw38.test_asked k n e o ns ts = true) (h1 : okM n ns ts = true) :
    PySw38.test k n e o ns ts = if Sw38.leastOf (mach k.toNat n.toNat (natsOf ns) (natsOf ts)) = mach k.toNat n.toNat (natsOf ns) (natsOf ts) then
      (if o < ((Sw38.spelled (Sw38.testOf k.toNat (mach k.toNat n.toNat (natsOf ns) (natsOf ts)) e.toNat)).length : Int) then [-1]
        else ((Sw38.spelled (Sw38.testOf k.toNat (mach k.toNat n.toNat (natsOf ns) (natsOf ts)) e.toNat)).length : Int) :: (Sw38.spelled (Sw38.testOf k.toNat (mach k.toNat n.toNat (natsOf ns) (natsOf ts)) e.toNat)).map fun (x : Nat) => (x : Int)) else [-3] := by
  obtain ⟨l1, l2, p1, p2⟩ := (test_asked ha).1 hr
  have hr' := hr
  unfold inTest at hr'
  rw [test_f, if_neg (by rw [test_in.mpr hr]; simp), machineOf_ok ⟨hr'.1.1, hr'.2.1.1⟩ l1 l2 p1 p2, if_pos h1]
  dsimp only
  by_cases c : Sw38.leastOf (mach k.toNat n.toNat (natsOf ns) (natsOf ts)) = mach k.toNat n.toNat (natsOf ns) (natsOf ts)
  · rw [if_pos c, if_pos c]
    by_cases d : o < ((Sw38.spelled (Sw38.testOf k.toNat (mach k.toNat n.toNat (natsOf ns) (natsOf ts)) e.toNat)).length : Int)
    · rw [if_pos d, if_pos d]; rfl
    · rw [if_neg d, if_neg d]
      unfold ansL Sw38Neutral.ints
      dsimp only
      rw [List.map_nil, List.nil_append, List.nil_append]
  · rw [if_neg c, if_neg c]; rfl
/-! ### is it least -/
theorem flatten_inj {k : Nat} : ∀ {a b : List (List Nat)}, (∀ r ∈ a, r.length = k) → (∀ r ∈ b, r.length = k) → a.length = b.length → a.flatten = b.flatten → a = b
  | [], [], _, _, _, _ => rfl
  | [], _ :: _, _, _, h, _ => by simp at h
  | _ :: _, [], _, _, h, _ => by simp at h
  | x :: a, y :: b, ha, hb, hl, h => by
    rw [List.flatten_cons, List.flatten_cons] at h
    have hx := ha x List.mem_cons_self
    have hy := hb y List.mem_cons_self
    have e1 := congrArg (List.take k) h
    have e2 := congrArg (List.drop k) h
    rw [List.take_append_of_le_length (by omega), List.take_append_of_le_length (by omega), List.take_of_length_le (by omega), List.take_of_length_le (by omega)] at e1
    rw [List.drop_append_of_le_length (by omega), List.drop_append_of_le_length (by omega), List.drop_of_length_le (by omega), List.drop_of_length_le (by omega), List.nil_append, List.nil_append] at e2
    rw [e1, flatten_inj (fun r hr => ha r (List.mem_cons_of_mem _ hr)) (fun r hr => hb r (List.mem_cons_of_mem _ hr)) (by simpa using hl) e2]
theorem toNats_inj : ∀ {a b : List Bool}, a.map Bool.toNat = b.map Bool.toNat → a = b
  | [], [], _ => rfl
  | [], _ :: _, h => by simp at h
  | _ :: _, [], h => by simp at h
  | x :: a, y :: b, h => by
    rw [List.map_cons, List.map_cons] at h
    injection h with h1 h2
    rw [toNat_inj h1, toNats_inj h2]
theorem flatten_rows {k : Nat} : ∀ (n : Nat) {R : List Nat}, R.length = k * n → ((List.range n).map fun i => (R.drop (i * k)).take k).flatten = R
  | 0, R, h => by
    rw [Nat.mul_zero] at h
    rw [List.length_eq_zero_iff.mp h]; rfl
  | n + 1, R, h => by
    rw [List.range_succ_eq_map, List.map_cons, List.map_map, List.flatten_cons]
    have hl : (R.drop k).length = k * n := by rw [List.length_drop, h, Nat.mul_succ]; omega
    have := flatten_rows n hl
    have e : ((List.range n).map ((fun i => (R.drop (i * k)).take k) ∘ Nat.succ)) = (List.range n).map fun i => ((R.drop k).drop (i * k)).take k := by
      refine List.map_congr_left fun i _ => ?_
      show (R.drop ((i + 1) * k)).take k = ((R.drop k).drop (i * k)).take k
      rw [List.drop_drop, Nat.succ_mul, Nat.add_comm]
    rw [e, this, Nat.zero_mul, List.drop_zero, List.take_append_drop]
theorem mach_shows {k n : Nat} {R T : List Nat} (h : IsMach k n R T) : (mach k n R T).rows.flatten = R ∧ (mach k n R T).takes.map Bool.toNat = T := by
  refine ⟨flatten_rows n h.rl, ?_⟩
  unfold mach
  dsimp only
  rw [← h.tl, List.take_length, List.map_map]
  have : ∀ t ∈ T, (Bool.toNat ∘ fun t => t == 1) t = id t := fun t ht => by
    have := h.tlt t ht
    rcases (show t = 0 ∨ t = 1 by omega) with rfl | rfl <;> rfl
  rw [List.map_congr_left this, List.map_id]
/-- the least machine is the machine itself just where what is told of it is what was handed in -/
theorem least_self {k n : Nat} {R T : List Nat} (h : IsMach k n R T) (h1 : 1 ≤ n) (h64 : n ≤ 64) {l : List Nat} {g : Nat → Nat} (hl : Reach (rowA k R) l.length l) (D : Done (rowA k R) (fun i => T.getD i 0) l g) (canon : ∀ s ∈ l, num g l s = g s) :
    Sw38.leastOf (mach k n R T) = mach k n R T ↔ told (rowA k R) (fun i => T.getD i 0) g l = n :: (R ++ T) := by
  have er := mach_row h
  have et : (fun i => ((mach k n R T).takes.getD i false).toNat) = fun i => T.getD i 0 := takes_machine h.tl h.tlt
  have hs := mach_size k n R T
  have hr : ∀ s, s < (mach k n R T).rows.length → ∀ a ∈ rowOf (mach k n R T).rows s, a < (mach k n R T).rows.length := by
    rw [er, hs]
    intro s _ a ha
    exact h.rlt a (List.mem_of_mem_drop (List.mem_of_mem_take ha))
  have htl : (mach k n R T).takes.length = (mach k n R T).rows.length := by
    rw [hs]; unfold mach; dsimp only; rw [List.length_map, List.length_take, h.tl]; omega
  have a1 := leastOf_eq (m := mach k n R T) (l := l) (g := g) (by omega) (by omega) htl hr (by rw [er]; exact hl) (by rw [er, et]; exact D) canon
  have a2 := leastOf_told (m := mach k n R T) (l := l) (g := g) (by omega) (by omega) htl hr (by rw [er]; exact hl) (by rw [er, et]; exact D) canon
  rw [er, et] at a2
  rw [← a2]
  obtain ⟨f1, f2⟩ := mach_shows h
  constructor
  · intro e
    rw [e, f1, f2]
    show (mach k n R T).rows.length :: _ = _
    rw [hs]
  · intro e
    injection e with e1 e2
    have lenR : (Sw38.leastOf (mach k n R T)).rows.flatten.length = R.length := by
      have rl : ∀ r ∈ (Sw38.leastOf (mach k n R T)).rows, r.length = k := by
        intro r hr'
        rw [a1] at hr'
        obtain ⟨p, hp, rfl⟩ := List.mem_map.mp hr'
        have hpl := reps_mem g l hp
        have hpn := (hl.ok (N := n) (by omega) fun s _ a ha => h.rlt a (List.mem_of_mem_drop (List.mem_of_mem_take ha))).lt p hpl
        rw [List.length_map, er]
        unfold rowA
        rw [List.length_take, List.length_drop, h.rl]
        have : k * (p + 1) ≤ k * n := Nat.mul_le_mul_left k hpn
        rw [Nat.mul_succ] at this
        omega
      have fl : ∀ L : List (List Nat), (∀ r ∈ L, r.length = k) → L.flatten.length = k * L.length := by
        intro L
        induction L with
        | nil => intro _; rfl
        | cons x L ih =>
          intro hL
          rw [List.flatten_cons, List.length_append, ih fun r hr => hL r (List.mem_cons_of_mem _ hr), hL x List.mem_cons_self, List.length_cons, Nat.mul_succ]
          omega
      rw [fl _ rl, h.rl]
      show k * (Sw38.leastOf (mach k n R T)).size = k * n
      rw [e1]
    obtain ⟨e3, e4⟩ := List.append_inj e2 lenR
    have rl : ∀ r ∈ (Sw38.leastOf (mach k n R T)).rows, r.length = k := by
      intro r hr'
      rw [a1] at hr'
      obtain ⟨p, hp, rfl⟩ := List.mem_map.mp hr'
      have hpl := reps_mem g l hp
      have hpn := (hl.ok (N := n) (by omega) fun s _ a ha => h.rlt a (List.mem_of_mem_drop (List.mem_of_mem_take ha))).lt p hpl
      rw [List.length_map, er]
      unfold rowA
      rw [List.length_take, List.length_drop, h.rl]
      have : k * (p + 1) ≤ k * n := Nat.mul_le_mul_left k hpn
      rw [Nat.mul_succ] at this
      omega
    have rl2 : ∀ r ∈ (mach k n R T).rows, r.length = k := by
      intro r hr'
      unfold mach at hr'
      obtain ⟨i, hi, rfl⟩ := List.mem_map.mp hr'
      have hin := List.mem_range.mp hi
      rw [List.length_take, List.length_drop, h.rl]
      have : k * (i + 1) ≤ k * n := Nat.mul_le_mul_left k hin
      rw [Nat.mul_succ] at this
      rw [Nat.mul_comm i k]
      omega
    have r1 := flatten_inj rl rl2 (by rw [hs]; exact e1) (by rw [e3, f1])
    have r2 := toNats_inj (a := (Sw38.leastOf (mach k n R T)).takes) (b := (mach k n R T).takes) (by rw [e4, f2])
    generalize Sw38.leastOf (mach k n R T) = M at r1 r2
    cases M
    simp only at r1 r2
    rw [r1, r2]
end Lm
set_option maxHeartbeats 1000000
namespace Lm
/-! ### where each pair came from -/
section
variable {α : Type}
structure Back (l : List (List Nat × α)) (E C : List Nat) : Prop where
  pos : 0 < l.length
  el : E.length = l.length
  cl : C.length = l.length
  zero : ∀ w a, l[0]? = some (w, a) → w = []
  back : ∀ i, 0 < i → i < l.length → ∃ e c w a b, E[i]? = some e ∧ C[i]? = some c ∧ e < i ∧ l[e]? = some (w, a) ∧ l[i]? = some (w ++ [c], b)
theorem Back.start (a : α) : Back [([], a)] [0] [0] := by
  refine ⟨by simp, rfl, rfl, fun w b h => ?_, fun i h1 h2 => ?_⟩
  · simp at h; exact h.1
  · simp at h2; omega
theorem Back.snoc {l : List (List Nat × α)} {E C : List Nat} (h : Back l E C) {d : Nat} {w : List Nat} {a : α} (hd : l[d]? = some (w, a)) (c : Nat) (b : α) : Back (l ++ [(w ++ [c], b)]) (E ++ [d]) (C ++ [c]) := by
  have hdl : d < l.length := (List.getElem?_eq_some_iff.mp hd).1
  have hE := h.el
  have hC := h.cl
  refine ⟨by rw [List.length_append]; have := h.pos; omega, by simp [hE], by simp [hC], fun w' a' e => ?_, fun i h1 h2 => ?_⟩
  · rw [List.getElem?_append_left h.pos] at e
    exact h.zero w' a' e
  · rw [List.length_append, List.length_singleton] at h2
    by_cases hi : i < l.length
    · obtain ⟨e, c', w', a', b', q1, q2, q3, q4, q5⟩ := h.back i h1 hi
      exact ⟨e, c', w', a', b', by rw [List.getElem?_append_left (by omega)]; exact q1, by rw [List.getElem?_append_left (by omega)]; exact q2, q3, by rw [List.getElem?_append_left (by omega)]; exact q4, by rw [List.getElem?_append_left hi]; exact q5⟩
    · have e : i = l.length := by omega
      subst e
      refine ⟨d, c, w, a, b, ?_, ?_, hdl, ?_, ?_⟩
      · rw [← hE, List.getElem?_concat_length]
      · rw [← hC, List.getElem?_concat_length]
      · rw [List.getElem?_append_left hdl]; exact hd
      · rw [List.getElem?_concat_length]
end
/-! ### pairs of states -/
def allPairs (n m : Nat) : List (Nat × Nat) := (List.range n).flatMap fun i => (List.range m).map fun j => (i, j)
theorem mem_allPairs {n m : Nat} {p : Nat × Nat} (h : p.1 < n ∧ p.2 < m) : p ∈ allPairs n m := by
  unfold allPairs
  rw [List.mem_flatMap]
  exact ⟨p.1, List.mem_range.mpr h.1, List.mem_map.mpr ⟨p.2, List.mem_range.mpr h.2, rfl⟩⟩
theorem len_allPairs (n m : Nat) : (allPairs n m).length = n * m := by
  unfold allPairs
  rw [List.length_flatMap]
  have : ((List.range n).map fun i => ((List.range m).map fun j => (i, j)).length) = (List.range n).map fun _ => m := List.map_congr_left fun i _ => by simp
  rw [this]
  clear this
  induction n with
  | zero => simp
  | succ n ih =>
    rw [List.range_succ, List.map_append, List.sum_append, Nat.succ_mul, ih]
    simp
theorem row_at {k n : Nat} {R T : List Nat} (h : IsMach k n R T) {s c : Nat} (hs : s < n) (hc : c < k) : (rowA k R s)[c]? = some ((mach k n R T).next s c) := by
  have hb : k * s + c < R.length := by
    rw [h.rl]
    have : k * (s + 1) ≤ k * n := Nat.mul_le_mul_left k hs
    rw [Nat.mul_succ] at this
    omega
  rw [row_get hc, mach_next h hc, List.getD_eq_getElem?_getD, List.getElem?_eq_getElem hb]
  rfl
theorem row_full {k n : Nat} {R T : List Nat} (h : IsMach k n R T) {s : Nat} (hs : s < n) : (rowA k R s).length = k := by
  unfold rowA
  rw [List.length_take, List.length_drop, h.rl]
  have : k * (s + 1) ≤ k * n := Nat.mul_le_mul_left k hs
  rw [Nat.mul_succ] at this
  omega
theorem take01 {k n : Nat} {R T : List Nat} (h : IsMach k n R T) (s : Nat) : T.getD s 0 = 0 ∨ T.getD s 0 = 1 := by
  rw [List.getD_eq_getElem?_getD]
  cases e : T[s]? with
  | none => exact .inl rfl
  | some t =>
    have := h.tlt t (List.mem_of_getElem? e)
    show t = 0 ∨ t = 1
    omega
theorem alike_iff {k n m : Nat} {R T R2 T2 : List Nat} (h1 : IsMach k n R T) (h2 : IsMach k m R2 T2) (p : Nat × Nat) : alike2 (mach k n R T) (mach k m R2 T2) p = decide (T.getD p.1 0 = T2.getD p.2 0) := by
  unfold alike2
  rw [mach_take h1, mach_take h2]
  rcases take01 h1 p.1 with e1 | e1 <;> rcases take01 h2 p.2 with e2 | e2 <;> rw [e1, e2] <;> rfl
/-- the pairs are few -/
theorem pairs_ok {k n m : Nat} {R T R2 T2 : List Nat} (h1 : IsMach k n R T) (h2 : IsMach k m R2 T2) {a0 : Nat × Nat} (ha : a0.1 < n ∧ a0.2 < m) {d : Nat} {l : List (List Nat × Nat × Nat)}
    (h : ReachW (next2 (mach k n R T) (mach k m R2 T2)) k a0 d l) : ReachWOk (next2 (mach k n R T) (mach k m R2 T2)) k a0 (fun p => p.1 < n ∧ p.2 < m) d l ∧ l.length ≤ n * m := by
  have ok := h.ok (P := fun p => p.1 < n ∧ p.2 < m) ha fun a c hp hc => ⟨next_lt h1 hp.1 hc, next_lt h2 hp.2 hc⟩
  refine ⟨ok, ?_⟩
  rw [← len_allPairs n m]
  exact ok.few fun a hp => mem_allPairs hp
end Lm
set_option maxRecDepth 100000
set_option maxHeartbeats 4000000
namespace Lp
open PySem L2 Lm
def top (i : Nat) : Stmt := PySem.Challenge.pw_leastone_s02_apart.main.body.getD i (.Pass ⟨0, 0, 0, 0⟩)
abbrev sApart : Stmt := top 6
abbrev sIs : Stmt := top 7
abbrev sRow : Stmt := top 8
abbrev sFirst : Stmt := top 9
abbrev sBack : Stmt := top 10
/-! ### data -/
abbrev vN (x : Nat) : V := .int (x : Int)
abbrev kN (x : Nat) : Key := Sum.inl (x : Int)
theorem kN_inj {a b : Nat} (h : kN a = kN b) : a = b := by have := Sum.inl.inj h; omega
theorem _root_.L2.Same.new {H : Hp} {p : Addr} (h : H p = none) (o : HO) : Same H (upd H p o) := fun b u q => by rw [upd_ne (ne_of_none q h)]; exact q
theorem _root_.L2.Same.put {H H' : Hp} {p : Addr} (g : Same H H') (h : H p = none) (o : HO) : Same H (upd H' p o) := fun b u q => by rw [upd_ne (ne_of_none q h)]; exact g b u q
theorem small {n : Nat} (h : n ≤ 1000) : n ≤ sizeLine := Nat.le_of_lt (small1000 h)
theorem big {n : Nat} (h : n ≤ 100000) : n ≤ sizeLine := Nat.le_trans h (by decide)
section
variable {α κ : Type} [DecidableEq α] [DecidableEq κ]
theorem valV_map_in {key : α → κ} (inj : ∀ a b, key a = key b → a = b) (val : α → V) {s : α} : ∀ {L : List α}, s ∈ L → valV (L.map fun s => (key s, val s)) (key s) = some (val s)
  | [], h => by cases h
  | a :: L, h => by
    rw [List.map_cons]
    by_cases e : a = s
    · subst e; exact valV_pos (p := (key a, val a)) rfl
    · rw [valV_neg (p := (key a, val a)) fun z => e (inj _ _ z)]
      exact valV_map_in inj val (by rcases List.mem_cons.mp h with h | h; exact absurd h.symm e; exact h)
theorem valV_map_out {key : α → κ} (inj : ∀ a b, key a = key b → a = b) (val : α → V) {s : α} : ∀ {L : List α}, s ∉ L → valV (L.map fun s => (key s, val s)) (key s) = none
  | [], _ => rfl
  | a :: L, h => by
    rw [List.map_cons, valV_neg (p := (key a, val a)) fun z => h (by rw [inj _ _ z]; exact List.mem_cons_self)]
    exact valV_map_out inj val fun q => h (List.mem_cons_of_mem _ q)
/-- the classes met, by their numbers -/
def nd (key : α → κ) (C : List α) : List (κ × V) := C.map fun c => (key c, vN (C.idxOf c))
theorem nd_snoc {key : α → κ} {C : List α} {c : α} (h : c ∉ C) : nd key (C ++ [c]) = nd key C ++ [(key c, vN C.length)] := by
  unfold nd
  rw [List.map_append, List.map_singleton]
  congr 1
  · refine List.map_congr_left fun x hx => ?_
    rw [List.idxOf_append, if_pos hx]
  · rw [List.idxOf_append, if_neg h]
    simp
theorem nd_len {key : α → κ} {C : List α} : (nd key C).length = C.length := List.length_map _
end
/-- the groups -/
def gd (L : List Nat) (g : Nat → Nat) : List (Key × V) := L.map fun s => (kN s, vN (g s))
theorem gd_val {L : List Nat} {g : Nat → Nat} {s : Nat} (h : s ∈ L) : valV (gd L g) (kN s) = some (vN (g s)) := valV_map_in (fun _ _ => kN_inj) _ h
theorem gd_no {L : List Nat} {g : Nat → Nat} {s : Nat} (h : s ∉ L) : valV (gd L g) (kN s) = none := valV_map_out (fun _ _ => kN_inj) _ h
theorem gd_len {L : List Nat} {g : Nat → Nat} : (gd L g).length = L.length := List.length_map _
theorem gd_put {L : List Nat} {g : Nat → Nat} {s : Nat} (h : s ∉ L) : putK (gd L g) (kN s) (vN (g s)) = gd (L ++ [s]) g := by
  rw [putK_new _ (gd_no h)]
  unfold gd
  rw [List.map_append]; rfl
theorem DGet.gd {H : Hp} {p : Addr} {L : List Nat} {g : Nat → Nat} {s : Nat} (e : H p = some (.dK (gd L g))) (h : s ∈ L) : DGet H p (vN s) (some (vN (g s))) := by
  rw [← gd_val (g := g) h]
  exact DGet.k (k := kN s) e
/-- where a list is cut at a place -/
theorem cut_at {L : List Nat} {i s : Nat} (h : L[i]? = some s) : L = L.take i ++ s :: L.drop (i + 1) ∧ L.take (i + 1) = L.take i ++ [s] := by
  have hi : i < L.length := (List.getElem?_eq_some_iff.mp h).1
  constructor
  · have a := List.take_append_drop i L
    rw [List.drop_eq_getElem_cons hi, (List.getElem?_eq_some_iff.mp h).2] at a
    exact a.symm
  · rw [List.take_succ, h]; rfl
theorem not_before {L : List Nat} (hN : L.Nodup) {i s : Nat} (h : L[i]? = some s) : s ∉ L.take i := by
  intro q
  rw [(cut_at h).1] at hN
  have := (List.nodup_append.mp hN).2.2 s q s List.mem_cons_self
  exact this rfl
theorem of_map_get {L : List Nat} {i : Nat} {x : V} (h : (L.map vN)[i]? = some x) : ∃ s, L[i]? = some s ∧ x = vN s := by
  rw [List.getElem?_map] at h
  obtain ⟨s, hs, e⟩ := Option.map_eq_some_iff.mp h
  exact ⟨s, hs, e.symm⟩
theorem of_map_int {L : List Int} {i : Nat} {x : V} (h : (L.map V.int)[i]? = some x) : ∃ s, L[i]? = some s ∧ x = .int s := by
  rw [List.getElem?_map] at h
  obtain ⟨s, hs, e⟩ := Option.map_eq_some_iff.mp h
  exact ⟨s, hs, e.symm⟩
/-- one turn of the numbering -/
theorem num_in {α κ : Type} [DecidableEq α] [DecidableEq κ] {key : α → κ} (inj : ∀ a b, key a = key b → a = b) {m : Nat → α} {L : List Nat} {i s : Nat} (h : L[i]? = some s) (hi : m s ∈ dd ((L.take i).map m)) :
    valV (nd key (dd ((L.take i).map m))) (key (m s)) = some (vN (num m L s)) ∧ dd ((L.take (i + 1)).map m) = dd ((L.take i).map m) := by
  obtain ⟨e1, e2⟩ := cut_at h
  constructor
  · unfold nd
    rw [valV_map_in inj (fun c => vN ((dd ((L.take i).map m)).idxOf c)) hi]
    conv => rhs; rw [e1]
    rw [num_at, if_pos hi]
  · rw [e2, List.map_append, List.map_singleton, dd, ext_snoc, push_in hi]
theorem num_out {α κ : Type} [DecidableEq α] [DecidableEq κ] {key : α → κ} (inj : ∀ a b, key a = key b → a = b) {m : Nat → α} {L : List Nat} {i s : Nat} (h : L[i]? = some s) (hi : m s ∉ dd ((L.take i).map m)) :
    valV (nd key (dd ((L.take i).map m))) (key (m s)) = none ∧ nd key (dd ((L.take (i + 1)).map m)) = nd key (dd ((L.take i).map m)) ++ [(key (m s), vN (num m L s))] ∧ num m L s = (dd ((L.take i).map m)).length := by
  obtain ⟨e1, e2⟩ := cut_at h
  have en : num m L s = (dd ((L.take i).map m)).length := by
    conv => lhs; rw [e1]
    rw [num_at, if_neg hi]
  refine ⟨valV_map_out inj _ hi, ?_, en⟩
  rw [e2, List.map_append, List.map_singleton, dd, ext_snoc, push_out hi, nd_snoc hi, en]
/-! ### row_of -/
theorem cut_row {k s : Nat} {R : List Nat} (h : k * s + k ≤ R.length) : cutV (R.map vN) (some ((k : Int) * (s : Int))) (some ((k : Int) * (s : Int) + (k : Int))) = (rowA k R s).map vN := by
  have e1 : (k : Int) * (s : Int) = ((k * s : Nat) : Int) := by simp
  have e2 : ((k * s : Nat) : Int) + (k : Int) = ((k * s + k : Nat) : Int) := by simp
  unfold cutV rowA
  rw [e1, e2, HT.sIx_nat, HT.sIx_nat, List.length_map, Nat.min_eq_left h, Nat.min_eq_left (show k * s ≤ R.length by omega), Nat.add_sub_cancel_left, List.map_take, List.map_drop]
def spRow (K : PySem.W.Frag) : Sp := fun vs H Q _ => ∃ (a : Addr) (R : List Nat) (k s : Nat), vs = [.int k, .ref a, .int s] ∧ SqL K H a (R.map vN) ∧ k ≤ 16 ∧ k * s + k ≤ R.length ∧ ∀ p, H p = none → Q (.ref p) (upd H p (.lst ((rowA k R s).map vN)))
section
variable {P : Program} {w : World} {K : PySem.W.Frag} {mg : Str → Option Value} {base : Heap}
theorem scRow : FnScope ["k", "rows", "state"] ["k", "rows", "state"] (defScope sRow) := ⟨rfl, rfl, rfl, by decide +kernel, rfl, by decide +kernel, by decide +kernel⟩
theorem ok_row {f : Addr} {fd : FuncData} (F : Fun K "row_of" "row_of" sRow f fd) : FnOk P w K mg base CX0 1 f fd ["k", "rows", "state"] (spRow K) := by
  refine F.ok scRow (fun vs H Q E h => ?_) (fun cdv A outer s H vs Q E hr h => ?_)
  · obtain ⟨a, R, k, t, rfl, _⟩ := h
    rfl
  obtain ⟨a, R, k, t, rfl, hS, hk, hl, q⟩ := h
  refine ⟨_, pss_one (ps_ret (pe_slice sl_list (pv 1) (po_some (pe_op op_mul (pv 0) (pv 2))) (po_some (pe_op op_add (pe_op op_mul (pv 0) (pv 2)) (pv 0))))), ?_⟩
  have b1 : (-(2 ^ 64) < (k : Int)) ∧ (k : Int) < 2 ^ 64 := by constructor <;> omega
  refine ⟨_, rfl, _, rfl, _, rfl, _, _, rfl, rfl, .inl b1, _, rfl, _, rfl, _, rfl, _, _, rfl, rfl, .inl b1, _, rfl, _, _, rfl, rfl, _, rfl, a, _, rfl, hS, fun p hp => ?_⟩
  rw [cut_row hl]
  exact q p hp
/-! ### is_machine -/
def spIs (K : PySem.W.Frag) : Sp := fun vs H Q _ => ∃ (a b : Addr) (n : Int) (ns ts : List Int), vs = [.int n, .ref a, .ref b] ∧ SqL K H a (ns.map V.int) ∧ SqL K H b (ts.map V.int) ∧ ∀ H', Same H H' → Q (.bl (okM n ns ts)) H'
theorem scIs : FnScope ["n", "rows", "takes", "state", "taken"] ["n", "rows", "takes"] (defScope sIs) := ⟨rfl, rfl, rfl, by decide +kernel, rfl, by decide +kernel, by decide +kernel⟩
theorem all_take {p : Int → Bool} {l : List Int} {i : Nat} {z : Int} (h : l[i]? = some z) (hp : (l.take i).all p = true) (hz : p z = true) : (l.take (i + 1)).all p = true := by
  rw [List.take_succ, h, List.all_append, hp]
  simpa using hz
theorem all_bad {p : Int → Bool} {l : List Int} {i : Nat} {z : Int} (h : l[i]? = some z) (hz : p z = false) : l.all p = false := by
  rw [Bool.eq_false_iff]
  intro q
  have := List.all_eq_true.mp q z (List.mem_of_getElem? h)
  rw [hz] at this
  cases this
theorem ok_is {f : Addr} {fd : FuncData} (F : Fun K "is_machine" "is_machine" sIs f fd) : FnOk P w K mg base CX0 1 f fd ["n", "rows", "takes"] (spIs K) := by
  refine F.ok scIs (fun vs H Q E h => ?_) (fun cdv A outer s H vs Q E hr h => ?_)
  · obtain ⟨a, b, n, ns, ts, rfl, _⟩ := h
    rfl
  obtain ⟨a, b, n, ns, ts, rfl, hS, hT, q⟩ := h
  refine ⟨_, pss_cons (ps_for PassesOwn.never rfl (pi_list (pv 1)) (pg_name (i := 3) scIs.nd rfl (Or.inl rfl))
      (pss_one (ps_if (pt_not (pt_chain op_le op_lt pe_int (pv 3) (pv 0))) (pss_one (ps_ret pe_bl)) pss_nil)))
    (pss_cons (ps_for PassesOwn.never rfl (pi_list (pv 2)) (pg_name (i := 4) scIs.nd rfl (Or.inl rfl))
      (pss_one (ps_if (pt_cmpR op_notIn_seq (pv 4) (pe_tup (pa_cons pe_int (pa_cons pe_int pa_nil))) (by with_unfolding_all rfl)) (pss_one (ps_ret pe_bl)) pss_nil)))
    (pss_one (ps_ret pe_bl))), ?_⟩
  refine ⟨_, rfl, a, rfl, ⟨_, hS⟩, for_list (xs := ns.map V.int) (fun i σ H' => (∃ x, σ = [some (.int n), some (.ref a), some (.ref b), x, none]) ∧ H' = H ∧ (ns.take i).all (okS n) = true) ⟨⟨_, rfl⟩, rfl, rfl⟩ (fun i σ H' _ p => by rw [p.2.1]; exact hS) ?_ ?_⟩
  · rintro i x σ H' hx ⟨⟨y, rfl⟩, rfl, hp⟩
    obtain ⟨z, hz, rfl⟩ := of_map_int hx
    have bad : okS n z = false → Q (.bl false) H' := fun e => by
      have := q H' (Same.refl _)
      unfold okM at this
      rw [all_bad hz e, Bool.false_and] at this
      exact this
    refine ⟨_, rfl, _, _, rfl, rfl, _, rfl, ?_⟩
    refine ite2 (fun c => ?_) (fun c => ?_)
    · have c' : 0 ≤ z := of_decide_eq_true c
      refine ⟨_, rfl, _, _, rfl, rfl, _, rfl, ?_⟩
      refine ite2 (fun d => ?_) (fun d => ?_)
      · refine bad ?_
        have d' : decide (z < n) = false := by simpa using d
        unfold okS
        rw [d', Bool.and_false]
      · have d' : decide (z < n) = true := by simpa using d
        refine ⟨⟨_, rfl⟩, rfl, all_take hz hp ?_⟩
        unfold okS
        rw [d', decide_eq_true c']; rfl
    · refine ⟨_, rfl, ?_⟩
      refine iteT ?_
      refine bad ?_
      have c' : decide (0 ≤ z) = false := by simpa using c
      unfold okS
      rw [c', Bool.false_and]
  · rintro σ H' ⟨⟨y, rfl⟩, rfl, hp⟩
    rw [List.length_map, List.take_length] at hp
    refine ⟨_, rfl, b, rfl, ⟨_, hT⟩, for_list (xs := ts.map V.int) (fun i σ H2 => (∃ x, σ = [some (.int n), some (.ref a), some (.ref b), y, x]) ∧ Same H' H2 ∧ (ts.take i).all okT = true) ⟨⟨_, rfl⟩, Same.refl _, rfl⟩ (fun i σ H2 _ p => p.2.1.seq hT) ?_ ?_⟩
    · rintro i x σ H2 hx ⟨⟨y2, rfl⟩, g, hp2⟩
      obtain ⟨z, hz, rfl⟩ := of_map_int hx
      refine ⟨_, rfl, (by show 2 ≤ sizeLine; decide), fun p hp3 => ?_⟩
      have g' : Same H' (upd H2 p (.tup [.int 0, .int 1])) := g.trans (Same.new hp3 _)
      refine ⟨p, _, rfl, .inr (SqT.of upd_same), rfl, rfl, _, rfl, ?_⟩
      have ev : inV (V.int z) [.int 0, .int 1] = okT z := by
        unfold inV okT
        simp only [List.any_cons, List.any_nil, Bool.or_false, eqV]
        have e0 : ((0 : Int) == z) = decide (z = 0) := by rw [Bool.eq_iff_iff, beq_iff_eq, decide_eq_true_eq]; exact eq_comm
        have e1 : ((1 : Int) == z) = decide (z = 1) := by rw [Bool.eq_iff_iff, beq_iff_eq, decide_eq_true_eq]; exact eq_comm
        rw [e0, e1]
      refine ite2 (fun c => ?_) (fun c => ?_)
      · have c' : (!inV (V.int z) [.int 0, .int 1]) = true := c
        rw [ev] at c'
        have := q _ g'
        unfold okM at this
        rw [all_bad hz (by simpa using c'), Bool.and_false] at this
        exact this
      · have c' : ¬ (!inV (V.int z) [.int 0, .int 1]) = true := c
        rw [ev] at c'
        exact ⟨⟨_, rfl⟩, g', all_take hz hp2 (by simpa using c')⟩
    · rintro σ H2 ⟨⟨y2, rfl⟩, g, hp2⟩
      rw [List.length_map, List.take_length] at hp2
      have := q H2 g
      unfold okM at this
      rw [hp, hp2] at this
      exact this
end
end Lp
set_option maxRecDepth 100000
set_option maxHeartbeats 4000000
namespace Lp
open PySem L2 Lm
theorem getD_at {T : List Nat} {s : Nat} (h : s < T.length) : atI (T.map vN) (s : Int) = some (vN (T.getD s 0)) := by
  refine atI_nat ?_
  rw [List.getElem?_map, List.getD_eq_getElem?_getD, List.getElem?_eq_getElem h]
  rfl
theorem at_vN {T : List Nat} {s t : Nat} (h : T[s]? = some t) : atI (T.map vN) (s : Int) = some (vN t) := by
  refine atI_nat ?_
  rw [List.getElem?_map, h]; rfl
theorem at_ref {bs : List Addr} {s : Nat} {b : Addr} (h : bs[s]? = some b) : atI (bs.map V.ref) (s : Int) = some (.ref b) := by
  refine atI_nat ?_
  rw [List.getElem?_map, h]; rfl
/-! ### pairs that stand in the heap -/
def PairsAt (H : Hp) (L : List (Nat × Nat)) (bs : List Addr) : Prop := bs.length = L.length ∧ ∀ (i : Nat) (p : Nat × Nat), L[i]? = some p → ∃ b, bs[i]? = some b ∧ H b = some (.tup [vN p.1, vN p.2])
theorem PairsAt.same {H H' : Hp} {L : List (Nat × Nat)} {bs : List Addr} (h : PairsAt H L bs) (g : Same H H') : PairsAt H' L bs :=
  ⟨h.1, fun i p e => let ⟨b, e1, e2⟩ := h.2 i p e; ⟨b, e1, g _ _ e2⟩⟩
theorem PairsAt.upd {H : Hp} {L : List (Nat × Nat)} {bs : List Addr} (h : PairsAt H L bs) {x : Addr} {u o : HO} (hx : H x = some u) (hu : ∀ xs, HO.tup xs ≠ u) : PairsAt (upd H x o) L bs :=
  ⟨h.1, fun i p e => let ⟨b, e1, e2⟩ := h.2 i p e; ⟨b, e1, by rw [upd_ne (ne_of e2 hx (hu _))]; exact e2⟩⟩
theorem PairsAt.snoc {H : Hp} {L : List (Nat × Nat)} {bs : List Addr} (h : PairsAt H L bs) {b : Addr} {p : Nat × Nat} (e : H b = some (.tup [vN p.1, vN p.2])) : PairsAt H (L ++ [p]) (bs ++ [b]) := by
  refine ⟨by simp [h.1], fun i q hq => ?_⟩
  by_cases hi : i < L.length
  · rw [List.getElem?_append_left hi] at hq
    obtain ⟨c, e1, e2⟩ := h.2 i q hq
    exact ⟨c, by rw [List.getElem?_append_left (by rw [h.1]; exact hi)]; exact e1, e2⟩
  · have hl := (List.getElem?_eq_some_iff.mp hq).1
    rw [List.length_append, List.length_singleton] at hl
    have ei : i = L.length := by omega
    subst ei
    rw [List.getElem?_concat_length] at hq
    cases hq
    exact ⟨b, by rw [← h.1, List.getElem?_concat_length], e⟩
def keyP (p : Nat × Nat) : List Key := [kN p.1, kN p.2]
theorem keyP_inj : ∀ a b : Nat × Nat, keyP a = keyP b → a = b := fun a b h => by
  unfold keyP at h
  injection h with h1 h2
  injection h2 with h2 _
  exact Prod.ext (kN_inj h1) (kN_inj h2)
def seenT (l : List (Nat × Nat)) : List (List Key × V) := l.map fun p => (keyP p, V.bl true)
theorem seenT_put {l : List (Nat × Nat)} {p : Nat × Nat} (h : p ∉ l) : putK (seenT l) (keyP p) (.bl true) = seenT (l ++ [p]) := by
  rw [putK_new _ (show valV (seenT l) (keyP p) = none from valV_map_out keyP_inj _ h)]
  unfold seenT
  rw [List.map_append]; rfl
theorem seenT_get {l : List (Nat × Nat)} {p : Nat × Nat} : (valV (seenT l) (keyP p)).isSome = decide (p ∈ l) := by
  by_cases h : p ∈ l
  · rw [show valV (seenT l) (keyP p) = some (.bl true) from valV_map_in keyP_inj _ h, decide_eq_true h]; rfl
  · rw [show valV (seenT l) (keyP p) = none from valV_map_out keyP_inj _ h, decide_eq_false h]; rfl
section
variable {P : Program} {w : World} {K : PySem.W.Frag} {mg : Str → Option Value} {base : Heap}
/-! ### word_back -/
def spBack (K : PySem.W.Frag) : Sp := fun vs H Q _ => ∃ (e c : Addr) (d : Nat) (l : List (List Nat × Nat × Nat)) (E C : List Nat) (wd : List Nat) (p : Nat × Nat), vs = [.int d, .ref e, .ref c] ∧ SqL K H e (E.map vN) ∧ SqL K H c (C.map vN) ∧ Back l E C ∧ l[d]? = some (wd, p) ∧ l.length ≤ 5000 ∧
  ∀ q H', H q = none → Same H H' → H' q = some (.lst (wd.map vN)) → Q (.ref q) H'
theorem scBack : FnScope ["place", "earlier", "letters", "word", "here"] ["place", "earlier", "letters"] (defScope sBack) := ⟨rfl, rfl, rfl, by decide +kernel, rfl, by decide +kernel, by decide +kernel⟩
theorem ok_back {f : Addr} {fd : FuncData} (F : Fun K "word_back" "word_back" sBack f fd) : FnOk P w K mg base CX0 1 f fd ["place", "earlier", "letters"] (spBack K) := by
  refine F.ok scBack (fun vs H Q E h => ?_) (fun cdv A outer s H vs Q E hr h => ?_)
  · obtain ⟨e, c, d, l, E, C, wd, p, rfl, _⟩ := h
    rfl
  obtain ⟨e, c, d, l, E, C, wd, p, rfl, hE, hC, hB, hd, hl, q⟩ := h
  have hdl : d < l.length := (List.getElem?_eq_some_iff.mp hd).1
  refine ⟨_, pss_cons (ps_set (i := 3) scBack.nd rfl (Or.inl rfl) (pe_lst pa_nil))
    (pss_cons (ps_set (i := 4) scBack.nd rfl (Or.inl rfl) (pv 0))
    (pss_cons (ps_while PassesOwn.never (pt_cmpR op_gt (pv 4) pe_int (nomark _))
      (pss_cons (ps_expr (pe_bm PySem.F.plainAttrs_list PySem.F.slot_list_append PySem.F.type_list_append mt_append (pv 3) (pa_cons (pe_ix ix_list (pv 2) (pv 4) (fun _ _ => rfl)) pa_nil)))
      (pss_one (ps_set (i := 4) scBack.nd rfl (Or.inl rfl) (pe_ix ix_list (pv 1) (pv 4) (fun _ _ => rfl))))))
    (pss_cons (ps_expr (pe_bm0 PySem.F.plainAttrs_list PySem.F.slot_list_reverse PySem.F.type_list_reverse mt_reverse (pv 3)))
    (pss_one (ps_ret (pv 3)))))), ?_⟩
  refine ⟨(by show 0 ≤ sizeLine; decide), fun pw hpw => ?_⟩
  refine ⟨_, rfl, ?_⟩
  have g0 : Same H (upd H pw (.lst [])) := Same.new hpw _
  refine ⟨fun m σ H' => ∃ (h : Nat) (u v : List Nat) (b : Nat × Nat), σ = [some (.int d), some (.ref e), some (.ref c), some (.ref pw), some (.int h)] ∧ h = m ∧ H' pw = some (.lst (v.map vN)) ∧ Same H H' ∧ l[h]? = some (u, b) ∧ wd = u ++ v.reverse ∧ v.length + h ≤ d,
    ⟨d, d, wd, [], p, rfl, rfl, upd_same, g0, hd, by simp, by simp⟩, ?_⟩
  rintro m σ H' ⟨h, u, v, b, rfl, rfl, h1, g, hh, ew, hv⟩
  refine ⟨_, rfl, _, _, rfl, rfl, _, rfl, ?_⟩
  refine ite2 (fun c1 => ?_) (fun c1 => ?_)
  · have c' : (0 : Int) < (h : Int) := of_decide_eq_true c1
    have hhl : h < l.length := (List.getElem?_eq_some_iff.mp hh).1
    obtain ⟨e', c2, w', a', b', q1, q2, q3, q4, q5⟩ := hB.back h (by omega) hhl
    rw [hh] at q5
    cases q5
    refine ⟨fun σ' H2 => σ' = [some (.int d), some (.ref e), some (.ref c), some (.ref pw), some (.int e')] ∧ H2 pw = some (.lst ((v ++ [c2]).map vN)) ∧ Same H H2, ?_, ?_⟩
    · rintro σ' H2 ⟨rfl, e1, e2⟩
      exact ⟨e', q3, e', w', v ++ [c2], a', rfl, rfl, e1, e2, q4, by rw [ew]; simp, by rw [List.length_append, List.length_singleton]; omega⟩
    refine ⟨_, rfl, .inl ⟨rfl, _, SqL.of h1⟩, _, rfl, _, rfl, c, _, _, _, rfl, rfl, g.seq hC, at_vN q2, pw, _, _, rfl, rfl, h1, ?_, ?_⟩
    · rw [List.length_map]; exact Nat.lt_of_lt_of_le (show v.length < 5001 by omega) (by decide)
    have g2 : Same H (upd H' pw (.lst (v.map vN ++ [vN c2]))) := g.put hpw _
    refine ⟨_, rfl, _, rfl, e, _, _, _, rfl, rfl, g2.seq hE, at_vN q1, rfl, ?_, g2⟩
    rw [upd_same, List.map_append]; rfl
  · have c' : ¬ (0 : Int) < (h : Int) := of_decide_eq_false (Bool.eq_false_iff.mpr c1)
    have h0 : h = 0 := by omega
    subst h0
    have eu := hB.zero u b hh
    subst eu
    rw [List.nil_append] at ew
    refine ⟨_, rfl, .inl ⟨rfl, _, SqL.of h1⟩, pw, _, rfl, rfl, h1, _, rfl, q pw _ hpw (g.put hpw _) ?_⟩
    rw [upd_same, ew, List.map_reverse]
end
end Lp
set_option maxRecDepth 100000
set_option maxHeartbeats 4000000
namespace Lp
open PySem L2 Lm
theorem at_p0 {u v : V} : atI [u, v] (0 : Int) = some u := atI_nat (j := 0) (v := u) rfl
theorem at_p1 {u v : V} : atI [u, v] (1 : Int) = some v := atI_nat (j := 1) (v := v) rfl
theorem mach_at {k n : Nat} {R T : List Nat} (h : IsMach k n R T) {s : Nat} (hs : s < n) : k * s + k ≤ R.length := by
  rw [h.rl, ← Nat.mul_succ]
  exact Nat.mul_le_mul_left k hs
section
variable {P : Program} {w : World} {K : PySem.W.Frag} {mg : Str → Option Value} {base : Heap}
/-! ### first_word_apart -/
abbrev due (k n m : Nat) (R T R2 T2 : List Nat) (F : Nat) (a0 : Nat × Nat) : Option (List Nat) := Sw38.apartFrom k (mach k n R T) (mach k m R2 T2) F [a0] [([], a0)]
structure Two (k n m : Nat) (R T R2 T2 : List Nat) : Prop where
  k16 : k ≤ 16
  n1 : 1 ≤ n
  n64 : n ≤ 64
  m1 : 1 ≤ m
  m64 : m ≤ 64
  one : IsMach k n R T
  two : IsMach k m R2 T2
theorem Two.few {k n m : Nat} {R T R2 T2 : List Nat} (h : Two k n m R T R2 T2) : n * m ≤ 4096 := Nat.le_trans (Nat.mul_le_mul h.n64 h.m64) (by decide)
def spFirst (K : PySem.W.Frag) : Sp := fun vs H Q _ => ∃ (a b a2 b2 t : Addr) (k n m i0 j0 : Nat) (R T R2 T2 : List Nat), vs = [.int k, .ref a, .ref b, .ref a2, .ref b2, .ref t] ∧ Two k n m R T R2 T2 ∧
  SqL K H a (R.map vN) ∧ SqL K H b (T.map vN) ∧ SqL K H a2 (R2.map vN) ∧ SqL K H b2 (T2.map vN) ∧ H t = some (.tup [vN i0, vN j0]) ∧ i0 < n ∧ j0 < m ∧
  (∀ p H' wd, Same H H' → H' p = some (.lst (wd.map vN)) → wd.length < n * m → (∀ F, n * m ≤ F → due k n m R T R2 T2 F (i0, j0) = some wd) → Q (.ref p) H') ∧
  ∀ H' l, Same H H' → ReachW (next2 (mach k n R T) (mach k m R2 T2)) k (i0, j0) l.length l → (∀ i, i < l.length → ∀ w p, l[i]? = some (w, p) → alike2 (mach k n R T) (mach k m R2 T2) p = true) → Q .non H'
theorem scFirst : FnScope ["k", "rows", "takes", "rows2", "takes2", "start", "pairs", "seen", "earlier", "letters", "done", "pair", "ahead", "letter"] ["k", "rows", "takes", "rows2", "takes2", "start"] (defScope sFirst) := ⟨rfl, rfl, rfl, by decide +kernel, rfl, by decide +kernel, by decide +kernel⟩
/-- what stands in the heap while the pairs are gone through -/
structure HS (H H' : Hp) (po ps pE pC : Addr) (l : List (List Nat × Nat × Nat)) (E C : List Nat) (bs : List Addr) : Prop where
  p1 : H' po = some (.lst (bs.map V.ref))
  p2 : H' ps = some (.dT (seenT (l.map (·.2))))
  p3 : H' pE = some (.lst (E.map vN))
  p4 : H' pC = some (.lst (C.map vN))
  same : Same H H'
  prs : PairsAt H' (l.map (·.2)) bs
  bk : Back l E C
theorem HS.keep {H H' H2 : Hp} {po ps pE pC : Addr} {l : List (List Nat × Nat × Nat)} {E C : List Nat} {bs : List Addr} (h : HS H H' po ps pE pC l E C bs) (g : Same H' H2) : HS H H2 po ps pE pC l E C bs :=
  ⟨g _ _ h.p1, g _ _ h.p2, g _ _ h.p3, g _ _ h.p4, h.same.trans g, h.prs.same g, h.bk⟩
theorem le5001 {n : Nat} (h : n ≤ 5000) : n < sizeLine := Nat.lt_of_le_of_lt h (by decide)
theorem ok_first {f fR fB : Addr} {fd fdR fdB : FuncData} (F : Fun K "first_word_apart" "first_word_apart" sFirst f fd)
    (GR : FnOk P w K mg base CX0 1 fR fdR ["k", "rows", "state"] (spRow K)) (bR : Binds K fdR ["k", "rows", "state"] []) (kR : PySem.W.keepIn K (.ref fR) = true) (mR : mg "row_of" = some (.ref fR))
    (GB : FnOk P w K mg base CX0 1 fB fdB ["place", "earlier", "letters"] (spBack K)) (bB : Binds K fdB ["place", "earlier", "letters"] []) (kB : PySem.W.keepIn K (.ref fB) = true) (mB : mg "word_back" = some (.ref fB))
    (ml : mg "len" = none) (mz : mg "zip" = none) (mi : mg "list" = none) (mr : mg "range" = none) :
    FnOk P w K mg base CX0 2 f fd ["k", "rows", "takes", "rows2", "takes2", "start"] (spFirst K) := by
  refine F.ok scFirst (fun vs H Q E h => ?_) (fun cdv A outer s H vs Q E hr h => ?_)
  · obtain ⟨a, b, a2, b2, t0, k, n, m, i0, j0, R, T, R2, T2, rfl, _⟩ := h
    rfl
  obtain ⟨a, b, a2, b2, t0, k, n, m, i0, j0, R, T, R2, T2, rfl, h2m, hA, hB, hA2, hB2, ht0, hi0, hj0, qs, qn⟩ := h
  have hu := hu_of hr
  refine ⟨_, pss_cons (ps_set (i := 6) scFirst.nd rfl (Or.inl rfl) (pe_lst (pa_cons (pv 5) pa_nil)))
    (pss_cons (ps_set (i := 7) scFirst.nd rfl (Or.inl rfl) (pe_dispT hu (pv 5) pe_bl))
    (pss_cons (ps_set (i := 8) scFirst.nd rfl (Or.inl rfl) (pe_lst (pa_cons pe_int pa_nil)))
    (pss_cons (ps_set (i := 9) scFirst.nd rfl (Or.inl rfl) (pe_lst (pa_cons pe_int pa_nil)))
    (pss_cons (ps_set (i := 10) scFirst.nd rfl (Or.inl rfl) pe_int)
    (pss_cons (ps_while PassesOwn.never (pt_cmpR op_lt (pv 10) (pe_callB call_len_seq (by rfl) ml PySem.boot_len (pa_cons (pv 6) pa_nil)) (nomark _))
      (pss_cons (ps_set (i := 11) scFirst.nd rfl (Or.inl rfl) (pe_ix ix_list (pv 6) (pv 10) (fun _ _ => rfl)))
      (pss_cons (ps_if (pt_cmpR op_ne (pe_ix ix_list (pv 2) (pe_ix ix_tup (pv 11) pe_int (fun _ _ => rfl)) (fun _ _ => rfl)) (pe_ix ix_list (pv 4) (pe_ix ix_tup (pv 11) pe_int (fun _ _ => rfl)) (fun _ _ => rfl)) (nomark _))
        (pss_one (ps_ret (pe_call GB hr rfl mB kB bB .nil pass0 (pa_cons (pv 10) (pa_cons (pv 8) (pa_cons (pv 9) pa_nil)))))) pss_nil)
      (pss_cons (ps_set (i := 12) scFirst.nd rfl (Or.inl rfl) (pe_listzip rfl (by rfl) mz (by rfl) mi
          (pa_cons (pe_call GR hr rfl mR kR bR .nil pass0 (pa_cons (pv 0) (pa_cons (pv 1) (pa_cons (pe_ix ix_tup (pv 11) pe_int (fun _ _ => rfl)) pa_nil))))
          (pa_cons (pe_call GR hr rfl mR kR bR .nil pass0 (pa_cons (pv 0) (pa_cons (pv 3) (pa_cons (pe_ix ix_tup (pv 11) pe_int (fun _ _ => rfl)) pa_nil)))) pa_nil))))
      (pss_cons (ps_for PassesOwn.never rfl (pi_range1 (by rfl) mr (pa_cons (pv 0) pa_nil)) (pg_name (i := 13) scFirst.nd rfl (Or.inl rfl))
        (pss_one (ps_if (pt_cmp (pc_dnotin hu (pe_ix ix_list (pv 12) (pv 13) (fun _ _ => rfl)) (pv 7)))
          (pss_cons (ps_dput hu (pv 7) (pe_ix ix_list (pv 12) (pv 13) (fun _ _ => rfl)) pe_bl rfl)
          (pss_cons (ps_expr (pe_bm PySem.F.plainAttrs_list PySem.F.slot_list_append PySem.F.type_list_append mt_append (pv 6) (pa_cons (pe_ix ix_list (pv 12) (pv 13) (fun _ _ => rfl)) pa_nil)))
          (pss_cons (ps_expr (pe_bm PySem.F.plainAttrs_list PySem.F.slot_list_append PySem.F.type_list_append mt_append (pv 8) (pa_cons (pv 10) pa_nil)))
          (pss_one (ps_expr (pe_bm PySem.F.plainAttrs_list PySem.F.slot_list_append PySem.F.type_list_append mt_append (pv 9) (pa_cons (pv 13) pa_nil)))))))
          pss_nil)))
      (pss_one (ps_set (i := 10) scFirst.nd rfl (Or.inl rfl) (pe_op op_add (pv 10) pe_int))))))))
    (pss_one (ps_ret pe_non))))))), ?_⟩
  -- pairs = [start]
  refine ⟨_, rfl, (by show 1 ≤ sizeLine; decide), fun po hpo => ?_⟩
  have npo : t0 ≠ po := ne_of_none ht0 hpo
  have hpo' := hpo
  generalize hH1 : upd H po (.lst [V.ref t0]) = H1
  have g1 : Same H H1 := by rw [← hH1]; exact Same.new hpo _
  have e1t : H1 t0 = some (.tup [vN i0, vN j0]) := g1 _ _ ht0
  have e1p : H1 po = some (.lst [V.ref t0]) := by rw [← hH1, upd_same]
  -- seen = {start: True}
  intro ps hps
  refine ⟨_, rfl, t0, keyP (i0, j0), rfl, ?_, upd_same, ?_⟩
  · rw [upd_ne (ne_of_none e1t hps)]; exact e1t
  have hps' : H ps = none := g1.free hps
  generalize hH2 : upd (upd H1 ps (.dT [])) ps (.dT [(keyP (i0, j0), .bl true)]) = H2
  have g12 : Same H1 H2 := by rw [← hH2]; exact (Same.new hps _).put hps _
  have e2s : H2 ps = some (.dT (seenT [(i0, j0)])) := by rw [← hH2, upd_same]; rfl
  -- earlier = [0], letters = [0]
  refine ⟨(by show 1 ≤ sizeLine; decide), fun pE hpE => ⟨(by show 1 ≤ sizeLine; decide), fun pC hpC => ?_⟩⟩
  have nEC : pE ≠ pC := fun e => by subst e; rw [upd_same] at hpC; cases hpC
  have hpC2 : H2 pC = none := by rw [upd_ne nEC.symm] at hpC; exact hpC
  generalize hH4 : upd (upd H2 pE (.lst [V.int 0])) pC (.lst [V.int 0]) = H4
  have g24 : Same H2 H4 := by rw [← hH4]; exact (Same.new hpE _).put hpC2 _
  have g14 := g12.trans g24
  have hpE' : H pE = none := (g1.trans g12).free hpE
  have hpC' : H pC = none := (g1.trans g12).free hpC2
  have npE : po ≠ pE := ne_of_none (g12 _ _ e1p) hpE
  have npC : po ≠ pC := ne_of_none (g12 _ _ e1p) hpC2
  have nsE : ps ≠ pE := ne_of_none e2s hpE
  have nsC : ps ≠ pC := ne_of_none e2s hpC2
  have nps : po ≠ ps := ne_of_none e1p hps
  have start : HS H H4 po ps pE pC [([], i0, j0)] [0] [0] [t0] := by
    refine ⟨g14 _ _ e1p, g24 _ _ e2s, ?_, ?_, g1.trans g14, ⟨rfl, fun i p e => ?_⟩, Back.start _⟩
    · rw [← hH4, upd_ne nEC, upd_same]; rfl
    · rw [← hH4, upd_same]; rfl
    · have hi := (List.getElem?_eq_some_iff.mp e).1
      have hi' : i < 1 := hi
      have h0 : i = 0 := by omega
      subst h0
      have e' : ((i0, j0) : Nat × Nat) = p := Option.some.inj e
      subst e'
      exact ⟨t0, rfl, g14 _ _ e1t⟩
  refine ⟨fun mm σ H' => ∃ (d : Nat) (l : List (List Nat × Nat × Nat)) (E C : List Nat) (bs : List Addr) (x y z : Option V), σ = [some (.int k), some (.ref a), some (.ref b), some (.ref a2), some (.ref b2), some (.ref t0), some (.ref po), some (.ref ps), some (.ref pE), some (.ref pC), some (.int d), x, y, z] ∧
      mm = n * m - d ∧ HS H H' po ps pE pC l E C bs ∧ ReachW (next2 (mach k n R T) (mach k m R2 T2)) k (i0, j0) d l ∧ ∀ i, i < d → ∀ w p, l[i]? = some (w, p) → alike2 (mach k n R T) (mach k m R2 T2) p = true,
    ⟨n * m, 0, _, _, _, _, _, _, _, rfl, rfl, start, .start, fun i hi => absurd hi (Nat.not_lt_zero i)⟩, ?_⟩
  rintro mm σ H' ⟨d, l, E, C, bs, x, y, z, rfl, rfl, hs, hre, hal⟩
  obtain ⟨ok, few⟩ := pairs_ok h2m.one h2m.two (show (i0, j0).1 < n ∧ (i0, j0).2 < m from ⟨hi0, hj0⟩) hre
  have f4 := h2m.few
  have hbl : bs.length = l.length := by rw [hs.prs.1, List.length_map]
  refine ⟨_, rfl, _, rfl, po, _, rfl, .inl (SqL.of hs.p1), _, _, rfl, rfl, _, rfl, ?_⟩
  refine ite2 (fun c => ?_) (fun c => ?_)
  rotate_left
  · have c' : ¬ (d : Int) < (((bs.map V.ref).length : Nat) : Int) := of_decide_eq_false (Bool.eq_false_iff.mpr c)
    rw [List.length_map, hbl] at c'
    have hd : d = l.length := by have := ok.le; omega
    subst hd
    exact qn H' l hs.same hre hal
  have c' : (d : Int) < (((bs.map V.ref).length : Nat) : Int) := of_decide_eq_true c
  rw [List.length_map, hbl] at c'
  have hd : d < l.length := by omega
  obtain ⟨wd, p, hq⟩ : ∃ wd p, l[d]? = some (wd, p) := ⟨l[d].1, l[d].2, List.getElem?_eq_getElem hd⟩
  have hqm : (wd, p) ∈ l := List.mem_of_getElem? hq
  obtain ⟨hp1, hp2⟩ := ok.all _ hqm
  obtain ⟨b0, hb0, hb0t⟩ := hs.prs.2 d p (by rw [List.getElem?_map, hq]; rfl)
  refine ⟨fun σ' H2 => ∃ (l' : List (List Nat × Nat × Nat)) (E' C' : List Nat) (bs' : List Addr) (x y z : Option V), σ' = [some (.int k), some (.ref a), some (.ref b), some (.ref a2), some (.ref b2), some (.ref t0), some (.ref po), some (.ref ps), some (.ref pE), some (.ref pC), some (.int ((d : Int) + 1)), x, y, z] ∧
      HS H H2 po ps pE pC l' E' C' bs' ∧ ReachW (next2 (mach k n R T) (mach k m R2 T2)) k (i0, j0) (d + 1) l' ∧ ∀ i, i < d + 1 → ∀ w p, l'[i]? = some (w, p) → alike2 (mach k n R T) (mach k m R2 T2) p = true, ?_, ?_⟩
  · rintro σ' H5 ⟨l', E', C', bs', x', y', z', rfl, e1, e2, e3⟩
    exact ⟨n * m - (d + 1), by omega, d + 1, l', E', C', bs', x', y', z', rfl, rfl, e1, e2, e3⟩
  -- pair = pairs[done]
  refine ⟨_, rfl, _, rfl, po, _, _, _, rfl, rfl, SqL.of hs.p1, at_ref hb0, ?_⟩
  -- if takes[pair[0]] != takes2[pair[1]]
  refine ⟨_, rfl, _, rfl, b0, _, _, _, rfl, rfl, SqT.of hb0t, at_p0, b, _, _, _, rfl, rfl, hs.same.seq hB, getD_at (by rw [h2m.one.tl]; exact hp1),
    _, rfl, _, rfl, b0, _, _, _, rfl, rfl, SqT.of hb0t, at_p1, b2, _, _, _, rfl, rfl, hs.same.seq hB2, getD_at (by rw [h2m.two.tl]; exact hp2), rfl, _, rfl, ?_⟩
  have hal2 := alike_iff h2m.one h2m.two p
  refine ite2 (fun c1 => ?_) (fun c1 => ?_)
  · have hn : alike2 (mach k n R T) (mach k m R2 T2) p = false := by
      rw [hal2, decide_eq_false_iff_not]
      intro e
      rw [e] at c1
      simp at c1
    refine ⟨_, rfl, _, rfl, _, rfl, pE, pC, d, l, E, C, wd, p, rfl, SqL.of hs.p3, SqL.of hs.p4, hs.bk, hq, by omega, fun q H5 _ g5 e5 => qs q H5 wd (hs.same.trans g5) e5 ?_ fun F hF => apart_some hre hal hq hn (by omega)⟩
    have := ok.long _ hqm
    dsimp only at this
    omega
  have hyes : alike2 (mach k n R T) (mach k m R2 T2) p = true := by
    rw [hal2, decide_eq_true_eq]
    apply Classical.byContradiction
    intro e
    apply c1
    have e' : ¬ vN (T.getD p.1 0) = vN (T2.getD p.2 0) := fun z => e (by injection z with z; omega)
    rw [decide_eq_false e']
    rfl
  -- ahead = list(zip(row_of(k, rows, pair[0]), row_of(k, rows2, pair[1])))
  refine ⟨_, rfl, _, rfl, _, rfl, b0, _, _, _, rfl, rfl, SqT.of hb0t, at_p0, a, R, k, p.1, rfl, hs.same.seq hA, h2m.k16, mach_at h2m.one hp1, fun pr hpr => ?_⟩
  have gr1 : Same H' (upd H' pr (.lst ((rowA k R p.1).map vN))) := Same.new hpr _
  refine ⟨_, rfl, _, rfl, _, rfl, b0, _, _, _, rfl, rfl, SqT.of (gr1 _ _ hb0t), at_p1, a2, R2, k, p.2, rfl, (hs.same.trans gr1).seq hA2, h2m.k16, mach_at h2m.two hp2, fun pr2 hpr2 => ?_⟩
  have gr2 : Same H' (upd (upd H' pr (.lst ((rowA k R p.1).map vN))) pr2 (.lst ((rowA k R2 p.2).map vN))) := gr1.trans (Same.new hpr2 _)
  refine ⟨pr, pr2, _, _, rfl, SqL.of (by rw [upd_ne (fun e => by subst e; rw [upd_same] at hpr2; cases hpr2), upd_same]), SqL.of upd_same, fun pa as H5 hpa hlen g5 e5 htup => ?_⟩
  have gA : Same H' H5 := gr2.trans g5
  have hs5 := hs.keep gA
  have napo : po ≠ pa := ne_of_none (gr2 _ _ hs.p1) hpa
  have naps : ps ≠ pa := ne_of_none (gr2 _ _ hs.p2) hpa
  have napE : pE ≠ pa := ne_of_none (gr2 _ _ hs.p3) hpa
  have napC : pC ≠ pa := ne_of_none (gr2 _ _ hs.p4) hpa
  have hnx : PairsAt H5 ((List.range k).map (next2 (mach k n R T) (mach k m R2 T2) p)) as := by
    refine ⟨?_, fun i q e => ?_⟩
    · rw [hlen, List.length_map, List.length_map, row_full h2m.one hp1, row_full h2m.two hp2, List.length_map, List.length_range, Nat.min_self]
    · rw [List.getElem?_map] at e
      obtain ⟨i', hi', e'⟩ := Option.map_eq_some_iff.mp e
      have hik : i < k := by
        have := (List.getElem?_eq_some_iff.mp hi').1
        rwa [List.length_range] at this
      rw [List.getElem?_range hik] at hi'
      cases hi'
      subst e'
      exact htup i _ _ (by rw [List.getElem?_map, row_at h2m.one hp1 hik]; rfl) (by rw [List.getElem?_map, row_at h2m.two hp2 hik]; rfl)
  -- for letter in range(k)
  refine ⟨_, rfl, (k : Int), rfl, (by have := h2m.k16; omega), (by have := h2m.k16; omega), for_range (n := k) (fun j σ' H6 => ∃ (E' C' : List Nat) (bs' : List Addr) (z : Option V), σ' = [some (.int k), some (.ref a), some (.ref b), some (.ref a2), some (.ref b2), some (.ref t0), some (.ref po), some (.ref ps), some (.ref pE), some (.ref pC), some (.int d), some (.ref b0), some (.ref pa), z] ∧
      HS H H6 po ps pE pC (pushLs (next2 (mach k n R T) (mach k m R2 T2)) wd p l (List.range j)) E' C' bs' ∧ H6 pa = some (.lst (as.map V.ref)) ∧ PairsAt H6 ((List.range k).map (next2 (mach k n R T) (mach k m R2 T2) p)) as)
    ⟨E, C, bs, _, rfl, hs5, e5, hnx⟩ ?_ ?_⟩
  · rintro j σ' H6 hj ⟨E', C', bs', z', rfl, hs6, e6, t6⟩
    obtain ⟨c0, hc0, hc0t⟩ := t6.2 j (next2 (mach k n R T) (mach k m R2 T2) p j) (by rw [List.getElem?_map, List.getElem?_range hj]; rfl)
    generalize hnp : next2 (mach k n R T) (mach k m R2 T2) p j = np at hc0t
    have at0 : atI (as.map V.ref) ((0 : Int) + (j : Int)) = some (.ref c0) := by rw [Int.zero_add]; exact at_ref hc0
    have hls : pushLs (next2 (mach k n R T) (mach k m R2 T2)) wd p l (List.range (j + 1)) = pushL (next2 (mach k n R T) (mach k m R2 T2)) wd p (pushLs (next2 (mach k n R T) (mach k m R2 T2)) wd p l (List.range j)) j := by rw [List.range_succ, pushLs_snoc]
    obtain ⟨mo, emo⟩ := pushLs_pre (next2 (mach k n R T) (mach k m R2 T2)) wd p (List.range j) l
    have hlj : (pushLs (next2 (mach k n R T) (mach k m R2 T2)) wd p l (List.range j)).length ≤ l.length + j := by
      have e := congrArg List.length (pushLs_map (next2 (mach k n R T) (mach k m R2 T2)) wd p (List.range j) l)
      have := dd_len ((List.range j).map (next2 (mach k n R T) (mach k m R2 T2) p)) (l.map (·.2))
      rw [List.length_map] at e
      rw [List.length_map, List.length_map, List.length_range] at this
      omega
    have hqj : (pushLs (next2 (mach k n R T) (mach k m R2 T2)) wd p l (List.range j))[d]? = some (wd, p) := by rw [emo, List.getElem?_append_left hd]; exact hq
    generalize pushLs (next2 (mach k n R T) (mach k m R2 T2)) wd p l (List.range j) = lj at hs6 hls hlj hqj
    have k16 := h2m.k16
    have hbj : bs'.length = lj.length := by rw [hs6.prs.1, List.length_map]
    have hEj := hs6.bk.el
    have hCj := hs6.bk.cl
    refine ⟨_, rfl, _, rfl, pa, _, _, _, rfl, rfl, SqL.of e6, at0, _, rfl, ps, _, rfl, DGet.t (k := keyP np) hs6.p2 hc0t, _, rfl, ?_⟩
    rw [seenT_get]
    refine ite2 (fun c2 => ?_) (fun c2 => ?_)
    · have hn : np ∉ lj.map (·.2) := by simpa using c2
      rw [pushL_out (by rw [hnp]; exact hn), hnp] at hls
      refine ⟨_, rfl, _, rfl, _, rfl, pa, _, _, _, rfl, rfl, SqL.of e6, at0, ps, _, rfl, DPut.t (k := keyP np) hs6.p2 hc0t ?_, ?_⟩
      · unfold seenT; rw [List.length_map, List.length_map]; exact le5001 (by omega)
      rw [seenT_put hn]
      have q1 : (upd H6 ps (.dT (seenT (lj.map (·.2) ++ [np])))) po = some (.lst (bs'.map V.ref)) := by rw [upd_ne nps]; exact hs6.p1
      have q2 : (upd H6 ps (.dT (seenT (lj.map (·.2) ++ [np])))) pa = some (.lst (as.map V.ref)) := by rw [upd_ne naps.symm]; exact e6
      refine ⟨_, rfl, .inl ⟨rfl, _, SqL.of q1⟩, _, rfl, _, rfl, pa, _, _, _, rfl, rfl, SqL.of q2, at0, po, _, _, rfl, rfl, q1, ?_, ?_⟩
      · rw [List.length_map]; exact le5001 (by omega)
      have q3 : (upd (upd H6 ps (.dT (seenT (lj.map (·.2) ++ [np])))) po (.lst (bs'.map V.ref ++ [.ref c0]))) pE = some (.lst (E'.map vN)) := by rw [upd_ne npE.symm, upd_ne nsE.symm]; exact hs6.p3
      refine ⟨_, rfl, .inl ⟨rfl, _, SqL.of q3⟩, _, rfl, pE, _, _, rfl, rfl, q3, ?_, ?_⟩
      · rw [List.length_map]; exact le5001 (by omega)
      have q4 : (upd (upd (upd H6 ps (.dT (seenT (lj.map (·.2) ++ [np])))) po (.lst (bs'.map V.ref ++ [.ref c0]))) pE (.lst (E'.map vN ++ [vN d]))) pC = some (.lst (C'.map vN)) := by rw [upd_ne nEC.symm, upd_ne npC.symm, upd_ne nsC.symm]; exact hs6.p4
      refine ⟨_, rfl, .inl ⟨rfl, _, SqL.of q4⟩, _, rfl, pC, _, _, rfl, rfl, q4, ?_, ?_⟩
      · rw [List.length_map]; exact le5001 (by omega)
      have k1 : ∀ {L : List (Nat × Nat)} {cs : List Addr}, PairsAt H6 L cs → PairsAt (upd (upd (upd (upd H6 ps (.dT (seenT (lj.map (·.2) ++ [np])))) po (.lst (bs'.map V.ref ++ [.ref c0]))) pE (.lst (E'.map vN ++ [vN d]))) pC (.lst (C'.map vN ++ [.int (0 + (j : Int))]))) L cs := fun h =>
        (((h.upd hs6.p2 (by intro _ z; cases z)).upd q1 (by intro _ z; cases z)).upd q3 (by intro _ z; cases z)).upd q4 (by intro _ z; cases z)
      refine ⟨E' ++ [d], C' ++ [j], bs' ++ [c0], _, rfl, ?_, ?_, k1 t6⟩
      · rw [hls]
        refine ⟨?_, ?_, ?_, ?_, (((hs6.same.put hps' _).put hpo' _).put hpE' _).put hpC' _, ?_, hs6.bk.snoc hqj j np⟩
        · rw [upd_ne npC, upd_ne npE, upd_same, List.map_append]; rfl
        · rw [upd_ne nsC, upd_ne nsE, upd_ne nps.symm, upd_same, List.map_append]; rfl
        · rw [upd_ne nEC, upd_same, List.map_append]; rfl
        · rw [upd_same, List.map_append, Int.zero_add]; rfl
        · rw [List.map_append]
          refine (k1 hs6.prs).snoc (p := np) ?_
          have t7 := (k1 t6).2 j np (by rw [List.getElem?_map, List.getElem?_range hj]; exact congrArg some hnp)
          obtain ⟨c1', hc1, hc1t⟩ := t7
          rw [hc0] at hc1
          cases hc1
          exact hc1t
      · rw [upd_ne napC.symm, upd_ne napE.symm, upd_ne napo.symm, upd_ne naps.symm]; exact e6
    · have hn : np ∈ lj.map (·.2) := by simpa using c2
      rw [pushL_in (by rw [hnp]; exact hn)] at hls
      exact ⟨E', C', bs', _, rfl, by rw [hls]; exact hs6, e6, t6⟩
  · rintro σ' H6 ⟨E', C', bs', z', rfl, hs6, e6, t6⟩
    refine ⟨_, rfl, _, _, rfl, rfl, ?_⟩
    refine ⟨_, E', C', bs', _, _, _, rfl, hs6, hre.step hq, fun i hi w' p' e => ?_⟩
    have hil : i < l.length := by omega
    have e' : (extW (next2 (mach k n R T) (mach k m R2 T2)) k wd p l)[i]? = some (w', p') := e
    rw [extW_get hil] at e'
    by_cases hid : i < d
    · exact hal i hid w' p' e'
    · have : i = d := by omega
      subst this
      rw [hq] at e'
      cases e'
      exact hyes
end
end Lp
set_option maxRecDepth 100000
set_option maxHeartbeats 4000000
namespace Lp
open PySem L2 Lm
theorem nats_V {l : List Int} (h : ∀ x ∈ l, 0 ≤ x) : l.map V.int = (natsOf l).map vN := by
  unfold natsOf
  rw [List.map_map]
  refine List.map_congr_left fun x hx => ?_
  show V.int x = V.int ((x.toNat : Nat) : Int)
  rw [Int.toNat_of_nonneg (h x hx)]
section
variable {P : Program} {w : World} {K : PySem.W.Frag} {mg : Str → Option Value} {base : Heap}
/-! ### apart -/
def spApart (K : PySem.W.Frag) : Sp := fun vs H Q _ => ∃ (a b a2 b2 : Addr) (k n m : Int) (ns ts us ws : List Int), vs = [.int k, .int n, .int m, .ref a, .ref b, .ref a2, .ref b2] ∧ SqL K H a (ns.map V.int) ∧ SqL K H b (ts.map V.int) ∧ SqL K H a2 (us.map V.int) ∧ SqL K H b2 (ws.map V.int) ∧ PySw38.apart_asked k n m ns ts us ws = true ∧
  ∀ p H', H' p = some (.lst ((PySw38.apart k n m ns ts us ws).map V.int)) → Q (.ref p) H'
theorem scApart : FnScope ["k", "n", "m", "rows", "takes", "rows2", "takes2", "word"] ["k", "n", "m", "rows", "takes", "rows2", "takes2"] (defScope sApart) := ⟨rfl, rfl, rfl, by decide +kernel, rfl, by decide +kernel, by decide +kernel⟩
theorem ok_apart {f fI fF : Addr} {fd fdI fdF : FuncData} {t1 t2 t3 t4 t5 : Tok} (F : Fun K "apart" "apart" sApart f fd)
    (m1 : mg "OUT_OF_RANGE" = some (.int (-2) t1)) (m2 : mg "NO_MACHINE" = some (.int (-3) t2)) (m3 : mg "MOST_LETTERS" = some (.int 16 t3)) (m4 : mg "MOST_STATES" = some (.int 64 t4)) (m5 : mg "NO_WORD" = some (.int (-1) t5))
    (GI : FnOk P w K mg base CX0 1 fI fdI ["n", "rows", "takes"] (spIs K)) (bI : Binds K fdI ["n", "rows", "takes"] []) (kI : PySem.W.keepIn K (.ref fI) = true) (mI : mg "is_machine" = some (.ref fI))
    (GF : FnOk P w K mg base CX0 2 fF fdF ["k", "rows", "takes", "rows2", "takes2", "start"] (spFirst K)) (bF : Binds K fdF ["k", "rows", "takes", "rows2", "takes2", "start"] []) (kF : PySem.W.keepIn K (.ref fF) = true) (mF : mg "first_word_apart" = some (.ref fF)) (ml : mg "len" = none) :
    FnOk P w K mg base CX0 3 f fd ["k", "n", "m", "rows", "takes", "rows2", "takes2"] (spApart K) := by
  refine F.ok scApart (fun vs H Q E h => ?_) (fun cdv A outer s H vs Q E hr h => ?_)
  · obtain ⟨a, b, a2, b2, k, n, m, ns, ts, us, ws, rfl, _⟩ := h
    rfl
  obtain ⟨a, b, a2, b2, k, n, m, ns, ts, us, ws, rfl, hA, hB, hA2, hB2, hask, q⟩ := h
  have hr1 := hr.mono (j := 1) (by decide)
  refine ⟨_, pss_cons (ps_if (pt_not (PW.pt (pw_and (pt_chain op_le op_le pe_int (pv 0) (pe_glob (v := .int 16) rfl m3 ⟨_, rfl⟩)) (pw_and (pt_chain op_le op_le pe_int (pv 1) (pe_glob (v := .int 64) rfl m4 ⟨_, rfl⟩)) (pw_and1 (pt_chain op_le op_le pe_int (pv 2) (pe_glob (v := .int 64) rfl m4 ⟨_, rfl⟩)))))))
      (pss_one (ps_ret (pe_lst (pa_cons (pe_glob (v := .int (-2)) rfl m1 ⟨_, rfl⟩) pa_nil)))) pss_nil)
    (pss_cons (ps_if (pt_not (PW.pt (pw_and (pt_val (pe_call GI hr1 rfl mI kI bI .nil pass0 (pa_cons (pv 1) (pa_cons (pv 3) (pa_cons (pv 4) pa_nil))))) (pw_and1 (pt_val (pe_call GI hr1 rfl mI kI bI .nil pass0 (pa_cons (pv 2) (pa_cons (pv 5) (pa_cons (pv 6) pa_nil)))))))))
      (pss_one (ps_ret (pe_lst (pa_cons (pe_glob (v := .int (-3)) rfl m2 ⟨_, rfl⟩) pa_nil)))) pss_nil)
    (pss_cons (ps_set (i := 7) scApart.nd rfl (Or.inl rfl) (pe_call GF hr rfl mF kF bF .nil pass0 (pa_cons (pv 0) (pa_cons (pv 3) (pa_cons (pv 4) (pa_cons (pv 5) (pa_cons (pv 6) (pa_cons (pe_tup (pa_cons pe_int (pa_cons pe_int pa_nil))) pa_nil))))))))
    (pss_cons (ps_if (pt_cmp (pc_isN (pv 7))) (pss_one (ps_ret (pe_lst (pa_cons (pe_glob (v := .int (-1)) rfl m5 ⟨_, rfl⟩) pa_nil)))) pss_nil)
    (pss_one (ps_ret (pe_op op_cat (pe_lst (pa_cons (pe_callB call_len_seq (by rfl) ml PySem.boot_len (pa_cons (pv 7) pa_nil)) pa_nil)) (pv 7))))))), ?_⟩
  have out : ¬ inApart k n m → (1 ≤ sizeLine ∧ ∀ p, H p = none → Q (.ref p) (upd H p (.lst [.int (-2)]))) := fun z => by
    refine ⟨(by decide), fun p hp => q p _ ?_⟩
    rw [upd_same, apart_out z]; rfl
  refine ⟨_, rfl, _, _, rfl, rfl, _, rfl, ?_⟩
  refine ite2 (fun c1 => ?_) (fun c1 => ?_)
  rotate_left
  · refine ⟨_, rfl, ?_⟩
    exact iteF (iteT (out (by have : ¬ 1 ≤ k := by simpa using c1
                              unfold inApart; omega)))
  have d1 : 1 ≤ k := of_decide_eq_true c1
  refine ⟨_, _, rfl, rfl, _, rfl, ?_⟩
  refine ite2 (fun c2 => ?_) (fun c2 => ?_)
  rotate_left
  · exact iteT (out (by have : ¬ k ≤ 16 := by simpa using c2
                        unfold inApart; omega))
  have d2 : k ≤ 16 := of_decide_eq_true c2
  refine ⟨_, rfl, _, _, rfl, rfl, _, rfl, ?_⟩
  refine ite2 (fun c3 => ?_) (fun c3 => ?_)
  rotate_left
  · refine ⟨_, rfl, ?_⟩
    exact iteF (iteT (out (by have : ¬ 1 ≤ n := by simpa using c3
                              unfold inApart; omega)))
  have d3 : 1 ≤ n := of_decide_eq_true c3
  refine ⟨_, _, rfl, rfl, _, rfl, ?_⟩
  refine ite2 (fun c4 => ?_) (fun c4 => ?_)
  rotate_left
  · exact iteT (out (by have : ¬ n ≤ 64 := by simpa using c4
                        unfold inApart; omega))
  have d4 : n ≤ 64 := of_decide_eq_true c4
  refine ⟨_, rfl, _, _, rfl, rfl, _, rfl, ?_⟩
  refine ite2 (fun c5 => ?_) (fun c5 => ?_)
  rotate_left
  · refine ⟨_, rfl, ?_⟩
    exact iteT (out (by have : ¬ 1 ≤ m := by simpa using c5
                        unfold inApart; omega))
  have d5 : 1 ≤ m := of_decide_eq_true c5
  refine ⟨_, _, rfl, rfl, _, rfl, ?_⟩
  refine ite2 (fun c6 => ?_) (fun c6 => ?_)
  · exact out (by have : ¬ m ≤ 64 := by simpa using c6
                  unfold inApart; omega)
  have d6 : m ≤ 64 := by simpa using c6
  have hin : inApart k n m := ⟨⟨d1, d2⟩, ⟨d3, d4⟩, d5, d6⟩
  have bad : ∀ H' : Hp, (okM n ns ts && okM m us ws) = false → (1 ≤ sizeLine ∧ ∀ p, H' p = none → Q (.ref p) (upd H' p (.lst [.int (-3)]))) := fun H' z => by
    refine ⟨(by decide), fun p hp => q p _ ?_⟩
    rw [upd_same, apart_bad hin hask z]; rfl
  refine ⟨_, rfl, _, rfl, _, rfl, a, b, n, ns, ts, rfl, hA, hB, fun H1 g1 => ⟨_, rfl, ?_⟩⟩
  refine ite2 (fun c7 => ?_) (fun c7 => ?_)
  rotate_left
  · refine iteT (bad H1 ?_)
    have : okM n ns ts = false := Bool.eq_false_iff.mpr c7
    rw [this]; rfl
  have e7 : okM n ns ts = true := c7
  refine ⟨_, rfl, _, rfl, _, rfl, a2, b2, m, us, ws, rfl, g1.seq hA2, g1.seq hB2, fun H2 g2 => ⟨_, rfl, ?_⟩⟩
  refine ite2 (fun c8 => ?_) (fun c8 => ?_)
  · refine bad H2 ?_
    have : okM m us ws = false := by simpa using c8
    rw [this, Bool.and_false]
  have e8 : okM m us ws = true := by simpa using c8
  obtain ⟨l1, l2, l3, l4, p1, p2, p3, p4⟩ := apart_asked hask hin
  have M1 := isMach_of ⟨d1, d3⟩ l1 l2 e7
  have M2 := isMach_of ⟨d1, d5⟩ l3 l4 e8
  obtain ⟨kk, rfl⟩ : ∃ kk : Nat, k = (kk : Int) := ⟨k.toNat, by omega⟩
  obtain ⟨nn, rfl⟩ : ∃ nn : Nat, n = (nn : Int) := ⟨n.toNat, by omega⟩
  obtain ⟨mm, rfl⟩ : ∃ mm : Nat, m = (mm : Int) := ⟨m.toNat, by omega⟩
  have h2m : Two kk nn mm (natsOf ns) (natsOf ts) (natsOf us) (natsOf ws) := ⟨by omega, by omega, by omega, by omega, by omega, M1, M2⟩
  have edue : PySw38.apart (kk : Int) (nn : Int) (mm : Int) ns ts us ws = match due kk nn mm (natsOf ns) (natsOf ts) (natsOf us) (natsOf ws) 5000 (0, 0) with
      | some w => (w.length : Int) :: w.map fun (x : Nat) => (x : Int)
      | none => [-1] := apart_due hin hask e7 e8
  have g12 := g1.trans g2
  rw [nats_V p1] at hA
  rw [nats_V p2] at hB
  rw [nats_V p3] at hA2
  rw [nats_V p4] at hB2
  refine ⟨_, rfl, _, rfl, _, rfl, _, rfl, _, rfl, (by show 2 ≤ sizeLine; decide), fun t0 ht0 => ?_⟩
  have g13 := g12.trans (Same.new ht0 (.tup [V.int 0, V.int 0]))
  have f4 := h2m.few
  refine ⟨a, b, a2, b2, t0, kk, nn, mm, 0, 0, natsOf ns, natsOf ts, natsOf us, natsOf ws, rfl, h2m, g13.seq hA, g13.seq hB, g13.seq hA2, g13.seq hB2, upd_same, by omega, by omega, fun p H3 wd _ e hl hd => ?_, fun H3 l _ hre hal => ?_⟩
  · refine ⟨_, rfl, _, rfl, ?_⟩
    refine ite2 (fun c => nomatch (of_decide_eq_true c)) (fun _ => ?_)
    refine ⟨_, rfl, p, _, rfl, .inl (SqL.of e), (by show 1 ≤ sizeLine; decide), fun p1' hp1 => ?_⟩
    have n1 : p ≠ p1' := ne_of_none e hp1
    refine ⟨_, rfl, p1', p, _, _, rfl, rfl, upd_same, (by rw [upd_ne n1]; exact e), ?_, fun p2' hp2 => q p2' _ ?_⟩
    · simp only [List.length_map, List.length_singleton]; exact big (by omega)
    · rw [upd_same, edue, hd 5000 (by omega)]
      simp [List.map_map, Function.comp_def]
  · refine ⟨_, rfl, _, rfl, ?_⟩
    refine ite2 (fun _ => ?_) (fun c => absurd (decide_eq_true rfl) c)
    refine ⟨(by show 1 ≤ sizeLine; decide), fun p hp => q p _ ?_⟩
    have hd : due kk nn mm (natsOf ns) (natsOf ts) (natsOf us) (natsOf ws) 5000 (0, 0) = none := apart_none hre hal (by
      have := (pairs_ok h2m.one h2m.two (a0 := (0, 0)) (show (0, 0).1 < _ ∧ (0, 0).2 < _ from ⟨by omega, by omega⟩) hre).2
      omega)
    rw [upd_same, edue, hd]
    rfl
end
end Lp
set_option maxRecDepth 100000
set_option maxHeartbeats 4000000
namespace Lp
open PySem L2 Lm
/-! ### the program's top -/
theorem all_mk {P : Program} {w : World} {K : PySem.W.Frag} {h : Heap} {mg : Str → Option Value} {fa f1 f2 f3 f4 f5 : Addr} (X : K.In h) (G : h.Ns mainGlobals mg) (hfa : mg "apart" = some (.ref fa))
    {od1 an1 od2 an2 od3 an3 od4 an4 od5 an5 : Option Addr} {sl1 sl2 sl3 sl4 sl5 : Array (Option Value)}
    {oc1 kV1 dc1 pm1 cd1 ct1 oc2 kV2 dc2 pm2 cd2 ct2 oc3 kV3 dc3 pm3 cd3 ct3 oc4 kV4 dc4 pm4 cd4 ct4 oc5 kV5 dc5 pm5 cd5 ct5 : Value} {t1 t2 t3 t4 t5 : Tok}
    (a1 : PySem.W.nsIn K mainGlobals "apart" = some (some (.ref f1))) (l1 : K.lookup f1 = some ⟨oc1, od1, .func (PySem.W.fnOf "apart" "apart" (defArgs sApart) (defBody sApart) (defScope sApart) .none kV1 dc1 pm1 an1 cd1 ct1), sl1⟩) (c1 : PySem.W.codeIn K cd1 "apart" = true) (k1 : PySem.W.keepIn K (.ref f1) = true)
    (a2 : PySem.W.nsIn K mainGlobals "is_machine" = some (some (.ref f2))) (l2 : K.lookup f2 = some ⟨oc2, od2, .func (PySem.W.fnOf "is_machine" "is_machine" (defArgs sIs) (defBody sIs) (defScope sIs) .none kV2 dc2 pm2 an2 cd2 ct2), sl2⟩) (c2 : PySem.W.codeIn K cd2 "is_machine" = true) (k2 : PySem.W.keepIn K (.ref f2) = true)
    (a3 : PySem.W.nsIn K mainGlobals "row_of" = some (some (.ref f3))) (l3 : K.lookup f3 = some ⟨oc3, od3, .func (PySem.W.fnOf "row_of" "row_of" (defArgs sRow) (defBody sRow) (defScope sRow) .none kV3 dc3 pm3 an3 cd3 ct3), sl3⟩) (c3 : PySem.W.codeIn K cd3 "row_of" = true) (k3 : PySem.W.keepIn K (.ref f3) = true)
    (a4 : PySem.W.nsIn K mainGlobals "first_word_apart" = some (some (.ref f4))) (l4 : K.lookup f4 = some ⟨oc4, od4, .func (PySem.W.fnOf "first_word_apart" "first_word_apart" (defArgs sFirst) (defBody sFirst) (defScope sFirst) .none kV4 dc4 pm4 an4 cd4 ct4), sl4⟩) (c4 : PySem.W.codeIn K cd4 "first_word_apart" = true) (k4 : PySem.W.keepIn K (.ref f4) = true)
    (a5 : PySem.W.nsIn K mainGlobals "word_back" = some (some (.ref f5))) (l5 : K.lookup f5 = some ⟨oc5, od5, .func (PySem.W.fnOf "word_back" "word_back" (defArgs sBack) (defBody sBack) (defScope sBack) .none kV5 dc5 pm5 an5 cd5 ct5), sl5⟩) (c5 : PySem.W.codeIn K cd5 "word_back" = true) (k5 : PySem.W.keepIn K (.ref f5) = true)
    (v1 : PySem.W.nsIn K mainGlobals "OUT_OF_RANGE" = some (some (.int (-2) t1))) (v2 : PySem.W.nsIn K mainGlobals "NO_MACHINE" = some (some (.int (-3) t2))) (v3 : PySem.W.nsIn K mainGlobals "MOST_LETTERS" = some (some (.int 16 t3))) (v4 : PySem.W.nsIn K mainGlobals "MOST_STATES" = some (some (.int 64 t4))) (v5 : PySem.W.nsIn K mainGlobals "NO_WORD" = some (some (.int (-1) t5)))
    (z1 : PySem.W.nsIn K mainGlobals "len" = some none) (z2 : PySem.W.nsIn K mainGlobals "zip" = some none) (z3 : PySem.W.nsIn K mainGlobals "list" = some none) (z4 : PySem.W.nsIn K mainGlobals "range" = some none) :
    ∃ fd : FuncData, (∀ (s : Shared) (u1 u2 u3 u4 u5 u6 u7 : Value), BindsTo s fd ⟨[u1, u2, u3, u4, u5, u6, u7], []⟩ [("k", u1), ("n", u2), ("m", u3), ("rows", u4), ("takes", u5), ("rows2", u6), ("takes2", u7)]) ∧ ∀ base : Heap, K.In base → base.Ns mainGlobals mg → FnOk P w K mg base CX0 3 fa fd ["k", "n", "m", "rows", "takes", "rows2", "takes2"] (spApart K) := by
  have e := hfa.symm.trans (PySem.W.mg_of X G a1)
  cases e
  have F1 := fun_mk (st := sApart) l1 c1 k1
  have F2 := fun_mk (st := sIs) l2 c2 k2
  have F3 := fun_mk (st := sRow) l3 c3 k3
  have F4 := fun_mk (st := sFirst) l4 c4 k4
  have F5 := fun_mk (st := sBack) l5 c5 k5
  have b2 := F2.binds (ps := ["n", "rows", "takes"]) fun _ _ _ _ _ _ us hl => match us, hl with | [_, _, _], _ => rfl
  have b3 := F3.binds (ps := ["k", "rows", "state"]) fun _ _ _ _ _ _ us hl => match us, hl with | [_, _, _], _ => rfl
  have b4 := F4.binds (ps := ["k", "rows", "takes", "rows2", "takes2", "start"]) fun _ _ _ _ _ _ us hl => match us, hl with | [_, _, _, _, _, _], _ => rfl
  have b5 := F5.binds (ps := ["place", "earlier", "letters"]) fun _ _ _ _ _ _ us hl => match us, hl with | [_, _, _], _ => rfl
  have ml := PySem.W.mg_none_of X G z1
  refine ⟨PySem.W.fnOf "apart" "apart" (defArgs sApart) (defBody sApart) (defScope sApart) .none kV1 dc1 pm1 an1 cd1 ct1, fun s u1 u2 u3 u4 u5 u6 u7 => .of_eq rfl, fun base _ _ => ?_⟩
  have GR : FnOk P w K mg base CX0 1 f3 _ ["k", "rows", "state"] (spRow K) := ok_row F3
  have GI : FnOk P w K mg base CX0 1 f2 _ ["n", "rows", "takes"] (spIs K) := ok_is F2
  have GB : FnOk P w K mg base CX0 1 f5 _ ["place", "earlier", "letters"] (spBack K) := ok_back F5
  have GF := ok_first (P := P) (w := w) (base := base) F4 GR b3 k3 (PySem.W.mg_of X G a3) GB b5 k5 (PySem.W.mg_of X G a5) ml (PySem.W.mg_none_of X G z2) (PySem.W.mg_none_of X G z3) (PySem.W.mg_none_of X G z4)
  exact ok_apart F1 (PySem.W.mg_of X G v1) (PySem.W.mg_of X G v2) (PySem.W.mg_of X G v3) (PySem.W.mg_of X G v4) (PySem.W.mg_of X G v5) GI b2 k2 (PySem.W.mg_of X G a2) GF b4 k4 (PySem.W.mg_of X G a4) ml
theorem walk {r : PySem.W.OpenSpec} (hr : r = PySem.Challenge.rw_leastone_s02_apart) {q : Program} {loose : List Str} {XP : (Str → Option Value) → Heap → Prop} {YP : World → Heap → Prop} {d : DefRec} {K : Params → PySem.W.Frag} (hdf : d.params.defaults = [])
    (hY : ∀ (w : World) (h : Heap), YP w h → (K w.params).In h)
    (F : ∀ (w : World) (mg : Str → Option Value) (fa : Addr) (h : Heap), (K w.params).In h → h.Ns mainGlobals mg → mg d.name = some (.ref fa) →
      ∃ fd : FuncData, (∀ (s : Shared) (u1 u2 u3 u4 u5 u6 u7 : Value), BindsTo s fd ⟨[u1, u2, u3, u4, u5, u6, u7], []⟩ [("k", u1), ("n", u2), ("m", u3), ("rows", u4), ("takes", u5), ("rows2", u6), ("takes2", u7)]) ∧ ∀ base : Heap, (K w.params).In base → base.Ns mainGlobals mg → FnOk r.prog w (K w.params) mg base CX0 3 fa fd ["k", "n", "m", "rows", "takes", "rows2", "takes2"] (spApart (K w.params))) :
    PySem.W.WalkOS q loose XP YP r d [] (fun f vs => PySem.call f vs) := by
  intro w s₀ s₁ mg mb G Y fa o pm cd doc dV kV ho hd hcd hD hmg hg args vals as hpre hlay hrd hwl hlo
  have KX := hY w _ Y
  obtain ⟨fd, hb, hF⟩ := F w mg fa _ KX G.T.g hmg
  have hsh := PySem.W.os_shapes _ hpre
  subst hr
  obtain ⟨d1, r1, rfl, x1, hsh⟩ := PySem.W.hasAllW_cons hsh
  obtain ⟨d2, r2, rfl, x2, hsh⟩ := PySem.W.hasAllW_cons hsh
  obtain ⟨d3, r3, rfl, x3, hsh⟩ := PySem.W.hasAllW_cons hsh
  obtain ⟨d4, r4, rfl, x4, hsh⟩ := PySem.W.hasAllW_cons hsh
  obtain ⟨d5, r5, rfl, x5, hsh⟩ := PySem.W.hasAllW_cons hsh
  obtain ⟨d6, r6, rfl, x6, hsh⟩ := PySem.W.hasAllW_cons hsh
  obtain ⟨d7, r7, rfl, x7, hsh⟩ := PySem.W.hasAllW_cons hsh
  obtain rfl := PySem.W.hasAllW_nil hsh
  obtain ⟨k, rfl⟩ := PySem.W.hasW_int x1
  obtain ⟨n, rfl⟩ := PySem.W.hasW_int x2
  obtain ⟨m, rfl⟩ := PySem.W.hasW_int x3
  obtain ⟨xs4, rfl, y4⟩ := PySem.W.hasW_list x4
  obtain ⟨ns, rfl⟩ := PySem.W.items_int y4
  obtain ⟨xs5, rfl, y5⟩ := PySem.W.hasW_list x5
  obtain ⟨ts, rfl⟩ := PySem.W.items_int y5
  obtain ⟨xs6, rfl, y6⟩ := PySem.W.hasW_list x6
  obtain ⟨us, rfl⟩ := PySem.W.items_int y6
  obtain ⟨xs7, rfl, y7⟩ := PySem.W.hasW_list x7
  obtain ⟨ws, rfl⟩ := PySem.W.items_int y7
  obtain ⟨⟨a1, e1⟩, hs⟩ := L2.sdec_cons (PySem.W.os_pre_isSome hpre)
  obtain ⟨⟨a2, e2⟩, hs⟩ := L2.sdec_cons hs
  obtain ⟨⟨a3, e3⟩, hs⟩ := L2.sdec_cons hs
  obtain ⟨⟨a4, e4⟩, hs⟩ := L2.sdec_cons hs
  obtain ⟨⟨a5, e5⟩, hs⟩ := L2.sdec_cons hs
  obtain ⟨⟨a6, e6⟩, hs⟩ := L2.sdec_cons hs
  obtain ⟨⟨a7, e7⟩, hs⟩ := L2.sdec_cons hs
  obtain ⟨e1, _, _⟩ := L2.sdec_int e1
  obtain ⟨e2, _, _⟩ := L2.sdec_int e2
  obtain ⟨e3, _, _⟩ := L2.sdec_int e3
  obtain ⟨e4, ln4, _⟩ := L2.sdec_ints e4
  obtain ⟨e5, ln5, _⟩ := L2.sdec_ints e5
  obtain ⟨e6, ln6, _⟩ := L2.sdec_ints e6
  obtain ⟨e7, ln7, _⟩ := L2.sdec_ints e7
  have ed := L2.sdec_join e1 (L2.sdec_join e2 (L2.sdec_join e3 (L2.sdec_join e4 (L2.sdec_join e5 (L2.sdec_join e6 (L2.sdec_join e7 (show PySem.W.Codec.decAll [] [] = some () from rfl)))))))
  have hask : PySw38.apart_asked k n m ns ts us ws = true := PySem.W.os_pre_asked hpre ed
  have hpost : (PySem.Challenge.rw_leastone_s02_apart).post [.int k, .int n, .int m, .list (ns.map .int), .list (ts.map .int), .list (us.map .int), .list (ws.map .int)] (.list ((PySw38.apart k n m ns ts us ws).map .int)) = true := PySem.W.os_post ed (PySem.W.same_self _)
  cases hwl with
  | cons w1 hwl =>
  cases hwl with
  | cons w2 hwl =>
  cases hwl with
  | cons w3 hwl =>
  cases hwl with
  | cons w4 hwl =>
  cases hwl with
  | cons w5 hwl =>
  cases hwl with
  | cons w6 hwl =>
  cases hwl with
  | cons w7 hwl =>
  cases hwl
  cases w1
  cases w2
  cases w3
  cases w4 with
  | @list ar vr _ hor har =>
  cases w5 with
  | @list at' vt _ hot hat =>
  cases w6 with
  | @list au vu _ hou hau =>
  cases w7 with
  | @list aw vw _ how haw =>
  have ir := Att.ints_of_wellAll ns _ har
  have it := Att.ints_of_wellAll ts _ hat
  have iu := Att.ints_of_wellAll us _ hau
  have iw := Att.ints_of_wellAll ws _ haw
  refine PySem.W.enter_call (codeAny_mono (spec_call (fr := [(ar, vr, ns), (at', vt, ts), (au, vu, us), (aw, vw, ws)]) (vs := [.int k, .int n, .int m, .ref ar, .ref at', .ref au, .ref aw]) (out := PySw38.apart k n m ns ts us ws) KX G.T.g G.T.b G.T.builtins G.T.nolimit hg ?_ ⟨rfl, by decide, by decide⟩
    (.cons ⟨_, rfl⟩ (.cons ⟨_, rfl⟩ (.cons ⟨_, rfl⟩ (.cons rfl (.cons rfl (.cons rfl (.cons rfl .nil))))))) hF (hb _ _ _ _ _ _ _ _) ?_) fun r s' hq => goodS hpost hq)
  · intro e he
    rcases List.mem_cons.mp he with rfl | he
    · exact ⟨hor, ir, Nat.le_trans ln4 (by decide)⟩
    rcases List.mem_cons.mp he with rfl | he
    · exact ⟨hot, it, Nat.le_trans ln5 (by decide)⟩
    rcases List.mem_cons.mp he with rfl | he
    · exact ⟨hou, iu, Nat.le_trans ln6 (by decide)⟩
    rcases List.mem_cons.mp he with rfl | he
    · exact ⟨how, iw, Nat.le_trans ln7 (by decide)⟩
    · cases he
  · intro H hS
    exact ⟨ar, at', au, aw, k, n, m, ns, ts, us, ws, rfl, hS _ List.mem_cons_self, hS _ (List.mem_cons_of_mem _ List.mem_cons_self), hS _ (List.mem_cons_of_mem _ (List.mem_cons_of_mem _ List.mem_cons_self)), hS _ (List.mem_cons_of_mem _ (List.mem_cons_of_mem _ (List.mem_cons_of_mem _ List.mem_cons_self))), hask, fun p H' e => ⟨p, rfl, e⟩⟩
end Lp
open PySem PySem.W PyProof.Rows
set_option maxRecDepth 100000 in
set_option maxHeartbeats 0 in
theorem PySem.Challenge.cw_leastone_s02_apart_holds : PySem.Challenge.rw_leastone_s02_apart.Holds := by
  w_on; k_headS; (case hw => exact ⟨[.int 0, .int 0, .int 0, .list [], .list [], .list [], .list []], by decide +kernel, by decide +kernel⟩)
  k_fillS
  refine Lp.walk rfl rfl (fun w h Y => PySem.W.kIn_of Y) ?F
  case F =>
    intro w mg fa h KX G hmg
    refine' Lp.all_mk KX G hmg ?a1 ?l1 ?c1 ?k1 ?a2 ?l2 ?c2 ?k2 ?a3 ?l3 ?c3 ?k3 ?a4 ?l4 ?c4 ?k4 ?a5 ?l5 ?c5 ?k5 ?v1 ?v2 ?v3 ?v4 ?v5 ?z1 ?z2 ?z3 ?z4
    (case a1 => k_is); (case l1 => k_is); (case c1 => k_is); (case k1 => k_is)
    (case a2 => k_is); (case l2 => k_is); (case c2 => k_is); (case k2 => k_is)
    (case a3 => k_is); (case l3 => k_is); (case c3 => k_is); (case k3 => k_is)
    (case a4 => k_is); (case l4 => k_is); (case c4 => k_is); (case k4 => k_is)
    (case a5 => k_is); (case l5 => k_is); (case c5 => k_is); (case k5 => k_is)
    (case v1 => k_is); (case v2 => k_is); (case v3 => k_is); (case v4 => k_is); (case v5 => k_is)
    (case z1 => k_is); (case z2 => k_is); (case z3 => k_is); (case z4 => k_is)
#print axioms PySem.Challenge.cw_leastone_s02_apart_holds
