import PyProof.Rows.All
import Wide.All
import OpenK.AllK
import Wide.FinOn
import PySem.Challenge.RW_twinsum_k02_ledger_gives
import HandS.ForMost
import HandS.WideBits
import HandS.RevRange
import HandS.IsInst
import HandS.Evl
import HandS.Exc
import HandS.ExcOwn
import HandS.ExcIs
import HandS.WordsExc
import HandS.TryOnly
import HandS.TryMany
import HandS.HotCalls
import HandS.Walk
import HandS.Deep
import HandS.Conv
import HandS.SortInts
import KE.KDictKeyed
import KE.KeyNested
set_option Elab.async false
set_option linter.all false
set_option maxRecDepth 100000
set_option maxHeartbeats 4000000
set_option pp.deepTerms false
set_option pp.maxSteps 2500




namespace My
open PySem PySem.Spec PyProof.Rows L2
/-! ### dicts whose keys are texts and pairs of ints together -/
inductive Th where
  | row (x : Str)
  | pair (i j : Int)
deriving DecidableEq
def nk : Th → NestedKey
  | .row x => .text x
  | .pair i j => .tup [.num i, .num j]
theorem nk_beq (a b : Th) : NestedKey.beq (nk a) (nk b) = decide (a = b) := by
  cases a with
  | row x =>
    cases b with
    | row y => simp [nk, NestedKey.beq]
    | pair i j => simp [nk, NestedKey.beq]
  | pair i j =>
    cases b with
    | row y => simp [nk, NestedKey.beq]
    | pair k l => simp [nk, NestedKey.beq, NestedKey.beqAll]
theorem nk_deep (a : Th) : (nk a).depth ≤ 1 := by
  cases a <;> simp [nk, NestedKey.depth, NestedKey.depthAll]
theorem nk_inj {h : Heap} {a b : Th} {u : Value} (x : NestedIs h (nk a) u) (y : NestedIs h (nk b) u) : a = b := by
  have e := NestedIs.inj _ _ _ x y
  have e2 := nk_beq a b
  rw [e, NestedKey.beq_self] at e2
  exact of_decide_eq_true e2.symm
abbrev ME := Th × Value × Value
def ent (w : World) (x : ME) : DictEntry := ⟨(nk x.1).hash w, x.2.1, x.2.2⟩
/-- what the walk over the places with this hash keeps in mind -/
def Left (E : List ME) (k : Th) (rest : List Nat) (hit : Option Nat) : Prop :=
  rest.Nodup ∧ ((hit = none ∧ ∀ (j : Nat) (y : Value × Value), E[j]? = some (k, y) → j ∈ rest) ∨ ∃ (j : Nat) (y : Value × Value), hit = some j ∧ E[j]? = some (k, y) ∧ j ∉ rest)
theorem one_place {E : List ME} {k : Th} (hn : (E.map (·.1)).Nodup) {i j : Nat} {y z : Value × Value} (hi : E[i]? = some (k, y)) (hj : E[j]? = some (k, z)) : i = j := by
  have a : (E.map (·.1))[i]? = some k := by rw [List.getElem?_map, hi]; rfl
  have b : (E.map (·.1))[j]? = some k := by rw [List.getElem?_map, hj]; rfl
  exact (List.getElem?_inj (List.getElem?_eq_some_iff.mp a).1 hn).mp (a.trans b.symm)
section
variable {prog : Program} {w : World} {A : Around} {X : Value → Shared → Prop} {s : Shared}
theorem ask_mix {k k' : Th} {u v : Value} {Q : Bool → Shared → Prop} (hu : A.units + 8 < cLine) (hk' : NestedIs s.heap (nk k') v) (hk : NestedIs s.heap (nk k) u) (h : Q (decide (k' = k)) s) : wpAny (model prog w) A (eqBool v u) Q X s := by
  refine eqAt_key (nk k') (nk k) A s v u hk' hk ?_ prog w X Q ?_
  · have := nk_deep k
    omega
  · rw [nk_beq]
    exact h
theorem quiet_mix {k : Th} {u : Value} {st : List Value} {Q : Bool → Shared → Prop} (hk : NestedIs s.heap (nk k) u) (hs : ∀ v ∈ st, ∃ k', NestedIs s.heap (nk k') v) (h : Q false s) : wpAny (model prog w) A (tableMayTell u st) Q X s := by
  have q : ∀ (k' : Th) (v : Value) (R : Bool → Shared → Prop), NestedIs s.heap (nk k') v → R true s → wpAny (model prog w) A (eqIsQuiet 8 v) R X s := fun k' v R x y => quiet_key (nk k') v 8 s x (by have := nk_deep k'; omega) A X R y
  unfold tableMayTell
  split
  · exact wpAny_pure h
  · refine wpAny_bind (q k u _ hk ?_)
    simp only [Bool.not_true, Bool.false_eq_true, if_false]
    refine wpAny_bind (wpAny_forIn_list _ (fun l r z => z = s ∧ r = (none, ()) ∧ ∀ v ∈ l, ∃ k', NestedIs s.heap (nk k') v) _ ?_ ?_ _ _ ⟨rfl, rfl, hs⟩)
    · rintro v l r z ⟨rfl, rfl, hl⟩
      obtain ⟨k', hv⟩ := hl v List.mem_cons_self
      refine wpAny_bind (q k' v _ hv ?_)
      simp only [Bool.not_true, Bool.false_eq_true, if_false]
      exact wpAny_pure ⟨rfl, rfl, fun v' hv' => hl v' (List.mem_cons_of_mem _ hv')⟩
    · rintro r z ⟨rfl, rfl, _⟩
      exact wpAny_pure h
theorem ite_any {α : Type} {c : Prop} [Decidable c] {m n : Sem α} {M : Model} {Q : α → Shared → Prop} (h1 : c → wpAny M A m Q X s) (h2 : ¬ c → wpAny M A n Q X s) : wpAny M A (if c then m else n) Q X s := by
  by_cases h : c
  · rw [if_pos h]
    exact h1 h
  · rw [if_neg h]
    exact h2 h
theorem find_mix {d : Addr} {o : Obj} {es : Array DictEntry} {ep : Nat} {E : List ME} {k : Th} {u : Value} {Q : Option Nat → Shared → Prop} (hu : A.units + 8 < cLine) (hk : NestedIs s.heap (nk k) u) (ho : s.heap.get? d = some o) (hd : o.data = .dict es ep)
    (he : es.toList = E.map (ent w)) (his : ∀ x ∈ E, NestedIs s.heap (nk x.1) x.2.1) (hn : (E.map (·.1)).Nodup) (h0 : (∀ (j : Nat) (y : Value × Value), E[j]? ≠ some (k, y)) → Q none s) (h1 : ∀ (j : Nat) (y : Value × Value), E[j]? = some (k, y) → Q (some j) s) :
    wpAny (model prog w) A (dictFind d u ((nk k).hash w)) Q X s := by
  have hget : ∀ j : Nat, es[j]? = (E[j]?).map (ent w) := fun j => by rw [← Array.getElem?_toList, he, List.getElem?_map]
  have hsz : es.size = E.length := by rw [← Array.length_toList, he, List.length_map]
  generalize hpl : placesWithHash es.size (fun i => es[i]?.map (·.hash)) ((nk k).hash w) = pl
  have hplN : pl.Nodup := by
    rw [← hpl]
    exact List.Nodup.sublist List.filter_sublist List.nodup_range
  have hplI : ∀ (j : Nat) (y : Value × Value), E[j]? = some (k, y) → j ∈ pl := fun j y hj => by
    rw [← hpl]
    refine List.mem_filter.mpr ⟨List.mem_range.mpr ?_, ?_⟩
    · rw [hsz]
      exact (List.getElem?_eq_some_iff.mp hj).1
    · show (es[j]?.map (·.hash) == some ((nk k).hash w)) = true
      rw [hget j, hj]
      simp [ent]
  have hst : ∀ v ∈ pl.filterMap (fun i => es[i]?.map (·.key)), ∃ k', NestedIs s.heap (nk k') v := fun v hv => by
    obtain ⟨i, _, hi⟩ := List.mem_filterMap.mp hv
    rw [hget i] at hi
    cases hx : E[i]? with
    | none => rw [hx] at hi; cases hi
    | some x =>
      rw [hx] at hi
      have e : x.2.1 = v := Option.some.inj hi
      exact ⟨x.1, e ▸ his x (List.mem_of_getElem? hx)⟩
  -- one place is looked at
  have next : ∀ {i : Nat} {rest : List Nat} {x : ME}, E[i]? = some x → x.1 ≠ k → (∀ (j : Nat) (y : Value × Value), E[j]? = some (k, y) → j ∈ i :: rest) → ∀ (j : Nat) (y : Value × Value), E[j]? = some (k, y) → j ∈ rest := fun {i rest x} hx ne hl j y hj => by
    rcases List.mem_cons.mp (hl j y hj) with e | e
    · subst e
      rw [hx] at hj
      exact absurd (congrArg (·.1) (Option.some.inj hj)) ne
    · exact e
  have ku : (∃ x t, k = .row x ∧ u = .str x t) ∨ ∃ i j a, k = .pair i j ∧ u = .ref a := by
    cases k with
    | row x => dsimp only [nk] at hk; cases hk with | text _ t => exact .inl ⟨x, t, rfl, rfl⟩
    | pair i j => dsimp only [nk] at hk; cases hk with | @tup a _ _ _ _ _ _ _ _ => exact .inr ⟨i, j, a, rfl, rfl⟩
  have hwalk : ∀ (i : Nat), i ∈ pl → ∃ x, E[i]? = some x ∧ (nk x.1).hash w = (nk k).hash w := fun i hi => by
    rw [← hpl] at hi
    have h2 : (es[i]?.map (·.hash) == some ((nk k).hash w)) = true := (List.mem_filter.mp hi).2
    rw [hget i] at h2
    cases hx : E[i]? with
    | none => rw [hx] at h2; simp at h2
    | some x =>
      rw [hx] at h2
      exact ⟨x, rfl, by simpa [ent] using h2⟩
  unfold dictFind
  try with_reducible refine wpAny_holding ?_
  refine wpAny_bind (wpAny_dictEntries ho hd ?_)
  dsimp only
  rw [hpl]
  rcases ku with ⟨x, t, ek, rfl⟩ | ⟨i, j, a, ek, rfl⟩
  all_goals dsimp only
  refine ite_any (fun hall => ?_) (fun _ => ?_)
  · subst ek
    unfold foundByValue
    cases hf : es.findIdx? (fun e => e.key.isStr x) with
    | none =>
      refine wpAny_pure (h0 fun j y hj => ?_)
      have h2 := his _ (List.mem_of_getElem? hj)
      have e1 : es[j]? = some (ent w (.row x, y)) := by rw [hget j, hj]; rfl
      have h3 := Array.findIdx?_eq_none_iff.mp hf _ (Array.mem_of_getElem? e1)
      obtain ⟨u', v'⟩ := y
      dsimp only [nk] at h2
      cases h2
      simp [ent, Value.isStr] at h3
    | some i =>
      obtain ⟨hlt, hi, _⟩ := Array.findIdx?_eq_some_iff_getElem.mp hf
      have e1 : es[i]? = some es[i] := Array.getElem?_eq_getElem hlt
      have e2 := hget i
      rw [e1] at e2
      cases hx : E[i]? with
      | none => rw [hx] at e2; cases e2
      | some y =>
        rw [hx] at e2
        have e3 : es[i] = ent w y := Option.some.inj e2
        have hy := his y (List.mem_of_getElem? hx)
        have ey : y.1 = .row x := by
          rw [e3] at hi
          obtain ⟨k', u', v'⟩ := y
          cases u' <;> simp [ent, Value.isStr] at hi
          subst hi
          exact nk_inj hy (.text _ _)
        have hx' : E[i]? = some (.row x, y.2) := by rw [hx, ← ey]
        simp only [e1]
        refine wpAny_bind (wpAny_dictEpoch ho hd (wpAny_bind (ask_mix (k' := y.1) (k := .row x) hu (by rw [e3]; exact hy) hk (wpAny_bind (wpAny_dictEpoch ho hd ?_)))))
        rw [decide_eq_true ey, if_neg (by simp), if_pos rfl]
        exact wpAny_bind (wpAny_rule (wpAny_pure (h1 _ _ hx')))
  refine ite_any (fun hcv => ?_) (fun _ => ?_)
  · unfold dictWalkPlain
    refine wpAny_bind (wpAny_forIn_list _ (fun rest b z => z = s ∧ b = (none, ()) ∧ (∀ i ∈ rest, i ∈ pl) ∧ ∀ (j : Nat) (y : Value × Value), E[j]? = some (k, y) → j ∈ rest) _ ?_ ?_ _ _ ⟨rfl, rfl, fun _ h => h, hplI⟩)
    · rintro i rest b z ⟨rfl, rfl, hsub, hl⟩
      obtain ⟨y, hy, hh⟩ := hwalk i (hsub i List.mem_cons_self)
      have e1 : es[i]? = some (ent w y) := by rw [hget i, hy]; rfl
      rw [e1]
      dsimp only
      rw [if_pos (show ((ent w y).hash == (nk k).hash w) = true from beq_iff_eq.mpr hh)]
      refine wpAny_bind (wpAny_dictEpoch ho hd (wpAny_bind (ask_mix (k' := y.1) hu (his y (List.mem_of_getElem? hy)) hk (wpAny_bind (wpAny_dictEpoch ho hd ?_)))))
      rw [if_neg (by simp)]
      by_cases hyk : y.1 = k
      · rw [decide_eq_true hyk, if_pos rfl]
        exact wpAny_bind (wpAny_rule (wpAny_pure (wpAny_pure (h1 i y.2 (by rw [hy, ← hyk])))))
      · rw [decide_eq_false hyk, if_neg Bool.false_ne_true]
        exact wpAny_bind (wpAny_rule (wpAny_pure ⟨rfl, rfl, fun j hj => hsub j (List.mem_cons_of_mem _ hj), next hy hyk hl⟩))
    · rintro b z ⟨rfl, rfl, _, hl⟩
      exact wpAny_pure (h0 fun j y hj => absurd (hl j y hj) (by simp))
  rotate_left
  rw [if_neg (show ¬ ((Value.ref a :: pl.filterMap (fun i => es[i]?.map (·.key))).all carriedByValue) = true by simp [carriedByValue])]
  rw [if_neg (show ¬ (es.any fun e => e.key == Value.ref a && e.hash != (nk k).hash w) = true from fun z => by
    rw [← Array.any_toList, he] at z
    obtain ⟨e, hin, hc⟩ := List.any_eq_true.mp z
    obtain ⟨y, hy, rfl⟩ := List.mem_map.mp hin
    simp only [ent, Bool.and_eq_true, beq_iff_eq, bne_iff_ne, ne_eq] at hc
    have h2 := his y hy
    rw [hc.1] at h2
    exact hc.2 (by rw [nk_inj h2 hk]))]
  all_goals
    refine ite_any (fun _ => ?_) (fun _ => ?_)
    all_goals
      first
      | refine wpAny_bind (wpAny_pure ?_)
      | refine wpAny_bind (quiet_mix hk hst ?_)
      rw [if_neg (by simp)]
      refine wpAny_bind (wpAny_forIn_list _ (fun rest b z => z = s ∧ ∃ hit, b = (none, hit) ∧ (∀ i ∈ rest, i ∈ pl) ∧ Left E k rest hit) _ ?_ ?_ _ _ ⟨rfl, none, rfl, fun _ h => h, hplN, .inl ⟨rfl, hplI⟩⟩)
      · rintro i rest b z ⟨rfl, hit, rfl, hsub, hnd, hl⟩
        obtain ⟨y, hy, hh⟩ := hwalk i (hsub i List.mem_cons_self)
        have e1 : es[i]? = some (ent w y) := by rw [hget i, hy]; rfl
        have hsub' : ∀ j ∈ rest, j ∈ pl := fun j hj => hsub j (List.mem_cons_of_mem _ hj)
        rw [e1]
        dsimp only
        rw [if_pos (show ((ent w y).hash == (nk k).hash w) = true from beq_iff_eq.mpr hh)]
        refine wpAny_bind (wpAny_dictEpoch ho hd (wpAny_bind (ask_mix (k' := y.1) hu (his y (List.mem_of_getElem? hy)) hk (wpAny_bind (wpAny_dictEpoch ho hd ?_)))))
        rw [if_neg (by simp)]
        by_cases hyk : y.1 = k
        · rw [decide_eq_true hyk, if_pos rfl]
          have hx : E[i]? = some (k, y.2) := by rw [hy, ← hyk]
          have hni : i ∉ rest := (List.nodup_cons.mp hnd).1
          rcases hl with ⟨rfl, _⟩ | ⟨j, z2, rfl, hj, hnj⟩
          · rw [if_neg (by simp)]
            refine wpAny_bind (wpAny_rule ?_)
            refine ite_any (fun _ => ?_) (fun _ => ?_)
            · exact wpAny_pure (wpAny_pure (h1 _ _ hx))
            · exact wpAny_pure ⟨rfl, some i, rfl, hsub', (List.nodup_cons.mp hnd).2, .inr ⟨i, y.2, rfl, hx, hni⟩⟩
          · exact absurd (one_place hn hj hx ▸ List.mem_cons_self) hnj
        · rw [decide_eq_false hyk, if_neg Bool.false_ne_true]
          refine wpAny_bind (wpAny_rule ?_)
          rw [if_neg (by simp)]
          refine wpAny_pure ⟨rfl, hit, rfl, hsub', (List.nodup_cons.mp hnd).2, ?_⟩
          rcases hl with ⟨h2, hl⟩ | ⟨j, z2, h2, hj, hnj⟩
          · exact .inl ⟨h2, next hy hyk hl⟩
          · exact .inr ⟨j, z2, h2, hj, fun z => hnj (List.mem_cons_of_mem _ z)⟩
      · rintro b z ⟨rfl, hit, rfl, _, _, hl⟩
        rcases hl with ⟨rfl, hl⟩ | ⟨j, z2, rfl, hj, _⟩
        · exact wpAny_pure (h0 fun j y hj => absurd (hl j y hj) (by simp))
        · exact wpAny_pure (h1 _ _ hj)
end
end My

namespace My
open PySem PySem.Spec PyProof.Rows L2
def at? (E : List ME) (k : Th) : Option Value := (E.find? fun x => decide (x.1 = k)).map (·.2.2)
theorem at_none {E : List ME} {k : Th} (h : ∀ (j : Nat) (y : Value × Value), E[j]? ≠ some (k, y)) : at? E k = none := by
  unfold at?
  rw [List.find?_eq_none.mpr, Option.map_none]
  intro x hx hk
  obtain ⟨j, hj⟩ := List.mem_iff_getElem?.mp hx
  exact h j x.2 (by rw [hj, ← of_decide_eq_true hk])
theorem at_some {E : List ME} {k : Th} (hn : (E.map (·.1)).Nodup) {j : Nat} {y : Value × Value} (h : E[j]? = some (k, y)) : at? E k = some y.2 := by
  unfold at?
  cases hf : E.find? (fun x => decide (x.1 = k)) with
  | none =>
    have := List.find?_eq_none.mp hf _ (List.mem_of_getElem? h)
    simp at this
  | some x =>
    have h1 : x.1 = k := by simpa using List.find?_some hf
    obtain ⟨i, hi⟩ := List.mem_iff_getElem?.mp (List.mem_of_find?_eq_some hf)
    have hi' : E[i]? = some (k, x.2) := by rw [hi, ← h1]
    have e := one_place hn hi' h
    subst e
    rw [hi'] at h
    cases h
    rfl
/-- the object at d alone: a dict with these entries -/
def Raw (w : World) (d : Addr) (E : List ME) (h : Heap) : Prop := ∃ o es ep, h.get? d = some o ∧ o.ExactDict ∧ o.data = .dict es ep ∧ es.toList = E.map (ent w)
theorem Raw.type {w : World} {d : Addr} {E : List ME} {s : Shared} (r : Raw w d E s.heap) : s.TypeIs (.ref d) "dict" := let ⟨o, _, _, ho, hc, _⟩ := r; ⟨o, ho, hc.1⟩
section
variable {prog : Program} {w : World} {A : Around} {X : Value → Shared → Prop} {s : Shared} {d : Addr} {E : List ME} {k : Th} {u : Value}
theorem hash_mix {Q : Int → Shared → Prop} (hu : A.units + 8 < cLine) (hk : NestedIs s.heap (nk k) u) (q : Q ((nk k).hash w) { s with toks := s.toks + (nk k).draws }) : wpAny (model prog w) A (pyHash u) Q X s :=
  pyHash_key (nk k) u A s Q hk (by have := nk_deep k; omega) q
theorem get_mix {Q : Option Value → Shared → Prop} (hu : A.units + 8 < cLine) (hk : NestedIs s.heap (nk k) u) (r : Raw w d E s.heap) (his : ∀ x ∈ E, NestedIs s.heap (nk x.1) x.2.1) (hn : (E.map (·.1)).Nodup)
    (q : Q (at? E k) { s with toks := s.toks + (nk k).draws }) : wpAny (model prog w) A (dictGet d u) Q X s := by
  obtain ⟨o, es, ep, ho, _, hd, he⟩ := r
  unfold dictGet
  try with_reducible refine wpAny_holding ?_
  refine wpAny_bind (hash_mix hu hk (wpAny_bind (find_mix (s := { s with toks := s.toks + (nk k).draws }) hu hk ho hd he his hn (fun h0 => ?_) fun j y hj => ?_)))
  · rw [at_none h0] at q
    exact wpAny_pure q
  · rw [at_some hn hj] at q
    refine wpAny_bind (wpAny_dictEntries (s := { s with toks := s.toks + (nk k).draws }) ho hd ?_)
    have e1 : es[j]? = some (ent w (k, y)) := by
      rw [← Array.getElem?_toList, he, List.getElem?_map, hj]
      rfl
    rw [e1]
    exact wpAny_pure q
theorem has_mix {Q : Bool → Shared → Prop} (hu : A.units + 9 < cLine) (hk : NestedIs s.heap (nk k) u) (hs : (d == sysModules) = false) (r : Raw w d E s.heap) (his : ∀ x ∈ E, NestedIs s.heap (nk x.1) x.2.1) (hn : (E.map (·.1)).Nodup)
    (q : Q (at? E k).isSome { s with toks := s.toks + (nk k).draws }) : wpAny (model prog w) A (contains (.ref d) u) Q X s := by
  refine wpAny_contains_slot r.type PySem.F.slot_dict_contains ?_
  refine wpAny_call_entry PySem.F.slot_dict_contains r.type PySem.F.entry_dict_contains ?_ (PySem.F.args_dict_contains_2 _ _)
  show wpAny _ _ (dictGet d u >>= _) _ _ s
  refine wpAny_bind (get_mix (by show A.units + 1 + 8 < cLine; omega) hk r his hn ?_)
  cases hf : at? E k with
  | some v =>
    rw [hf] at q
    exact wpAny_pure ⟨_, rfl, wpAny_truthy_bool q⟩
  | none =>
    rw [hf] at q
    show wpAny _ _ (Builtin.Dict.pendingKey? d u >>= _) _ _ _
    exact wpAny_bind (wpAny_pendingKey_other hs (wpAny_pure ⟨_, rfl, wpAny_truthy_bool q⟩))
theorem item_mix {v : Value} {Q : Value → Shared → Prop} (hu : A.units + 9 < cLine) (hk : NestedIs s.heap (nk k) u) (r : Raw w d E s.heap) (his : ∀ x ∈ E, NestedIs s.heap (nk x.1) x.2.1) (hn : (E.map (·.1)).Nodup) (hv : at? E k = some v)
    (q : Q v { s with toks := s.toks + (nk k).draws }) : wpAny (model prog w) A (getItem (.ref d) u) Q X s := by
  unfold getItem
  try with_reducible refine wpAny_holding ?_
  refine wpAny_bind (wpAny_sequenceKey r.type (by decide) ?_)
  refine wpAny_bind (wpAny_callSpecial?_slot (name := Str.ofString "__getitem__") r.type PySem.F.slot_dict_getitem (wpAny_call_entry PySem.F.slot_dict_getitem r.type entry_dict_getitem ?_ (args_dict_getitem _ _)))
  show wpAny _ _ (dictGet d u >>= _) _ _ s
  refine wpAny_bind (get_mix (by show A.units + 1 + 8 < cLine; omega) hk r his hn ?_)
  rw [hv]
  exact wpAny_pure ⟨v, rfl, wpAny_pure q⟩
theorem put_mix {v : Value} {Q : Unit → Shared → Prop} (hu : A.units + 9 < cLine) (hk : NestedIs s.heap (nk k) u) (r : Raw w d E s.heap) (his : ∀ x ∈ E, NestedIs s.heap (nk x.1) x.2.1) (hn : (E.map (·.1)).Nodup) (hv : k ∉ E.map (·.1)) (hz : E.length ≤ sizeLine)
    (q : ∀ h', Raw w d (E ++ [(k, u, v)]) h' → Heap.SameBut d s.heap h' → Q () { s with heap := h', toks := s.toks + (nk k).draws }) : wpAny (model prog w) A (setItem (.ref d) u v) Q X s := by
  have ty := r.type
  obtain ⟨o, es, ep, ho, hc, hd, he⟩ := r
  unfold setItem
  try with_reducible refine wpAny_holding ?_
  refine wpAny_bind (wpAny_sequenceKey ty (by decide) ?_)
  refine wpAny_bind (wpAny_callSpecial?_slot (name := Str.ofString "__setitem__") ty slot_dict_setitem (wpAny_call_entry slot_dict_setitem ty entry_dict_setitem ?_ (args_dict_setitem _ _ _)))
  show wpAny _ _ (Builtin.Dict.notOrdered "__setitem__" ⟨[.ref d, u, v], []⟩ >>= _) _ _ s
  refine wpAny_bind (wpAny_notOrdered_dict ty ?_)
  show wpAny _ _ (dictSet d u v >>= _) _ _ s
  refine wpAny_bind ?_
  unfold dictSet
  try with_reducible refine wpAny_holding ?_
  refine wpAny_bind (hash_mix (by show A.units + 1 + 8 < cLine; omega) hk ?_)
  unfold dictSetHashed
  try with_reducible refine wpAny_holding ?_
  refine wpAny_bind (find_mix (s := { s with toks := s.toks + (nk k).draws }) (by show A.units + 1 + 8 < cLine; omega) hk ho hd he his hn (fun h0 => ?_) fun j y hj => ?_)
  · have ez : es.size = E.length := by rw [← Array.length_toList, he, List.length_map]
    refine wpAny_bind (wpAny_rule (wpAny_updateDictKeys (hz := by omega) (s := { s with toks := s.toks + (nk k).draws }) ho hd ?_))
    refine wpAny_pure ⟨.none, rfl, wpAny_pure (q _ ⟨_, _, ep + 1, Heap.get?_update_self _ ho (Obj.isFreed_of_dict (Obj.data_mapDictKeys hd _)), hc.mapDictKeys _, Obj.data_mapDictKeys hd _, ?_⟩ (Heap.SameBut.update ..))⟩
    rw [Array.toList_push, he, List.map_append]
    rfl
  · exact absurd (List.mem_map.mpr ⟨_, List.mem_of_getElem? hj, rfl⟩) hv
end
/-! ### the same over the abstract heap -/
def KeyV (H : Hp) : Th → Value → Prop
  | .row x, u => ∃ t, u = .str x t
  | .pair i j, u => ∃ b, u = .ref b ∧ H b = some (.tup [.int i, .int j])
/-- the value y is the key k -/
def IsTh (H : Hp) : Th → V → Prop
  | .row x, y => y = .str x
  | .pair i j, y => ∃ b, y = .ref b ∧ H b = some (.tup [.int i, .int j])
/-- at d stands a dict with these keys and values -/
def DM (w : World) (H : Hp) (d : Addr) (L : List (Th × V)) : Prop :=
  (d == sysModules) = false ∧ L.length ≤ sizeLine ∧ (L.map (·.1)).Nodup ∧ ∃ E : List ME, H d = some (.ext (Raw w d E)) ∧ Paired (fun (x : Th × V) (e : ME) => e.1 = x.1 ∧ KeyV H x.1 e.2.1 ∧ RelV x.2 e.2.2) L E
theorem KeyV.keep {H H' : Hp} (t : ∀ b xs, H b = some (.tup xs) → H' b = some (.tup xs)) : ∀ {k : Th} {u : Value}, KeyV H k u → KeyV H' k u
  | .row _, _, h => h
  | .pair _ _, _, h => let ⟨b, e, z⟩ := h; ⟨b, e, t _ _ z⟩
theorem IsTh.keep {H H' : Hp} (t : ∀ b xs, H b = some (.tup xs) → H' b = some (.tup xs)) : ∀ {k : Th} {u : V}, IsTh H k u → IsTh H' k u
  | .row _, _, h => h
  | .pair _ _, _, h => let ⟨b, e, z⟩ := h; ⟨b, e, t _ _ z⟩
theorem DM.keep {w : World} {H H' : Hp} {d : Addr} {L : List (Th × V)} (h : DM w H d L) (hd : H' d = H d) (t : ∀ b xs, H b = some (.tup xs) → H' b = some (.tup xs)) : DM w H' d L := by
  obtain ⟨a, b, c, E, e, p⟩ := h
  exact ⟨a, b, c, E, hd.trans e, Paired.mapP p fun x y z => ⟨z.1, z.2.1.keep t, z.2.2⟩⟩
def look (L : List (Th × V)) (k : Th) : Option V := (L.find? fun x => decide (x.1 = k)).map (·.2)
theorem keys_eq {H : Hp} {L : List (Th × V)} {E : List ME} (p : Paired (fun (x : Th × V) (e : ME) => e.1 = x.1 ∧ KeyV H x.1 e.2.1 ∧ RelV x.2 e.2.2) L E) : E.map (·.1) = L.map (·.1) := by
  induction p with
  | nil => rfl
  | cons h _ ih => rw [List.map_cons, List.map_cons, ih, h.1]
theorem look_at {H : Hp} {L : List (Th × V)} {E : List ME} (k : Th) (p : Paired (fun (x : Th × V) (e : ME) => e.1 = x.1 ∧ KeyV H x.1 e.2.1 ∧ RelV x.2 e.2.2) L E) : RelO (look L k) (at? E k) := by
  unfold look at?
  induction p with
  | nil => exact True.intro
  | @cons x e l m h _ ih =>
    rw [List.find?_cons, List.find?_cons, h.1]
    by_cases hx : x.1 = k
    · rw [decide_eq_true hx]
      exact h.2.2
    · rw [decide_eq_false hx]
      exact ih
theorem relO_some {a : Option V} {b : Option Value} (h : RelO a b) : a.isSome = b.isSome := by
  cases a <;> cases b <;> first | rfl | exact absurd h id
section
variable {X : Cx} {pins : List (Addr × Obj)} {σ : L2.St} {H : Hp} {s : Shared} {d : Addr} {L : List (Th × V)} {k : Th} {y v : V} {u r : Value}
theorem keyV_is (I : Inv X pins σ H s) : ∀ {k : Th} {u : Value}, KeyV H k u → NestedIs s.heap (nk k) u
  | .row x, _, ⟨t, e⟩ => e ▸ .text x t
  | .pair i j, _, ⟨b, e, z⟩ => by
    obtain ⟨_, its, rv, o, h1, h2, n, h3⟩ := (show ObjOk X.prog X.w H s.heap b (.tup [.int i, .int j]) from I.hok b _ z)
    rw [e]
    refine .tup h1 h2 h3 ?_
    cases rv with
    | cons r1 rv =>
      cases rv with
      | cons r2 rv =>
        cases rv
        obtain ⟨t1, rfl⟩ := r1
        obtain ⟨t2, rfl⟩ := r2
        exact .cons (.int i t1) (.cons (.int j t2) .nil)
theorem isTh_key (h : IsTh H k y) (ry : RelV y u) : KeyV H k u := by
  cases k with
  | row x =>
    have e : y = .str x := h
    subst e
    exact ry
  | pair i j =>
    obtain ⟨b, rfl, z⟩ := h
    exact ⟨b, ry, z⟩
theorem dm_of (I : Inv X pins σ H s) (h : DM X.w H d L) : ∃ E : List ME, Raw X.w d E s.heap ∧ (∀ x ∈ E, NestedIs s.heap (nk x.1) x.2.1) ∧ (E.map (·.1)).Nodup ∧ E.length = L.length ∧ E.map (·.1) = L.map (·.1) ∧ (∀ k, RelO (look L k) (at? E k)) ∧
    Paired (fun (x : Th × V) (e : ME) => e.1 = x.1 ∧ KeyV H x.1 e.2.1 ∧ RelV x.2 e.2.2) L E := by
  obtain ⟨_, _, c, E, e, p⟩ := h
  have ek := keys_eq p
  refine ⟨E, (show Raw X.w d E s.heap from (I.hok d _ e).1), fun x hx => ?_, by rw [ek]; exact c, (Paired.length p).symm, ek, fun k => look_at k p, p⟩
  have all : ∀ {l : List (Th × V)} {m : List ME}, Paired (fun (x : Th × V) (e : ME) => e.1 = x.1 ∧ KeyV H x.1 e.2.1 ∧ RelV x.2 e.2.2) l m → ∀ x ∈ m, NestedIs s.heap (nk x.1) x.2.1 := by
    intro l m q
    induction q with
    | nil => exact fun x hx => nomatch hx
    | cons hq _ ih =>
      intro x hx
      rcases List.mem_cons.mp hx with e | hx
      · rw [e, hq.1]
        exact keyV_is I hq.2.1
      · exact ih x hx
  exact all p x hx
theorem raw_ok {P : Program} {w : World} {H : Hp} {h : Heap} {E : List ME} (r : Raw w d E h) : ObjOk P w H h d (.ext (Raw w d E)) := by
  have ⟨o, _, _, ho, _⟩ := r
  exact ⟨r, ⟨o, ho⟩, fun h1 h2 ⟨o', es, ep, ho', q⟩ kp => ⟨o', es, ep, kp _ ho', q⟩⟩
end
/-! ### rules -/
section
variable {X : Cx} {o i e value : Expr} {pos pos' : Pos} {td ty tv : TE}
/-- {} that will hold such keys -/
def tNewM (w : World) : TE := fun _ H Q => ∀ p, H p = none → DM w (upd H p (.ext (Raw w p []))) p [] → Q (.ref p) (upd H p (.ext (Raw w p [])))
theorem pe_newM : PE X (.Dict [] [] pos) (tNewM X.w) := ⟨fun pins s σ H Q I h => by
  have hn : H s.heap.objs.size = none := I.hok.fresh (Nat.le_refl _)
  have hb := I.big
  refine wpAny_Dict_empty ⟨.ref s.heap.objs.size, upd H s.heap.objs.size (.ext (Raw X.w s.heap.objs.size [])), I.laid (t' := s.toks) (fun _ _ q => Heap.get?_push_of_some _ q) (Nat.le_refl _) (raw_ok ?_), rfl, h _ hn ?_⟩
  · exact ⟨_, #[], 0, Heap.get?_push_size _ rfl, ⟨rfl, rfl, rfl⟩, rfl, rfl⟩
  · refine ⟨?_, Nat.zero_le _, List.nodup_nil, [], upd_same, .nil⟩
    exact beq_eq_false_iff_ne.mpr fun z => by rw [z] at hb; exact absurd hb (Nat.lt_irrefl _)⟩
/-- k not in d -/
def tNotInM (w : World) (ty td : TE) : TE := fun σ H Q => ty σ H fun y H1 => td σ H1 fun x H2 => ∃ a L k, x = .ref a ∧ DM w H2 a L ∧ IsTh H2 k y ∧ Q (.bl (!(look L k).isSome)) H2
theorem pc_notInM (hu : X.A.units + 9 < cLine) (hi : PE X i ty) (ho : PE X o td) : PC X .NotIn i o (tNotInM X.w ty td) := by
  refine ⟨fun pins s σ H Q I h => ?_⟩
  refine thn (hi.run pins s σ H _ I h) fun iv s1 ⟨y, H1, I1, ry, q1⟩ => thn (ho.run pins s1 σ H1 _ I1 q1) fun u s2 ⟨x, H2, I2, rx, a, L, k, ex, hd, hk, q2⟩ => ?_
  subst ex
  obtain rfl : u = Value.ref a := rx
  obtain ⟨E, r, his, hn, _, _, hl, _⟩ := dm_of I2 hd
  show wpAny _ _ (do return Value.bool (!(← contains (.ref a) iv))) _ _ s2
  refine wpAny_bind (has_mix hu (keyV_is I2 (isTh_key hk ry)) hd.1 r his hn (wpAny_pure ?_))
  rw [← relO_some (hl k)]
  exact ⟨.bl (!(look L k).isSome), H2, I2.tok _, rfl, q2⟩
/-- d[k], there -/
def tGetM (w : World) (td ty : TE) : TE := fun σ H Q => td σ H fun x H1 => ty σ H1 fun y H2 => ∃ a L k v, x = .ref a ∧ DM w H2 a L ∧ IsTh H2 k y ∧ look L k = some v ∧ Q v H2
theorem pe_getM (hu : X.A.units + 9 < cLine) (ho : PE X o td) (hi : PE X i ty) (hs : NoSl i) : PE X (.Subscript o i pos) (tGetM X.w td ty) := by
  refine ⟨fun pins s σ H Q I h => ?_⟩
  refine subD_of PySem.F.slot_dict_getitem.lookup hs (thn (ho.run pins s σ H _ I h) fun u s1 ⟨x, H1, I1, rx, q1⟩ => thn (hi.run pins s1 σ H1 _ I1 q1) fun iv s2 ⟨y, H2, I2, ry, a, L, k, v, ex, hd, hk, hv, q2⟩ => ?_)
  subst ex
  obtain rfl : u = Value.ref a := rx
  obtain ⟨E, r, his, hn, _, _, hl, _⟩ := dm_of I2 hd
  have z := hl k
  rw [hv] at z
  cases hw : at? E k with
  | none => rw [hw] at z; exact absurd z id
  | some w' =>
    rw [hw] at z
    exact ⟨r.type, item_mix hu (keyV_is I2 (isTh_key hk ry)) r his hn hw ⟨v, H2, I2.tok _, z, q2⟩⟩
/-- d[k] = v, k not there yet -/
def tPutM (w : World) (td ty tv : TE) : TS := fun D σ H => tv σ H fun v H1 => td σ H1 fun x H2 => ty σ H2 fun y H3 => ∃ a L k, x = .ref a ∧ DM w H3 a L ∧ IsTh H3 k y ∧ look L k = none ∧ L.length < sizeLine ∧
  ∀ H4, (∃ E, H4 = upd H3 a (.ext (Raw w a E))) → DM w H4 a (L ++ [(k, v)]) → D.nx σ H4
theorem ps_putM (hu : X.A.units + 9 < cLine) (ho : PE X o td) (hi : PE X i ty) (hv : PE X value tv) (hs : swapsWith value (some (.Subscript o i pos')) pos.line X.env = pure false) : PS X (.Assign [.Subscript o i pos'] value pos) (tPutM X.w td ty tv) := by
  refine ⟨fun pins s σ H D I h => ?_⟩
  refine wpAny_Assign_Subscript (thn (hv.run pins s σ H _ I h) fun rv s1 ⟨v, H1, I1, rvv, q1⟩ => thn (ho.run pins s1 σ H1 _ I1 q1) fun u s2 ⟨x, H2, I2, rx, q2⟩ => thn (hi.run pins s2 σ H2 _ I2 q2) fun iv s3 ⟨y, H3, I3, ry, a, L, k, ex, hd, hk, hno, hz, q3⟩ => ?_) hs
  subst ex
  obtain rfl : u = Value.ref a := rx
  obtain ⟨E, r, his, hn, hlen, hkeys, hl, p⟩ := dm_of I3 hd
  obtain ⟨d1, d2, d3, E0, d4, d5⟩ := hd
  have hkv := isTh_key hk ry
  have hnk : k ∉ L.map (·.1) := fun z => by
    obtain ⟨x, hx, ek⟩ := List.mem_map.mp z
    unfold look at hno
    have := List.find?_eq_none.mp (Option.map_eq_none_iff.mp hno) x hx
    simp [ek] at this
  refine put_mix hu (keyV_is I3 hkv) r his hn (by rw [hkeys]; exact hnk) (by omega) fun h' r' sb => ?_
  have he : ∃ q, h'.get? a = some q := let ⟨o', _, _, ho', _⟩ := r'; ⟨o', ho'⟩
  have tk : ∀ b xs, H3 b = some (.tup xs) → (upd H3 a (.ext (Raw X.w a (E ++ [(k, iv, rv)])))) b = some (.tup xs) := fun b xs z => by
    rw [upd_ne (ne_of z d4 (fun z => nomatch z))]
    exact z
  refine ⟨σ, upd H3 a (.ext (Raw X.w a (E ++ [(k, iv, rv)]))), d_write I3 (by rw [d4]; exact True.intro) sb he (raw_ok r'), q3 _ ⟨_, rfl⟩ ⟨d1, ?_, ?_, _, upd_same, ?_⟩⟩
  · rw [List.length_append]
    exact hz
  · rw [List.map_append, List.nodup_append]
    refine ⟨d3, by simp, fun a ha b hb => ?_⟩
    simp only [List.map_cons, List.map_nil, List.mem_singleton] at hb
    subst hb
    exact fun z => hnk (z ▸ ha)
  · exact Paired.snoc (Paired.mapP p fun x e z => ⟨z.1, z.2.1.keep tk, z.2.2⟩) ⟨rfl, hkv.keep tk, rvv⟩
end
end My

namespace My
open PySem PySem.Spec PyProof.Rows L2
/-! ### a def as it stands, and as it may be called -/
def Dfn (K : PySem.W.Frag) (mg : Str → Option Value) (x : Str) (st : Stmt) (ps : List Str) : Prop :=
  ∃ (f : Addr) (fd : FuncData), Fun K x x st f fd ∧ mg x = some (.ref f) ∧ Binds K fd ps []
structure COk (P : Program) (w : World) (K : PySem.W.Frag) (mg : Str → Option Value) (base : Heap) (CX : CXT) (x : Str) (k : Nat) (ps : List Str) (sp : Sp) : Prop where
  ex : ∃ (f : Addr) (fd : FuncData), FnOk P w K mg base CX k f fd ps sp ∧ mg x = some (.ref f) ∧ PySem.W.keepIn K (.ref f) = true ∧ Binds K fd ps []
section
variable {P : Program} {w : World} {K : PySem.W.Frag} {mg : Str → Option Value} {base : Heap}
theorem c_mk {x : Str} {st : Stmt} {N ps : List Str} {k : Nat} {sp : Sp} (D : Dfn K mg x st ps) (S : FnScope N ps (defScope st)) (len : ∀ vs H Q E, sp vs H Q E → vs.length = ps.length)
    (hbody : ∀ (f : Addr) (cdv : Value) (A : Around) (outer : List Env) (s : Shared) (H : Hp) (vs : List V) (Q : VK) (E : XK), Room k (A.deeper (envOfC x (defScope st) s.heap.objs.size f cdv)) → sp vs H Q E →
      ∃ t, PSs (cxOf CX0 P w K mg base N x (defScope st) f cdv A outer s H E).nox (defBody st) t ∧ t { nx := fun _ H' => Q .non H', rt := Q } (start N vs) H) : COk P w K mg base CX0 x (k + 1) ps sp := by
  obtain ⟨f, fd, F, m, b⟩ := D
  exact ⟨f, fd, F.ok S len fun cdv A outer s H vs Q E hr h => hbody f cdv A outer s H vs Q E hr h, m, F.kp, b⟩
theorem COk.imp {x : Str} {ps : List Str} {k : Nat} {sp sp' : Sp} (C : COk P w K mg base CX0 x k ps sp) (h : ∀ vs H Q E, sp' vs H Q E → sp vs H Q E) : COk P w K mg base CX0 x k ps sp' := by
  obtain ⟨f, fd, F, m, kp, b⟩ := C.ex
  exact ⟨f, fd, F.imp h, m, kp, b⟩
theorem COk.mono {x : Str} {ps : List Str} {j k : Nat} {sp : Sp} (C : COk P w K mg base CX0 x j ps sp) (h : j ≤ k) : COk P w K mg base CX0 x k ps sp := by
  obtain ⟨f, fd, F, m, kp, b⟩ := C.ex
  exact ⟨f, fd, F.mono h, m, kp, b⟩
end
section
variable {X : Cx}
theorem pe_c {x : Str} {k k' : Nat} {ps : List Str} {sp : Sp} {p pos : Pos} {e : Expr} {es : List Expr} {t : TA} (C : COk X.prog X.w X.K X.mg X.base CX0 x k ps sp) (hr : Room k' X.A) (hg : Gl X x) (ha : PA X (e :: es) t) (hk : k ≤ k' := by first | decide | omega)
    (hdb : (x == ("__debug__" : Str)) = false := by decide) (he : starEach (e :: es) X.env = (false, eval e X.env) :: starEach es X.env := by rfl) (hpl : (backTo pos (starEach es X.env)).any (·.1) = false := by rfl) :
    PE X (.Call (.Name x p) (e :: es) [] pos) (tCall sp [] E0 t) := by
  obtain ⟨f, fd, F, m, kp, b⟩ := C.ex
  exact pe_call F (hr.mono hk) hg m kp b .nil pass0 ha hdb he hpl
theorem pe_c0 {x : Str} {k k' : Nat} {ps : List Str} {sp : Sp} {p pos : Pos} (C : COk X.prog X.w X.K X.mg X.base CX0 x k ps sp) (hr : Room k' X.A) (hg : Gl X x) (hk : k ≤ k' := by decide)
    (hdb : (x == ("__debug__" : Str)) = false := by decide) : PE X (.Call (.Name x p) [] [] pos) (tCall sp [] E0 tNil) := by
  obtain ⟨f, fd, F, m, kp, b⟩ := C.ex
  exact pe_call0 F (hr.mono hk) hg m kp b .nil pass0 hdb
end

/-! ### methods, defs that may raise -/
def Mth (K : PySem.W.Frag) (C : Addr) (m qual : Str) (st : Stmt) (ps : List Str) : Prop := ∃ (f : Addr) (fd : FuncData), Fun K m qual st f fd ∧ Meth K C m f ∧ Binds K fd ps []
structure MOk (P : Program) (w : World) (K : PySem.W.Frag) (mg : Str → Option Value) (base : Heap) (CX : CXT) (C : Addr) (m : Str) (k : Nat) (ps : List Str) (sp : Sp) : Prop where
  ex : ∃ (f : Addr) (fd : FuncData), FnOk P w K mg base CX k f fd ps sp ∧ Meth K C m f ∧ Binds K fd ps []
section
variable {P : Program} {w : World} {K : PySem.W.Frag} {mg : Str → Option Value} {base : Heap} {x m qual : Str} {st : Stmt} {N ps : List Str} {k : Nat} {sp : Sp} {C : Addr}
theorem m_mk (D : Mth K C m qual st ps) (S : FnScope N ps (defScope st)) (len : ∀ vs H Q E, sp vs H Q E → vs.length = ps.length)
    (hbody : ∀ (f : Addr) (cdv : Value) (A : Around) (outer : List Env) (s : Shared) (H : Hp) (vs : List V) (Q : VK) (E : XK), Room k (A.deeper (envOfC qual (defScope st) s.heap.objs.size f cdv)) → sp vs H Q E →
      ∃ t, PSs (cxOf CX0 P w K mg base N qual (defScope st) f cdv A outer s H E).nox (defBody st) t ∧ t { nx := fun _ H' => Q .non H', rt := Q } (start N vs) H) : MOk P w K mg base CX0 C m (k + 1) ps sp := by
  obtain ⟨f, fd, F, h1, h2⟩ := D
  exact ⟨f, fd, F.ok S len fun cdv A outer s H vs Q E hr h => hbody f cdv A outer s H vs Q E hr h, h1, h2⟩
theorem m_mkX (D : Mth K C m qual st ps) (S : FnScope N ps (defScope st)) (len : ∀ vs H Q E, sp vs H Q E → vs.length = ps.length)
    (hbody : ∀ (f : Addr) (cdv : Value) (A : Around) (outer : List Env) (s : Shared) (H : Hp) (vs : List V) (Q : VK) (E : XK), Room k (A.deeper (envOfC qual (defScope st) s.heap.objs.size f cdv)) → sp vs H Q E →
      ∃ t, PSs (cxOf (L2.CX P w) P w K mg base N qual (defScope st) f cdv A outer s H E) (defBody st) t ∧ t { nx := fun _ H' => Q .non H', rt := Q } (start N vs) H) : MOk P w K mg base (L2.CX P w) C m (k + 1) ps sp := by
  obtain ⟨f, fd, F, h1, h2⟩ := D
  exact ⟨f, fd, F.okX S len fun cdv A outer s H vs Q E hr h => hbody f cdv A outer s H vs Q E hr h, h1, h2⟩
theorem c_mkX (D : Dfn K mg x st ps) (S : FnScope N ps (defScope st)) (len : ∀ vs H Q E, sp vs H Q E → vs.length = ps.length)
    (hbody : ∀ (f : Addr) (cdv : Value) (A : Around) (outer : List Env) (s : Shared) (H : Hp) (vs : List V) (Q : VK) (E : XK), Room k (A.deeper (envOfC x (defScope st) s.heap.objs.size f cdv)) → sp vs H Q E →
      ∃ t, PSs (cxOf (L2.CX P w) P w K mg base N x (defScope st) f cdv A outer s H E) (defBody st) t ∧ t { nx := fun _ H' => Q .non H', rt := Q } (start N vs) H) : COk P w K mg base (L2.CX P w) x (k + 1) ps sp := by
  obtain ⟨f, fd, F, h1, h2⟩ := D
  exact ⟨f, fd, F.okX S len fun cdv A outer s H vs Q E hr h => hbody f cdv A outer s H vs Q E hr h, h1, F.kp, h2⟩
end
/-- what a call in a try may let out: wished for at any slots -/
def wishLen (n : Nat) (W : WX) : XK := fun cls d H => ∀ σ : L2.St, σ.length = n → W cls d σ H
theorem passLen {X : Cx} {W : WX} (n : Nat) (tk : Takes X W) (hn : X.N.length = n) : Passes (L2.CX X.prog X.w) X (wishLen n W) := fun _ σ _ _ e s' I c =>
  tk e s' (XE.of_call I (fun _ _ _ h => h σ (I.len.trans hn)) c)
/-- what a call in a def that may raise lets out: the def's own -/
theorem passUp {X : Cx} {E : XK} (tk : Takes X (fun cls d _ H => E cls d H)) : Passes (L2.CX X.prog X.w) X E := passes_call tk fun _ _ _ _ h => h
/-! ### own exceptions -/
structure ExT (K : PySem.W.Frag) (mg : Str → Option Value) (x : Str) (C : Addr) : Prop where
  g : mg x = some (.ref C)
  q : PySem.W.excIn K C [.type "ValueError", .type "Exception", .type "BaseException", .type "object"] "ValueError.__new__" = true
  k : PySem.W.keepIn K (.ref C) = true
  b : PySem.W.subIn K (.ref C) (.type "BaseException") = some true
  t : PySem.W.typeIn K (.ref C) = some (.type "type")
/-- raise X('..') -/
theorem ps_own {X : Cx} {W : WX} {x m : Str} {C : Addr} {j : Nat} {p p2 pos pos2 : Pos} (T : ExT X.K X.mg x C) (hc : X.calm = true) (tk : Takes X W) (hg : Gl X x) (hdb : (x == ("__debug__" : Str)) = false := by decide) :
    PS X (.Raise (some (.Call (.Name x p) [.Constant (.str m) j p2] [] pos)) none pos2) (fun _ σ H => W (.ref C) none σ H) := ps_raise hc tk (pmk_own PySem.F.excBase_ValueError T.q T.g T.k (raises_own T.b T.t) hg hdb)
/-! ### a def called in an except suite with the exception that is held -/
structure FnE (P : Program) (w : World) (K : PySem.W.Frag) (mg : Str → Option Value) (base : Heap) (k : Nat) (f : Addr) (fd : FuncData) (ps : List Str) (sp : Addr × Obj → List V → Hp → VK → Prop) : Prop where
  len : ∀ p vs H Q, sp p vs H Q → vs.length = ps.length
  run : ∀ (A : Around) (outer : List Env) (s : Shared) (H : Hp) (args : Args) (us : List Value) (vs : List V) (Q : VK) (p : Addr × Obj), L2H.RoomH k A → L2H.PinOk outer H s p → Env0 P w K mg base A outer s H → BindsTo s fd args (ps.zip us) → Vals vs us →
    sp p vs H Q → codeAny (model P w) A (.call (.ref f) args) (CR CX0 outer P w H s Q E0) s
theorem fe_mk {P : Program} {w : World} {K : PySem.W.Frag} {mg : Str → Option Value} {base : Heap} {x : Str} {st : Stmt} {N ps : List Str} {k : Nat} {f : Addr} {fd : FuncData} {sp : Addr × Obj → List V → Hp → VK → Prop} (F : Fun K x x st f fd) (S : FnScope N ps (defScope st))
    (len : ∀ p vs H Q, sp p vs H Q → vs.length = ps.length)
    (hbody : ∀ (cdv : Value) (A : Around) (outer : List Env) (s : Shared) (H : Hp) (vs : List V) (Q : VK) (p : Addr × Obj), L2H.RoomH k (A.deeper (envOfC x (defScope st) s.heap.objs.size f cdv)) → sp p vs H Q →
      ∃ t, PSs (L2H.cxH CX0 P w K mg base N x (defScope st) f cdv A outer s H E0 p) (defBody st) t ∧ t { nx := fun _ H' => Q .non H', rt := Q } (start N vs) H) :
    FnE P w K mg base (k + 1) f fd ps sp := by
  obtain ⟨oc, od, kV, doc, pm, an, cdv, ct, osl, rfl, lk, hcd⟩ := F.ex
  refine ⟨len, fun A outer s H args us vs Q p hr hpin e0 hb r hsp => ?_⟩
  have hl := len _ _ _ _ hsp
  have KX : K.In s.heap := e0.mod.kin.keeps fun b o e => (e0.bs b o e).1
  have lim : s.heap.NoLimit := e0.mod.nolimit.keeps fun b o e => (e0.bs b o e).1
  have kinds : ∀ y ∈ ps.zip us, (defScope st).names.lookup y.1 = some .local ∨ ((defScope st).names.lookup y.1 = some .cell ∧ ((cellsFrom (s.heap.objs.size + 1) (defScope st).names []).lookup y.1).isSome = true) := by
    rintro ⟨n, v⟩ hy
    rcases S.par n (List.of_mem_zip hy).1 with q | q
    · exact .inl q
    · exact .inr ⟨q, PySem.W.cellsFrom_some _ _ _ (.inl q)⟩
  refine codeAny_call_function hr.depth (KX _ _ lk) rfl S.co S.gen rfl (PySem.W.codeRec_of KX hcd) (hb _ _ _ _ ?_)
  refine wpAny_newFunctionEnv_cells S.kind kinds fun env he s1 z => ?_
  subst he
  refine ⟨lim.keeps z.toInCall.keep, codeAny_func ?_⟩
  obtain ⟨t, ht, hq⟩ := hbody cdv A outer s H vs Q p (hr.deeper _) hsp
  have I := L2H.inv_startH (CX := CX0) (E := E0) (P := P) (w := w) (K := K) (mg := mg) (base := base) (qual := x) (f := f) (cd := cdv) S hpin e0 hl r z
  refine wpAny_mono (ht.run [] s1 (start N vs) H _ I hq) (fun fl s' hs => ?_) fun e s' hs => hs
  cases fl with
  | ret u => exact let ⟨v, _, H', J, rv, q⟩ := hs; ⟨v, H', J.os, J.bare, J.base, J.hok, rv, q⟩
  | next => exact let ⟨_, H', J, q⟩ := hs; ⟨V.non, H', J.os, J.bare, J.base, J.hok, rfl, q⟩
  | brk => exact let ⟨_, _, _, q⟩ := hs; False.elim q
  | cont => exact let ⟨_, _, _, q⟩ := hs; False.elim q
theorem roomSuite {k j : Nat} {A : Around} {h : Option Value} (r : Room k A) (hj : j ≤ k) : L2H.RoomH j (A.mark h) := L2H.RoomH.mono (show L2H.RoomH k (A.mark h) from ⟨r.dp, r.un⟩) hj
def tCallE (sp : Addr × Obj → List V → Hp → VK → Prop) (a : Addr) (cls : Value) (d : Option Addr) (t : TA) : TE := fun σ H Q => t σ H fun vs H1 => ∀ oe : Obj, Zc cls d oe → (∃ fv, oe.data = .fields fv) → sp (a, oe) vs H1 Q
theorem pe_ce {X : Cx} {x : Str} {k : Nat} {f : Addr} {fd : FuncData} {ps : List Str} {sp : Addr × Obj → List V → Hp → VK → Prop} {q pos : Pos} {e : Expr} {es : List Expr} {t : TA} {a : Addr} {oe : Obj} {cls : Value} {d : Option Addr} (hz : Zc cls d oe) (hf : ∃ fv, oe.data = .fields fv) (F : FnE X.prog X.w X.K X.mg X.base k f fd ps sp) (hr : L2H.RoomH k X.A) (hp : (a, oe) ∈ X.pn)
    (hg : Gl X x) (hm : X.mg x = some (.ref f)) (hk : PySem.W.keepIn X.K (.ref f) = true) (hb : Binds X.K fd ps []) (ha : PA X (e :: es) t) (hdb : (x == ("__debug__" : Str)) = false := by decide)
    (he : starEach (e :: es) X.env = (false, eval e X.env) :: starEach es X.env := by rfl) (hpl : (backTo pos (starEach es X.env)).any (·.1) = false := by rfl) :
    PE X (.Call (.Name x q) (e :: es) [] pos) (tCallE sp a cls d t) := by
  refine ⟨fun pins s σ H Q I h => ?_⟩
  refine wpAny_Call_Name_kw (ld_glob I hg hm ?_ hdb)
  refine PySem.W.callWith_K (h₀ := X.base) I.ok.mod.kin hk (thn (ha.run pos pins s σ H _ I h) fun us s1 ⟨vs, H1, J, r, q0⟩ => ⟨J.kIn, ?_⟩) he hpl
  have q1 := q0 oe hz hf
  have hl : us.length = ps.length := by rw [← r.length]; exact F.len _ _ _ _ q1
  have b := hb s1 us J.kIn (by rw [List.append_nil]; exact hl)
  rw [List.append_nil] at b
  have P1 := J.pin (a, oe) (List.mem_append_left _ hp)
  have hpin : L2H.PinOk X.stack H1 s1 (a, oe) := ⟨P1.1, P1.2.1, fun hm => (List.mem_cons.mp (J.stkSub a hm)).elim P1.2.2.1 P1.2.2.2.1, P1.2.2.2.2⟩
  refine wpAny_call (codeAny_mono (F.run X.A X.stack s1 H1 ⟨us, []⟩ us vs Q (a, oe) hr hpin J.env0 b r q1) fun r s' hq => ?_)
  cases r with
  | error e => exact False.elim hq
  | ok fl =>
    cases fl with
    | ret u => exact J.after hq
    | next => exact False.elim hq
    | brk => exact False.elim hq
    | cont => exact False.elim hq
/-- isinstance(e, c), e the exception that the context pins -/
theorem call_isP {X : Cx} {a D : Addr} {oe : Obj} (C : ExcC X.K D) (hp : (a, oe) ∈ X.pn) (hz : Zc (.ref D) none oe) (hf : ∃ vs, oe.data = .fields vs) : CallR X (.builtin "isinstance") (rIsE X.K D a) := by
  intro pins s σ H xs us Q I r h
  obtain ⟨c, cv, b, rfl, hcv, e, q⟩ := h
  obtain ⟨u1, u2, rfl, r1, r2⟩ := vals2 r
  cases r1
  have ec := hcv _ r2
  subst ec
  obtain ⟨hget, _⟩ := I.pin (a, oe) (List.mem_append_left _ hp)
  obtain ⟨vs, hv⟩ := hf
  have J : PySem.W.InstAt s.heap a oe D none := by
    obtain ⟨oc, od, oda, osl⟩ := oe
    obtain ⟨h1, h2⟩ := hz
    dsimp only at h1 h2 hv
    subst h1 h2 hv
    exact ⟨hget, rfl, rfl, trivial⟩
  exact PySem.W.kia_one (PySem.W.handS_kitx_exc C.hg C.hk C.hs C.hd C.ha C.hn C.ht C.hm) I.kIn J e (fun z => nomatch z) fun tk => ⟨.bl b, H, I.kept (t' := tk) fun _ _ z => z, rfl, q⟩
section
variable {X : Cx}
/-- a call of a def that may raise -/
theorem pe_cx {x : Str} {k k' : Nat} {ps : List Str} {sp : Sp} {p pos : Pos} {e : Expr} {es : List Expr} {t : TA} {E : XK} (C : COk X.prog X.w X.K X.mg X.base (L2.CX X.prog X.w) x k ps sp) (hx : Passes (L2.CX X.prog X.w) X E) (hr : Room k' X.A) (hg : Gl X x) (ha : PA X (e :: es) t) (hk : k ≤ k' := by first | decide | omega)
    (hdb : (x == ("__debug__" : Str)) = false := by decide) (he : starEach (e :: es) X.env = (false, eval e X.env) :: starEach es X.env := by rfl) (hpl : (backTo pos (starEach es X.env)).any (·.1) = false := by rfl) :
    PE X (.Call (.Name x p) (e :: es) [] pos) (tCall sp [] E t) := by
  obtain ⟨f, fd, F, m, kp, b⟩ := C.ex
  exact pe_call F (hr.mono hk) hg m kp b .nil hx ha hdb he hpl
end

/-! ### the text -/
def topS (i : Nat) : Stmt := PySem.Challenge.pw_twinsum_k02_ledger_gives.main.body.getD i (.Pass ⟨0, 0, 0, 0⟩)
abbrev s_is_whole : Stmt := topS 11
theorem sc_is_whole : FnScope ["thing"] ["thing"] (defScope s_is_whole) := ⟨rfl, rfl, rfl, by decide +kernel, rfl, by decide +kernel, by decide +kernel⟩
abbrev s_is_row : Stmt := topS 12
theorem sc_is_row : FnScope ["thing", "sign"] ["thing"] (defScope s_is_row) := ⟨rfl, rfl, rfl, by decide +kernel, rfl, by decide +kernel, by decide +kernel⟩
abbrev s_check_row : Stmt := topS 13
theorem sc_check_row : FnScope ["thing"] ["thing"] (defScope s_check_row) := ⟨rfl, rfl, rfl, by decide +kernel, rfl, by decide +kernel, by decide +kernel⟩
abbrev s_Ledger___init__ : Stmt := inClass (topS 15) 0
theorem sc_Ledger___init__ : FnScope ["self"] ["self"] (defScope s_Ledger___init__) := ⟨rfl, rfl, rfl, by decide +kernel, rfl, by decide +kernel, by decide +kernel⟩
abbrev s_Ledger_of_row : Stmt := inClass (topS 15) 1
theorem sc_Ledger_of_row : FnScope ["self", "row"] ["self", "row"] (defScope s_Ledger_of_row) := ⟨rfl, rfl, rfl, by decide +kernel, rfl, by decide +kernel, by decide +kernel⟩
abbrev s_Ledger_of_pair : Stmt := inClass (topS 15) 2
theorem sc_Ledger_of_pair : FnScope ["self", "one", "other"] ["self", "one", "other"] (defScope s_Ledger_of_pair) := ⟨rfl, rfl, rfl, by decide +kernel, rfl, by decide +kernel, by decide +kernel⟩
abbrev s_Ledger_what : Stmt := inClass (topS 15) 3
theorem sc_Ledger_what : FnScope ["self", "number"] ["self", "number"] (defScope s_Ledger_what) := ⟨rfl, rfl, rfl, by decide +kernel, rfl, by decide +kernel, by decide +kernel⟩
abbrev s_Ledger_many : Stmt := inClass (topS 15) 4
theorem sc_Ledger_many : FnScope ["self"] ["self"] (defScope s_Ledger_many) := ⟨rfl, rfl, rfl, by decide +kernel, rfl, by decide +kernel, by decide +kernel⟩
abbrev s_Ledger__gave_out : Stmt := inClass (topS 15) 5
theorem sc_Ledger__gave_out : FnScope ["self", "thing"] ["self", "thing"] (defScope s_Ledger__gave_out) := ⟨rfl, rfl, rfl, by decide +kernel, rfl, by decide +kernel, by decide +kernel⟩
abbrev s_Ledger__sum_of : Stmt := inClass (topS 15) 6
theorem sc_Ledger__sum_of : FnScope ["self", "thing"] ["self", "thing"] (defScope s_Ledger__sum_of) := ⟨rfl, rfl, rfl, by decide +kernel, rfl, by decide +kernel, by decide +kernel⟩
abbrev s_law_cell_at : Stmt := topS 17
theorem sc_law_cell_at : FnScope ["_law_script", "_law_k"] ["_law_script", "_law_k"] (defScope s_law_cell_at) := ⟨rfl, rfl, rfl, by decide +kernel, rfl, by decide +kernel, by decide +kernel⟩
abbrev s_law_whole : Stmt := topS 18
theorem sc_law_whole : FnScope ["_law_found"] ["_law_found"] (defScope s_law_whole) := ⟨rfl, rfl, rfl, by decide +kernel, rfl, by decide +kernel, by decide +kernel⟩
abbrev s_law_mix : Stmt := topS 19
theorem sc_law_mix : FnScope ["_law_number", "_law_k", "_law_more"] ["_law_number", "_law_k"] (defScope s_law_mix) := ⟨rfl, rfl, rfl, by decide +kernel, rfl, by decide +kernel, by decide +kernel⟩
abbrev s_law_text : Stmt := topS 20
theorem sc_law_text : FnScope ["_law_cell", "_law_signs", "_law_many", "_law_text_here", "_law_k"] ["_law_cell"] (defScope s_law_text) := ⟨rfl, rfl, rfl, by decide +kernel, rfl, by decide +kernel, by decide +kernel⟩
abbrev s_law_near : Stmt := topS 21
theorem sc_law_near : FnScope ["_law_text_here", "_law_cell", "_law_at", "_law_sign"] ["_law_text_here", "_law_cell"] (defScope s_law_near) := ⟨rfl, rfl, rfl, by decide +kernel, rfl, by decide +kernel, by decide +kernel⟩
abbrev s_law_room : Stmt := topS 22
theorem sc_law_room : FnScope ["_law_script", "_law_small", "_law_great"] ["_law_script", "_law_small", "_law_great"] (defScope s_law_room) := ⟨rfl, rfl, rfl, by decide +kernel, rfl, by decide +kernel, by decide +kernel⟩
abbrev s_law_class : Stmt := topS 23
theorem sc_law_class : FnScope ["_law_e"] ["_law_e"] (defScope s_law_class) := ⟨rfl, rfl, rfl, by decide +kernel, rfl, by decide +kernel, by decide +kernel⟩
abbrev s_law_asked : Stmt := topS 24
theorem sc_law_asked : FnScope ["_law_ledger", "_law_thing_here", "_law_e"] ["_law_ledger", "_law_thing_here"] (defScope s_law_asked) := ⟨rfl, rfl, rfl, by decide +kernel, rfl, by decide +kernel, by decide +kernel⟩
abbrev s_law_bad : Stmt := topS 25
theorem sc_law_bad : FnScope ["_law_cell", "_law_many", "_law_within", "_law_behind", "_law_row", "_law_number"] ["_law_cell", "_law_many"] (defScope s_law_bad) := ⟨rfl, rfl, rfl, by decide +kernel, rfl, by decide +kernel, by decide +kernel⟩
abbrev s_law_thing : Stmt := topS 26
theorem sc_law_thing : FnScope ["_law_things", "_law_cell", "_law_many", "_law_one", "_law_other", "_law_known", "_law_between"] ["_law_things", "_law_cell"] (defScope s_law_thing) := ⟨rfl, rfl, rfl, by decide +kernel, rfl, by decide +kernel, by decide +kernel⟩
abbrev s_law_what : Stmt := topS 27
theorem sc_law_what : FnScope ["_law_ledger", "_law_number", "_law_e"] ["_law_ledger", "_law_number"] (defScope s_law_what) := ⟨rfl, rfl, rfl, by decide +kernel, rfl, by decide +kernel, by decide +kernel⟩
abbrev s_law_same : Stmt := topS 28
theorem sc_law_same : FnScope ["_law_ledger", "_law_things", "_law_cell", "_law_many", "_law_odd", "_law_k", "_law_number", "_law_found"] ["_law_ledger", "_law_things", "_law_cell"] (defScope s_law_same) := ⟨rfl, rfl, rfl, by decide +kernel, rfl, by decide +kernel, by decide +kernel⟩
abbrev s_law : Stmt := topS 29
theorem sc_law : FnScope ["_law_script", "_law_ledgers", "_law_kept", "_law_cell", "_law_turn", "_law_things", "_law_thing_here", "_law_due", "_law_found", "_law_known"] ["_law_script"] (defScope s_law) := ⟨rfl, rfl, rfl, by decide +kernel, rfl, by decide +kernel, by decide +kernel⟩
structure Bi (mg : Str → Option Value) : Prop where
  len : mg "len" = none
  range : mg "range" = none
  isinstance : mg "isinstance" = none
  int : mg "int" = none
  bool : mg "bool" = none
  list : mg "list" = none
  tuple : mg "tuple" = none
  str : mg "str" = none
  all : mg "all" = none
  min : mg "min" = none
  ValueError : mg "ValueError" = none
structure Gb (mg : Str → Option Value) : Prop where
  SIGNS : ∃ t, mg "SIGNS" = some (.str (Str.ofString "abcdefghijklmnopqrstuvwxyz0123456789 ") t)
  LONGEST_ROW : ∃ t, mg "LONGEST_ROW" = some (.int 40 t)
/-! ### the ledger -/
theorem hu9 {A : Around} {k : Nat} (hr : Room k A) : A.units + 9 < cLine := by
  have := hr.un
  omega
/-- what may be handed in -/
inductive AnyV (H : Hp) : V → Prop
  | int (i : Int) : AnyV H (.int i)
  | bl (b : Bool) : AnyV H (.bl b)
  | str (x : Str) : x.length ≤ sizeLine → AnyV H (.str x)
  | non : AnyV H .non
  | tup {t : Addr} {xs : List V} : H t = some (.tup xs) → AnyV H (.ref t)
theorem AnyV.keep {H H' : Hp} {v : V} (t : ∀ b xs, H b = some (.tup xs) → H' b = some (.tup xs)) (h : AnyV H v) : AnyV H' v := by
  cases h with
  | int i => exact .int i
  | bl b => exact .bl b
  | str x h => exact .str x h
  | non => exact .non
  | tup h => exact .tup (t _ _ h)
def tyName : V → String
  | .int _ => "int"
  | .bl _ => "bool"
  | .str _ => "str"
  | .non => "NoneType"
  | _ => "tuple"
theorem AnyV.tyX {K : PySem.W.Frag} {H : Hp} {v : V} (h : AnyV H v) : TyX K H v (.type (tyName v)) := by
  cases h with
  | int i => exact .base (.int i)
  | bl b => exact .base (.bl b)
  | str x h => exact .base (.str x)
  | non => exact .base .non
  | tup h => exact .base (.tup h)
def wholeV : V → Bool
  | .int _ => true
  | _ => false
def intB : V → Bool
  | .int _ => true
  | .bl _ => true
  | _ => false
def boolB : V → Bool
  | .bl _ => true
  | _ => false
def strB : V → Bool
  | .str _ => true
  | _ => false
def tupB : V → Bool
  | .ref _ => true
  | _ => false
theorem kit_int {H : Hp} {v : V} (h : AnyV H v) : kitB (tyName v) "int" = some (intB v) := by
  cases h <;> simp only [tyName, intB] <;> decide +kernel
theorem kit_bool {H : Hp} {v : V} (h : AnyV H v) : kitB (tyName v) "bool" = some (boolB v) := by
  cases h <;> simp only [tyName, boolB] <;> decide +kernel
theorem kit_str {H : Hp} {v : V} (h : AnyV H v) : kitB (tyName v) "str" = some (strB v) := by
  cases h <;> simp only [tyName, strB] <;> decide +kernel
theorem kit_tup {H : Hp} {v : V} (h : AnyV H v) : kitB (tyName v) "tuple" = some (tupB v) := by
  cases h <;> simp only [tyName, tupB] <;> decide +kernel
theorem kit_list {H : Hp} {v : V} (h : AnyV H v) : kitB (tyName v) "list" = some false := by
  cases h <;> simp only [tyName] <;> decide +kernel
theorem whole_eq {H : Hp} {v : V} (h : AnyV H v) : (intB v && !boolB v) = wholeV v := by
  cases h <;> rfl
def signS : Str := Str.ofString "abcdefghijklmnopqrstuvwxyz0123456789 "
/-- is it a row -/
def rowStr (x : Str) : Bool := decide (x.length ≤ 40) && x.cps.toList.all fun c => decide (c ∈ signS.cps.toList)
def rowV : V → Bool
  | .str x => rowStr x
  | _ => false
def spIsWhole : Sp := fun vs H Q _ => ∃ v, vs = [v] ∧ AnyV H v ∧ Q (.bl (wholeV v)) H
def spIsRow : Sp := fun vs H Q _ => ∃ v, vs = [v] ∧ AnyV H v ∧ ∀ H', Same H H' → Q (.bl (rowV v)) H'
def spCheckRow (cR : Addr) : Sp := fun vs H Q E => ∃ v, vs = [v] ∧ AnyV H v ∧ (rowV v = true → ∀ H', Same H H' → Q .non H') ∧ (rowV v = false → ∀ H', Same H H' → E (.ref cR) none H')
section
variable {P : Program} {w : World} {K : PySem.W.Frag} {mg : Str → Option Value} {base : Heap} {cR : Addr}
theorem ok_is_whole (D : Dfn K mg "is_whole" s_is_whole ["thing"]) (B : Bi mg) : COk P w K mg base CX0 "is_whole" 1 ["thing"] spIsWhole := by
  refine c_mk D sc_is_whole (fun vs H Q E h => ?_) (fun f cdv A outer s H vs Q E hr h => ?_)
  · obtain ⟨v, rfl, _⟩ := h
    rfl
  · obtain ⟨v, rfl, hv, q⟩ := h
    refine ⟨_, (pss_one (ps_ret (pe_and (pe_callB (id := "isinstance") call_isi (by rfl) B.isinstance (by decide +kernel) (pa_cons (pv 0) (pa_cons (pe_bltn (v := .ty "int") (u := .type "int") (by rfl) B.int (by decide +kernel) rfl) pa_nil))) (pe_one (pe_not (pe_callB (id := "isinstance") call_isi (by rfl) B.isinstance (by decide +kernel) (pa_cons (pv 0) (pa_cons (pe_bltn (v := .ty "bool") (u := .type "bool") (by rfl) B.bool (by decide +kernel) rfl) pa_nil)))))))), ?_⟩
    refine ⟨_, rfl, v, .ty "int", _, _, intB v, rfl, .ty "int", hv.tyX, kit_ty (kit_int hv), intB v, rfl, ?_⟩
    rw [← whole_eq hv] at q
    cases hi : intB v with
    | false =>
      rw [hi] at q
      exact iteF q
    | true =>
      rw [hi] at q
      refine iteT ?_
      refine ⟨_, rfl, v, .ty "bool", _, _, boolB v, rfl, .ty "bool", hv.tyX, kit_ty (kit_bool hv), boolB v, rfl, ?_⟩
      exact q
theorem yes_of {σ : L2.St} {H : Hp} {Q : Bool → Hp → Prop} (h : Q true H) : tYes σ H Q := h
theorem take_all {α : Type} {p : α → Bool} {l : List α} {i : Nat} {x : α} (h : l[i]? = some x) : (l.take (i + 1)).map p = (l.take i).map p ++ [p x] := by
  rw [List.take_add_one, h, List.map_append]
  rfl
theorem ok_is_row (D : Dfn K mg "is_row" s_is_row ["thing"]) (B : Bi mg) (M : Gb mg) : COk P w K mg base CX0 "is_row" 1 ["thing"] spIsRow := by
  obtain ⟨tS, mSIGNS⟩ := M.SIGNS
  obtain ⟨tL, mLONGEST_ROW⟩ := M.LONGEST_ROW
  refine c_mk D sc_is_row (fun vs H Q E h => ?_) (fun f cdv A outer s H vs Q E hr h => ?_)
  · obtain ⟨v, rfl, _⟩ := h
    rfl
  · obtain ⟨v, rfl, hv, q⟩ := h
    refine ⟨_, (pss_cons (ps_if ((pw_or (pt_not (pt_val (pe_callB (id := "isinstance") call_isi (by rfl) B.isinstance (by decide +kernel) (pa_cons (pv 0) (pa_cons (pe_bltn (v := .ty "str") (u := .type "str") (by rfl) B.str (by decide +kernel) rfl) pa_nil))))) (pw_or1 (pt_cmpR op_gt (pe_callB (id := "len") call_len_str (by rfl) B.len (by decide +kernel) (pa_cons (pv 0) pa_nil)) (pe_glob (v := .int 40) (by rfl) mLONGEST_ROW ⟨_, rfl⟩) (nomark _))))).pt (pss_one (ps_ret pe_bl)) pss_nil)
      (pss_one (ps_ret (pe_callB (id := "all") (cr_all rfl) (by rfl) B.all (by decide +kernel) (pa_cons (pe_lc (own := [("sign", 1)]) (g := gName 1) rfl sc_is_row.nd (pi_str (pv 0)) (blkOk_by (N := ["thing", "sign"]) (sc := defScope s_is_row) (by decide +kernel)) (fun _ _ _ _ _ => pg_name (i := 1) sc_is_row.nd rfl (Or.inl rfl)) (fun _ _ _ _ _ => pts_nil) (fun _ _ _ _ _ => (pe_cmpR op_in_sign (pv 1) (pe_glob (v := .str (Str.ofString "abcdefghijklmnopqrstuvwxyz0123456789 ")) (by rfl) mSIGNS ⟨_, rfl⟩) (by with_unfolding_all rfl)))) pa_nil))))), ?_⟩
    refine ⟨_, rfl, v, .ty "str", _, _, strB v, rfl, .ty "str", hv.tyX, kit_ty (kit_str hv), strB v, rfl, ?_⟩
    cases hv with
    | str x hx =>
      refine iteF ?_
      refine ⟨_, rfl, x, rfl, hx, (x.length : Int), 40, rfl, rfl, _, rfl, ite2 (fun e => ?_) (fun e => ?_)⟩
      · have h1 : ¬ x.length ≤ 40 := by
          have := of_decide_eq_true e
          omega
        have e2 : rowV (.str x) = false := by
          show (decide (x.length ≤ 40) && _) = false
          rw [decide_eq_false h1]
          rfl
        rw [e2] at q
        exact q H fun _ _ h => h
      · have h1 : x.length ≤ 40 := by
          have : ¬ (40 : Int) < (x.length : Int) := fun z => e (decide_eq_true z)
          omega
        have e2 : rowV (.str x) = (x.cps.toList.all fun c => decide (c ∈ signS.cps.toList)) := by
          show (decide (x.length ≤ 40) && _) = _
          rw [decide_eq_true h1]
          rfl
        refine ⟨_, rfl, x, rfl, fun Dl hD => ?_⟩
        refine lc_it (walk_str (z := x)) (fun i H' => Same H H' ∧ H' Dl = some (.lst (((x.cps.toList.take i).map fun c => decide (c ∈ signS.cps.toList)).map V.bl))) ⟨?_, upd_same⟩ (fun _ _ _ _ => trivial) ?_ ?_
        · intro b o e
          rw [upd_ne (ne_of_none e hD)]
          exact e
        · rintro i _ H' _ hi ⟨sm, hl⟩ ⟨rfl, c, hc, rfl⟩
          refine ⟨rfl, ?_⟩
          refine yes_of ?_
          refine iteT ?_
          refine ⟨_, rfl, c, signS, rfl, rfl, _, hl, ?_, ?_, ?_⟩
          · rw [List.length_map, List.length_map, List.length_take]
            have : x.length = x.cps.toList.length := by simp [Str.length]
            exact Nat.lt_of_le_of_lt (Nat.min_le_left _ _) (Nat.lt_of_lt_of_le (show i < 100 by
              have h3 : i < x.cps.size := hi
              have h4 : x.length = x.cps.size := rfl
              omega) (by decide))
          · intro b o e
            have nb : b ≠ Dl := ne_of_none e hD
            rw [upd_ne nb]
            exact sm b o e
          · have hc' : x.cps.toList[i]? = some c := by rw [Array.getElem?_toList]; exact hc
            rw [upd_same, take_all hc', List.map_append]
            rfl
        · rintro H' ⟨sm, hl⟩
          have e3 : x.cps.toList.take x.cps.size = x.cps.toList := List.take_of_length_le (by simp)
          rw [e3] at hl
          refine ⟨Dl, _, rfl, SqL.of hl, ?_⟩
          rw [List.all_map]
          rw [e2] at q
          exact q H' sm
    | int i => exact iteT (q H fun _ _ h => h)
    | bl i => exact iteT (q H fun _ _ h => h)
    | non => exact iteT (q H fun _ _ h => h)
    | tup ht => exact iteT (q H fun _ _ h => h)
theorem ok_check_row (D : Dfn K mg "check_row" s_check_row ["thing"]) (X_NoRow : ExT K mg "NoRow" cR) (C_is_row : COk P w K mg base CX0 "is_row" 1 ["thing"] spIsRow) : COk P w K mg base (L2.CX P w) "check_row" 2 ["thing"] (spCheckRow cR) := by
  refine c_mkX D sc_check_row (fun vs H Q E h => ?_) (fun f cdv A outer s H vs Q E hr h => ?_)
  · obtain ⟨v, rfl, _⟩ := h
    rfl
  · obtain ⟨v, rfl, hv, q1, q2⟩ := h
    refine ⟨_, (pss_one (ps_if (pt_not (pt_val (pe_c C_is_row hr (by rfl) (pa_cons (pv 0) pa_nil)))) (pss_one (ps_own X_NoRow rfl (takes_of rfl rfl rfl rfl) (by rfl))) pss_nil)), ?_⟩
    refine ⟨_, rfl, v, rfl, hv, fun H' sm => ⟨_, rfl, ?_⟩⟩
    cases hb : rowV v with
    | false => exact iteT (q2 hb H' sm)
    | true => exact iteF (q1 hb H' sm)
end

/-! ### the ledger's object -/
def numb (L : List Th) : List (Th × V) := L.zipIdx.map fun x => (x.1, V.int ((x.2 : Nat) : Int))
theorem numb_keys (L : List Th) : (numb L).map (·.1) = L := by
  unfold numb
  rw [List.map_map]
  exact List.zipIdx_map_fst 0 L
theorem numb_len (L : List Th) : (numb L).length = L.length := by
  unfold numb
  rw [List.length_map, List.length_zipIdx]
theorem numb_snoc (L : List Th) (t : Th) : numb (L ++ [t]) = numb L ++ [(t, .int (L.length : Int))] := by
  unfold numb
  rw [List.zipIdx_append, List.map_append]
  simp
theorem look_numb (L : List Th) (t : Th) : look (numb L) t = if t ∈ L then some (.int ((L.idxOf t : Nat) : Int)) else none := by
  have go : ∀ (l : List Th) (n : Nat), look ((l.zipIdx n).map fun x => (x.1, V.int ((x.2 : Nat) : Int))) t = if t ∈ l then some (.int ((n + l.idxOf t : Nat) : Int)) else none := by
    intro l
    induction l with
    | nil => intro n; rfl
    | cons a l ih =>
      intro n
      rw [List.zipIdx_cons, List.map_cons]
      unfold look at ih ⊢
      rw [List.find?_cons]
      by_cases h : a = t
      · subst h
        rw [decide_eq_true rfl, if_pos List.mem_cons_self, List.idxOf_cons_self]
        rfl
      · rw [decide_eq_false h]
        show Option.map _ (List.find? _ _) = _
        rw [ih (n + 1)]
        have e1 : t ∈ a :: l ↔ t ∈ l := by
          rw [List.mem_cons]
          exact ⟨fun z => z.elim (fun z => absurd z.symm h) id, .inr⟩
        have e2 : (a :: l).idxOf t = l.idxOf t + 1 := by
          rw [List.idxOf_cons, show (a == t) = false from beq_false_of_ne h]
          rfl
        by_cases hm : t ∈ l
        · rw [if_pos hm, if_pos (e1.mpr hm), e2, show n + 1 + l.idxOf t = n + (l.idxOf t + 1) by omega]
        · rw [if_neg hm, if_neg fun z => hm (e1.mp z)]
  have h := go L 0
  rw [Nat.zero_add] at h
  exact h
/-- what is given out behind asking for t -/
def give (L : List Th) (t : Th) : List Th := if t ∈ L then L else L ++ [t]
/-- its number -/
def numOf (L : List Th) (t : Th) : Nat := (give L t).idxOf t
theorem give_mem (L : List Th) (t : Th) : t ∈ give L t := by
  unfold give
  by_cases h : t ∈ L
  · rw [if_pos h]
    exact h
  · rw [if_neg h]
    simp
theorem give_len (L : List Th) (t : Th) : (give L t).length ≤ L.length + 1 := by
  unfold give
  by_cases h : t ∈ L
  · rw [if_pos h]
    omega
  · rw [if_neg h, List.length_append]
    exact Nat.le_refl _
theorem numOf_new {L : List Th} {t : Th} (h : t ∉ L) : numOf L t = L.length := by
  unfold numOf give
  rw [if_neg h, List.idxOf_append, if_neg h]
  simp
theorem numOf_old {L : List Th} {t : Th} (h : t ∈ L) : numOf L t = L.idxOf t := by
  unfold numOf give
  rw [if_pos h]
/-- nothing but the objects at d and l has changed -/
def Keep (H H' : Hp) (d l : Addr) : Prop := ∀ b o, H b = some o → b ≠ d → b ≠ l → H' b = some o
theorem Keep.refl (H : Hp) (d l : Addr) : Keep H H d l := fun _ _ h _ _ => h
theorem Keep.trans {H H1 H2 : Hp} {d l : Addr} (a : Keep H H1 d l) (b : Keep H1 H2 d l) : Keep H H2 d l := fun c o h h1 h2 => b c o (a c o h h1 h2) h1 h2
theorem Same.keep {H H' : Hp} (s : Same H H') (d l : Addr) : Keep H H' d l := fun b o h _ _ => s b o h
/-- a ledger stands at p, its dict at d, its list at l; it gave out the sums of L -/
structure LedAt (w : World) (C : Addr) (H : Hp) (p d l : Addr) (L : List Th) : Prop where
  ob : ∃ (dx : Addr) (fs : List (Str × V)), H p = some (.ins C dx fs) ∧ fs.lookup ("_sums" : Str) = some (V.ref d) ∧ fs.lookup ("_told" : Str) = some (V.ref l) ∧ ∀ m : Str, m ≠ "_sums" → m ≠ "_told" → fs.lookup m = none
  dm : DM w H d (numb L)
  tl : ∃ vs, H l = some (.lst vs) ∧ Paired (IsTh H) L vs
section
variable {w : World} {C : Addr} {H H' : Hp} {p d l : Addr} {L : List Th}
theorem LedAt.nd (h : LedAt w C H p d l L) : L.Nodup := by
  have := h.dm.2.2.1
  rw [numb_keys] at this
  exact this
theorem LedAt.dl (h : LedAt w C H p d l L) : d ≠ l := by
  obtain ⟨_, _, _, E, e, _⟩ := h.dm
  obtain ⟨vs, e2, _⟩ := h.tl
  exact ne_of e e2 (by intro z; cases z)
theorem LedAt.pd (h : LedAt w C H p d l L) : p ≠ d := by
  obtain ⟨_, _, _, E, e, _⟩ := h.dm
  obtain ⟨_, _, e2, _⟩ := h.ob
  exact ne_of e2 e (by intro z; cases z)
theorem LedAt.pl (h : LedAt w C H p d l L) : p ≠ l := by
  obtain ⟨vs, e, _⟩ := h.tl
  obtain ⟨_, _, e2, _⟩ := h.ob
  exact ne_of e2 e (by intro z; cases z)
/-- the tuples stay where d and l alone change -/
theorem Keep.tups (k : Keep H H' d l) {o u : HO} (hd : H d = some o) (ho : ∀ xs, o ≠ .tup xs) (hl : H l = some u) (hu : ∀ xs, u ≠ .tup xs) : ∀ b xs, H b = some (.tup xs) → H' b = some (.tup xs) := fun b xs e =>
  k b _ e (ne_of e hd fun z => ho xs z.symm) (ne_of e hl fun z => hu xs z.symm)
theorem LedAt.tups (h : LedAt w C H p d l L) (k : Keep H H' d l) : ∀ b xs, H b = some (.tup xs) → H' b = some (.tup xs) := by
  obtain ⟨_, _, _, E, e, _⟩ := h.dm
  obtain ⟨vs, e2, _⟩ := h.tl
  exact k.tups e (fun _ z => nomatch z) e2 (fun _ z => nomatch z)
/-- it stands as it was where none of it has changed -/
theorem LedAt.same (h : LedAt w C H p d l L) (s : Same H H') : LedAt w C H' p d l L := by
  obtain ⟨⟨dx, fs, h1, h2⟩, hd, vs, h3, h4⟩ := h
  have ⟨_, _, _, E, e, _⟩ := hd
  have t : ∀ b xs, H b = some (.tup xs) → H' b = some (.tup xs) := fun b xs z => s b _ z
  exact ⟨⟨dx, fs, s _ _ h1, h2⟩, hd.keep ((s _ _ e).trans e.symm) t, vs, s _ _ h3, Paired.mapP h4 fun _ _ z => z.keep t⟩
/-- the same where another ledger's dict and list have changed -/
theorem LedAt.other {d' l' : Addr} (h : LedAt w C H p d l L) (k : Keep H H' d' l') (h1 : d ≠ d') (h2 : d ≠ l') (h3 : l ≠ d') (h4 : l ≠ l') (h5 : p ≠ d') (h6 : p ≠ l') (t : ∀ b xs, H b = some (.tup xs) → H' b = some (.tup xs)) : LedAt w C H' p d l L := by
  obtain ⟨⟨dx, fs, e1, e2⟩, hd, vs, e3, e4⟩ := h
  have ⟨_, _, _, E, e, _⟩ := hd
  exact ⟨⟨dx, fs, k _ _ e1 h5 h6, e2⟩, hd.keep ((k _ _ e h1 h2).trans e.symm) t, vs, k _ _ e3 h3 h4, Paired.mapP e4 fun _ _ z => z.keep t⟩
end
theorem pair_at {α β : Type} {F : α → β → Prop} {xs : List α} {ys : List β} (h : Paired F xs ys) {i : Nat} {x : α} (hx : xs[i]? = some x) : ∃ y, ys[i]? = some y ∧ F x y := by
  induction h generalizing i with
  | nil => simp at hx
  | @cons a b l m hf _ ih =>
    cases i with
    | zero =>
      have e : a = x := Option.some.inj hx
      exact ⟨b, rfl, e ▸ hf⟩
    | succ i => exact ih hx
/-- the class as the top has made it -/
structure TLed (K : PySem.W.Frag) (mg : Str → Option Value) (C : Addr) : Prop where
  cl : Cls K C
  nS : NoAttr K C "_sums"
  nT : NoAttr K C "_told"
  g : mg "Ledger" = some (.ref C)
/-! ### its promises -/
def spInit (w : World) (C : Addr) : Sp := fun vs H Q _ => ∃ (p dx : Addr), vs = [.ref p] ∧ H p = some (.ins C dx []) ∧ ∀ (d l : Addr) (H' : Hp), H d = none → H l = none → LedAt w C H' p d l [] → (∀ b o, H b = some o → b ≠ p → H' b = some o) → Q .non H'
def spSum (w : World) (C : Addr) : Sp := fun vs H Q _ => ∃ (p d l : Addr) (L : List Th) (t : Th) (y : V), vs = [.ref p, y] ∧ LedAt w C H p d l L ∧ IsTh H t y ∧ L.length < 1000000 ∧
  ∀ H', Keep H H' d l → LedAt w C H' p d l (give L t) → Q (.int ((numOf L t : Nat) : Int)) H'
/-- which number it is, if it is one that was given out -/
def gaveV (L : List Th) : V → Option Nat
  | .int i => if 0 ≤ i ∧ i < L.length then some i.toNat else none
  | _ => none
def spGave (w : World) (C : Addr) : Sp := fun vs H Q _ => ∃ (p d l : Addr) (L : List Th) (y : V), vs = [.ref p, y] ∧ LedAt w C H p d l L ∧ AnyV H y ∧ L.length < 1000000 ∧ Q (.bl (gaveV L y).isSome) H
def spMany (w : World) (C : Addr) : Sp := fun vs H Q _ => ∃ (p d l : Addr) (L : List Th), vs = [.ref p] ∧ LedAt w C H p d l L ∧ Q (.int (L.length : Int)) H
def spOfRow (w : World) (C cR : Addr) : Sp := fun vs H Q E => ∃ (p d l : Addr) (L : List Th) (y : V), vs = [.ref p, y] ∧ LedAt w C H p d l L ∧ AnyV H y ∧ L.length < 1000000 ∧
  (∀ x, y = .str x → rowStr x = true → ∀ H', Keep H H' d l → LedAt w C H' p d l (give L (.row x)) → Q (.int ((numOf L (.row x) : Nat) : Int)) H') ∧ (rowV y = false → ∀ H', Same H H' → E (.ref cR) none H')
def spOfPair (w : World) (C cS : Addr) : Sp := fun vs H Q E => ∃ (p d l : Addr) (L : List Th) (y z : V), vs = [.ref p, y, z] ∧ LedAt w C H p d l L ∧ AnyV H y ∧ AnyV H z ∧ L.length < 1000000 ∧
  (∀ i j : Nat, gaveV L y = some i → gaveV L z = some j → ∀ H', Keep H H' d l → LedAt w C H' p d l (give L (.pair i j)) → Q (.int ((numOf L (.pair i j) : Nat) : Int)) H') ∧ ((gaveV L y = none ∨ gaveV L z = none) → E (.ref cS) none H)
def spWhat (w : World) (C cS : Addr) : Sp := fun vs H Q E => ∃ (p d l : Addr) (L : List Th) (y : V), vs = [.ref p, y] ∧ LedAt w C H p d l L ∧ AnyV H y ∧ L.length < 1000000 ∧
  (∀ i t v, gaveV L y = some i → L[i]? = some t → IsTh H t v → Q v H) ∧ (gaveV L y = none → E (.ref cS) none H)
theorem gave_out {L : List Th} {i : Int} (h : ¬ (0 ≤ i ∧ i < (L.length : Int))) : gaveV L (.int i) = none := if_neg h
theorem gave_some {L : List Th} {y : V} {i : Nat} (h : gaveV L y = some i) : y = .int (i : Int) ∧ i < L.length := by
  unfold gaveV at h
  split at h
  · split at h
    · rename_i j hj
      have e := Option.some.inj h
      constructor
      · rw [← e, Int.toNat_of_nonneg hj.1]
      · omega
    · cases h
  · cases h
section
variable {P : Program} {w : World} {K : PySem.W.Frag} {mg : Str → Option Value} {base : Heap} {C cR cS : Addr}
theorem ok_init (D : Mth K C "__init__" "Ledger.__init__" s_Ledger___init__ ["self"]) (T_Ledger : TLed K mg C) : MOk P w K mg base CX0 C "__init__" 1 ["self"] (spInit w C) := by
  refine m_mk D sc_Ledger___init__ (fun vs H Q E h => ?_) (fun f cdv A outer s H vs Q E hr h => ?_)
  · obtain ⟨p, dx, rfl, _⟩ := h
    rfl
  · obtain ⟨p, dx, rfl, hp, q⟩ := h
    refine ⟨_, (pss_cons (ps_fld (pv 0) pe_newM rfl)
      (pss_one (ps_fld (pv 0) (pe_lst pa_nil) rfl))), ?_⟩
    refine fun d hd hdm => ?_
    have npd : p ≠ d := ne_of_none hp hd
    refine ⟨_, rfl, p, C, dx, [], rfl, (by rw [upd_ne npd]; exact hp), T_Ledger.cl, T_Ledger.nS, (by show 0 < 1000; decide), ?_⟩
    refine ⟨Nat.zero_le _, fun l hl => ?_⟩
    have npl : p ≠ l := by
      intro z
      rw [← z, upd_same] at hl
      cases hl
    have ndl : d ≠ l := by
      intro z
      rw [← z, upd_ne npd.symm, upd_same] at hl
      cases hl
    refine ⟨_, rfl, p, C, dx, _, rfl, (by rw [upd_ne npl, upd_same]), T_Ledger.cl, T_Ledger.nT, (by show 1 < 1000; decide), ?_⟩
    refine q d l _ hd ?_ ⟨⟨dx, _, upd_same, ?_, ?_, ?_⟩, ?_, [], ?_, .nil⟩ ?_
    · rw [upd_ne npl.symm, upd_ne ndl.symm] at hl
      exact hl
    · rw [lookup_putF, if_neg (by decide +kernel), lookup_putF, if_pos rfl]
    · rw [lookup_putF, if_pos rfl]
    · intro m h1 h2
      rw [lookup_putF, if_neg h2, lookup_putF, if_neg h1]
      rfl
    · refine hdm.keep ?_ fun b xs e => ?_
      · rw [upd_ne npd.symm, upd_ne ndl, upd_ne npd.symm]
      · have h1 : b ≠ d := by
          intro z
          rw [z, upd_same] at e
          cases e
        rw [upd_ne h1] at e
        have h2 : b ≠ p := ne_of e hp (by intro z; cases z)
        have h3 : b ≠ l := by
          intro z
          rw [← z, upd_ne h2, upd_ne h1] at hl
          rw [e] at hl
          cases hl
        rw [upd_ne h2, upd_ne h3, upd_ne h2, upd_ne h1]
        exact e
    · rw [upd_ne npl.symm, upd_same]
    · intro b o e hb
      have h1 : b ≠ d := ne_of_none e hd
      have h3 : b ≠ l := by
        intro z
        rw [← z, upd_ne hb, upd_ne h1] at hl
        rw [e] at hl
        cases hl
      rw [upd_ne hb, upd_ne h3, upd_ne hb, upd_ne h1]
      exact e
theorem ok_sum (D : Mth K C "_sum_of" "Ledger._sum_of" s_Ledger__sum_of ["self", "thing"]) (T_Ledger : TLed K mg C) (B : Bi mg) : MOk P w K mg base CX0 C "_sum_of" 1 ["self", "thing"] (spSum w C) := by
  refine m_mk D sc_Ledger__sum_of (fun vs H Q E h => ?_) (fun f cdv A outer s H vs Q E hr h => ?_)
  · obtain ⟨p, d, l, L, t, y, rfl, _⟩ := h
    rfl
  · obtain ⟨p, d, l, L, t, y, rfl, hL, ht, hlen, q⟩ := h
    refine ⟨_, (pss_cons (ps_if (pt_cmp (pc_notInM (hu9 hr) (pv 1) (pe_fld (pv 0) rfl))) (pss_cons (ps_putM (hu9 hr) (pe_fld (pv 0) rfl) (pv 1) (pe_callB (id := "len") call_len_seq (by rfl) B.len (by decide +kernel) (pa_cons (pe_fld (pv 0) rfl) pa_nil)) rfl)
      (pss_one (ps_expr (pe_bm PySem.F.plainAttrs_list PySem.F.slot_list_append PySem.F.type_list_append mt_append (pe_fld (pv 0) rfl) (pa_cons (pv 1) pa_nil))))) pss_nil)
      (pss_one (ps_ret (pe_getM (hu9 hr) (pe_fld (pv 0) rfl) (pv 1) (fun _ _ => rfl))))), ?_⟩
    obtain ⟨dx, fs, hp, hfS, hfT, hno⟩ := hL.ob
    obtain ⟨vs, hl, hvs⟩ := hL.tl
    have hlv : vs.length = L.length := (Paired.length hvs).symm
    refine ⟨_, rfl, _, rfl, p, C, dx, fs, _, rfl, hp, T_Ledger.cl, T_Ledger.nS, hfS, d, numb L, t, rfl, hL.dm, ht, _, rfl, ?_⟩
    rw [look_numb]
    by_cases hm : t ∈ L
    · rw [if_pos hm]
      refine iteF ?_
      refine ⟨_, rfl, p, C, dx, fs, _, rfl, hp, T_Ledger.cl, T_Ledger.nS, hfS, _, rfl, d, numb L, t, .int ((L.idxOf t : Nat) : Int), rfl, hL.dm, ht, ?_, ?_⟩
      · rw [look_numb, if_pos hm]
      · have e := q H (Keep.refl H d l)
        unfold give at e
        rw [if_pos hm, numOf_old hm] at e
        exact e hL
    · rw [if_neg hm]
      refine iteT ?_
      -- self._sums[thing] = len(self._told)
      refine ⟨_, rfl, p, C, dx, fs, _, rfl, hp, T_Ledger.cl, T_Ledger.nT, hfT, l, vs, rfl, .inl (SqL.of hl), ?_⟩
      refine ⟨_, rfl, p, C, dx, fs, _, rfl, hp, T_Ledger.cl, T_Ledger.nS, hfS, _, rfl, d, numb L, t, rfl, hL.dm, ht, ?_, ?_, fun H4 hE hdm => ?_⟩
      · rw [look_numb, if_neg hm]
      · rw [numb_len]
        exact Nat.lt_of_lt_of_le hlen (by decide)
      obtain ⟨E4, rfl⟩ := hE
      have npd := hL.pd
      have npl := hL.pl
      have ndl := hL.dl
      have hp4 : ∀ o, (upd H d o) p = some (.ins C dx fs) := fun o => by rw [upd_ne npd]; exact hp
      have hl4 : ∀ o, (upd H d o) l = some (.lst vs) := fun o => by rw [upd_ne ndl.symm]; exact hl
      rw [hlv, ← numb_snoc] at hdm
      -- self._told.append(thing)
      refine ⟨_, rfl, p, C, dx, fs, _, rfl, hp4 _, T_Ledger.cl, T_Ledger.nT, hfT, .inl ⟨rfl, _, SqL.of (hl4 _)⟩, _, rfl, l, vs, y, rfl, rfl, hl4 _, ?_, ?_⟩
      · rw [hlv]
        exact Nat.lt_of_lt_of_le hlen (by decide)
      -- return self._sums[thing]
      have hk : ∀ b o, H b = some o → b ≠ d → b ≠ l → (upd (upd H d (.ext (Raw w d E4))) l (.lst (vs ++ [y]))) b = some o := fun b o e h1 h2 => by
        rw [upd_ne h2, upd_ne h1]
        exact e
      have tk := hL.tups hk
      have tk4 : ∀ b xs, (upd H d (.ext (Raw w d E4))) b = some (.tup xs) → (upd (upd H d (.ext (Raw w d E4))) l (.lst (vs ++ [y]))) b = some (.tup xs) := fun b xs e => by
        rw [upd_ne (ne_of e (hl4 _) (by intro z; cases z))]
        exact e
      have hdm5 := hdm.keep (H' := upd (upd H d (.ext (Raw w d E4))) l (.lst (vs ++ [y]))) (upd_ne ndl) tk4
      have hp5 : (upd (upd H d (.ext (Raw w d E4))) l (.lst (vs ++ [y]))) p = some (.ins C dx fs) := by
        rw [upd_ne npl]
        exact hp4 _
      have ht5 := ht.keep tk
      refine ⟨_, rfl, p, C, dx, fs, _, rfl, hp5, T_Ledger.cl, T_Ledger.nS, hfS, _, rfl, d, numb (L ++ [t]), t, .int ((numOf L t : Nat) : Int), rfl, hdm5, ht5, ?_, ?_⟩
      · rw [look_numb, if_pos (by simp)]
        unfold numOf give
        rw [if_neg hm]
      · refine q _ hk ?_
        unfold give
        rw [if_neg hm]
        exact ⟨⟨dx, fs, hp5, hfS, hfT, hno⟩, hdm5, _, upd_same, Paired.snoc (Paired.mapP hvs fun _ _ z => z.keep tk) ht5⟩
theorem ok_many (D : Mth K C "many" "Ledger.many" s_Ledger_many ["self"]) (T_Ledger : TLed K mg C) (B : Bi mg) : MOk P w K mg base CX0 C "many" 1 ["self"] (spMany w C) := by
  refine m_mk D sc_Ledger_many (fun vs H Q E h => ?_) (fun f cdv A outer s H vs Q E hr h => ?_)
  · obtain ⟨p, d, l, L, rfl, _⟩ := h
    rfl
  · obtain ⟨p, d, l, L, rfl, hL, q⟩ := h
    refine ⟨_, (pss_one (ps_ret (pe_callB (id := "len") call_len_seq (by rfl) B.len (by decide +kernel) (pa_cons (pe_fld (pv 0) rfl) pa_nil)))), ?_⟩
    obtain ⟨dx, fs, hp, hfS, hfT, hno⟩ := hL.ob
    obtain ⟨vs, hl, hvs⟩ := hL.tl
    refine ⟨_, rfl, p, C, dx, fs, _, rfl, hp, T_Ledger.cl, T_Ledger.nT, hfT, l, vs, rfl, .inl (SqL.of hl), ?_⟩
    rw [← Paired.length hvs]
    exact q
theorem ok_gave (D : Mth K C "_gave_out" "Ledger._gave_out" s_Ledger__gave_out ["self", "thing"]) (T_Ledger : TLed K mg C) (B : Bi mg) (C_is_whole : COk P w K mg base CX0 "is_whole" 1 ["thing"] spIsWhole) : MOk P w K mg base CX0 C "_gave_out" 2 ["self", "thing"] (spGave w C) := by
  refine m_mk D sc_Ledger__gave_out (fun vs H Q E h => ?_) (fun f cdv A outer s H vs Q E hr h => ?_)
  · obtain ⟨p, d, l, L, y, rfl, _⟩ := h
    rfl
  · obtain ⟨p, d, l, L, y, rfl, hL, hy, hlen, q⟩ := h
    refine ⟨_, (pss_one (ps_ret (pe_and (pe_c C_is_whole hr (by rfl) (pa_cons (pv 1) pa_nil)) (pe_one (pe_chain op_le op_lt pe_int (pv 1) (pe_callB (id := "len") call_len_seq (by rfl) B.len (by decide +kernel) (pa_cons (pe_fld (pv 0) rfl) pa_nil))))))), ?_⟩
    obtain ⟨dx, fs, hp, hfS, hfT, hno⟩ := hL.ob
    obtain ⟨vs, hl, hvs⟩ := hL.tl
    refine ⟨_, rfl, y, rfl, hy, wholeV y, rfl, ?_⟩
    cases hy with
    | int i =>
      refine iteT ?_
      refine ⟨_, rfl, 0, i, rfl, rfl, _, rfl, ite2 (fun e => ?_) (fun e => ?_)⟩
      · have h0 := of_decide_eq_true e
        refine ⟨_, rfl, p, C, dx, fs, _, rfl, hp, T_Ledger.cl, T_Ledger.nT, hfT, l, vs, rfl, .inl (SqL.of hl), i, _, rfl, rfl, ?_⟩
        rw [← Paired.length hvs]
        by_cases h1 : i < (L.length : Int)
        · have e1 : gaveV L (.int i) = some i.toNat := if_pos ⟨h0, h1⟩
          rw [e1] at q
          show Q (.bl (decide (i < (L.length : Int)))) H
          rw [decide_eq_true h1]
          exact q
        · have e1 : gaveV L (.int i) = none := if_neg fun z => h1 z.2
          rw [e1] at q
          show Q (.bl (decide (i < (L.length : Int)))) H
          rw [decide_eq_false h1]
          exact q
      · have h0 : ¬ 0 ≤ i := fun z => e (decide_eq_true z)
        have e1 : gaveV L (.int i) = none := if_neg fun z => h0 z.1
        rw [e1] at q
        exact q
    | bl b => exact iteF q
    | str x hx => exact iteF q
    | non => exact iteF q
    | tup ht => exact iteF q
theorem ok_of_row (D : Mth K C "of_row" "Ledger.of_row" s_Ledger_of_row ["self", "row"]) (T_Ledger : TLed K mg C) (C_check_row : COk P w K mg base (L2.CX P w) "check_row" 2 ["thing"] (spCheckRow cR)) (M_Ledger__sum_of : MOk P w K mg base CX0 C "_sum_of" 1 ["self", "thing"] (spSum w C)) :
    MOk P w K mg base (L2.CX P w) C "of_row" 3 ["self", "row"] (spOfRow w C cR) := by
  obtain ⟨f_Ledger__sum_of, d_Ledger__sum_of, G_Ledger__sum_of, m_Ledger__sum_of, b_Ledger__sum_of⟩ := M_Ledger__sum_of.ex
  refine m_mkX D sc_Ledger_of_row (fun vs H Q E h => ?_) (fun f cdv A outer s H vs Q E hr h => ?_)
  · obtain ⟨p, d, l, L, y, rfl, _⟩ := h
    rfl
  · obtain ⟨p, d, l, L, y, rfl, hL, hy, hlen, q1, q2⟩ := h
    refine ⟨_, (pss_cons (ps_expr (pe_cx C_check_row (passUp (takes_of rfl rfl rfl rfl)) hr (by rfl) (pa_cons (pv 1) pa_nil)))
      (pss_one (ps_ret (pe_meth (pv 0) T_Ledger.cl m_Ledger__sum_of G_Ledger__sum_of (hr.mono (by decide)) b_Ledger__sum_of .nil pass0 (pa_cons (pv 1) pa_nil))))), ?_⟩
    refine ⟨_, rfl, y, rfl, hy, fun hb H' sm => ?_, fun hb H' sm => q2 hb H' sm⟩
    cases hy with
    | str x hx =>
      have hL' := hL.same sm
      obtain ⟨dx, fs, hp, hfS, hfT, hno⟩ := hL'.ob
      refine ⟨_, rfl, p, dx, fs, rfl, hp, hno _ (by decide +kernel) (by decide +kernel), _, rfl, p, d, l, L, .row x, _, rfl, hL', rfl, hlen, fun H2 kp hL2 => ?_⟩
      exact q1 x rfl hb H2 (fun b o e h1 h2 => kp b o (sm b o e) h1 h2) hL2
    | int i => cases hb
    | bl b => cases hb
    | non => cases hb
    | tup ht => cases hb
theorem ok_of_pair (D : Mth K C "of_pair" "Ledger.of_pair" s_Ledger_of_pair ["self", "one", "other"]) (T_Ledger : TLed K mg C) (B : Bi mg) (X_NoSum : ExT K mg "NoSum" cS) (M_Ledger__gave_out : MOk P w K mg base CX0 C "_gave_out" 2 ["self", "thing"] (spGave w C))
    (M_Ledger__sum_of : MOk P w K mg base CX0 C "_sum_of" 1 ["self", "thing"] (spSum w C)) : MOk P w K mg base (L2.CX P w) C "of_pair" 3 ["self", "one", "other"] (spOfPair w C cS) := by
  obtain ⟨f_Ledger__gave_out, d_Ledger__gave_out, G_Ledger__gave_out, m_Ledger__gave_out, b_Ledger__gave_out⟩ := M_Ledger__gave_out.ex
  obtain ⟨f_Ledger__sum_of, d_Ledger__sum_of, G_Ledger__sum_of, m_Ledger__sum_of, b_Ledger__sum_of⟩ := M_Ledger__sum_of.ex
  refine m_mkX D sc_Ledger_of_pair (fun vs H Q E h => ?_) (fun f cdv A outer s H vs Q E hr h => ?_)
  · obtain ⟨p, d, l, L, y, z, rfl, _⟩ := h
    rfl
  · obtain ⟨p, d, l, L, y, z, rfl, hL, hy, hz, hlen, q1, q2⟩ := h
    refine ⟨_, (pss_cons (ps_if ((pw_or (pt_not (pt_val (pe_meth (pv 0) T_Ledger.cl m_Ledger__gave_out G_Ledger__gave_out (hr.mono (by decide)) b_Ledger__gave_out .nil pass0 (pa_cons (pv 1) pa_nil)))) (pw_or1 (pt_not (pt_val (pe_meth (pv 0) T_Ledger.cl m_Ledger__gave_out G_Ledger__gave_out (hr.mono (by decide)) b_Ledger__gave_out .nil pass0 (pa_cons (pv 2) pa_nil))))))).pt (pss_one (ps_own X_NoSum rfl (takes_of rfl rfl rfl rfl) (by rfl))) pss_nil)
      (pss_one (ps_ret (pe_meth (pv 0) T_Ledger.cl m_Ledger__sum_of G_Ledger__sum_of (hr.mono (by decide)) b_Ledger__sum_of .nil pass0 (pa_cons (pe_tup (pa_cons (pv 1) (pa_cons (pv 2) pa_nil))) pa_nil))))), ?_⟩
    obtain ⟨dx, fs, hp, hfS, hfT, hno⟩ := hL.ob
    refine ⟨_, rfl, p, dx, fs, rfl, hp, hno _ (by decide +kernel) (by decide +kernel), _, rfl, p, d, l, L, y, rfl, hL, hy, hlen, _, rfl, ?_⟩
    cases g1 : gaveV L y with
    | none => exact iteT (q2 (.inl g1))
    | some i =>
      refine iteF ?_
      refine ⟨_, rfl, p, dx, fs, rfl, hp, hno _ (by decide +kernel) (by decide +kernel), _, rfl, p, d, l, L, z, rfl, hL, hz, hlen, _, rfl, ?_⟩
      cases g2 : gaveV L z with
      | none => exact iteT (q2 (.inr g2))
      | some j =>
        refine iteF ?_
        obtain ⟨rfl, hi⟩ := gave_some g1
        obtain ⟨rfl, hj⟩ := gave_some g2
        refine ⟨_, rfl, p, dx, fs, rfl, hp, hno _ (by decide +kernel) (by decide +kernel), _, rfl, _, rfl, (by show 2 ≤ sizeLine; decide), fun t ht => ?_⟩
        have sm : Same H (upd H t (.tup [.int (i : Int), .int (j : Int)])) := fun b o e => by
          rw [upd_ne (ne_of_none e ht)]
          exact e
        refine ⟨p, d, l, L, .pair i j, .ref t, rfl, hL.same sm, ⟨t, rfl, upd_same⟩, hlen, fun H2 kp hL2 => ?_⟩
        exact q1 i j g1 g2 H2 (fun b o e h1 h2 => kp b o (sm b o e) h1 h2) hL2
end

section
variable {P : Program} {w : World} {K : PySem.W.Frag} {mg : Str → Option Value} {base : Heap} {C cR cS : Addr}
theorem ok_what (D : Mth K C "what" "Ledger.what" s_Ledger_what ["self", "number"]) (T_Ledger : TLed K mg C) (B : Bi mg) (X_NoSum : ExT K mg "NoSum" cS) (M_Ledger__gave_out : MOk P w K mg base CX0 C "_gave_out" 2 ["self", "thing"] (spGave w C)) :
    MOk P w K mg base (L2.CX P w) C "what" 3 ["self", "number"] (spWhat w C cS) := by
  obtain ⟨f_Ledger__gave_out, d_Ledger__gave_out, G_Ledger__gave_out, m_Ledger__gave_out, b_Ledger__gave_out⟩ := M_Ledger__gave_out.ex
  refine m_mkX D sc_Ledger_what (fun vs H Q E h => ?_) (fun f cdv A outer s H vs Q E hr h => ?_)
  · obtain ⟨p, d, l, L, y, rfl, _⟩ := h
    rfl
  · obtain ⟨p, d, l, L, y, rfl, hL, hy, hlen, q1, q2⟩ := h
    refine ⟨_, (pss_cons (ps_if (pt_not (pt_val (pe_meth (pv 0) T_Ledger.cl m_Ledger__gave_out G_Ledger__gave_out (hr.mono (by decide)) b_Ledger__gave_out .nil pass0 (pa_cons (pv 1) pa_nil)))) (pss_one (ps_own X_NoSum rfl (takes_of rfl rfl rfl rfl) (by rfl))) pss_nil)
      (pss_one (ps_ret (pe_ix ix_list (pe_fld (pv 0) rfl) (pv 1) (fun _ _ => rfl))))), ?_⟩
    obtain ⟨dx, fs, hp, hfS, hfT, hno⟩ := hL.ob
    obtain ⟨vs, hl, hvs⟩ := hL.tl
    refine ⟨_, rfl, p, dx, fs, rfl, hp, hno _ (by decide +kernel) (by decide +kernel), _, rfl, p, d, l, L, y, rfl, hL, hy, hlen, _, rfl, ?_⟩
    cases g1 : gaveV L y with
    | none => exact iteT (q2 g1)
    | some i =>
      refine iteF ?_
      obtain ⟨rfl, hi⟩ := gave_some g1
      obtain ⟨v, hv, hth⟩ := pair_at hvs (List.getElem?_eq_getElem hi)
      refine ⟨_, rfl, p, C, dx, fs, _, rfl, hp, T_Ledger.cl, T_Ledger.nT, hfT, _, rfl, l, vs, (i : Int), v, rfl, rfl, SqL.of hl, atI_nat hv, ?_⟩
      exact q1 i _ v g1 (List.getElem?_eq_getElem hi) hth
end

/-! ### texts that are rows -/
/-- at most n signs, all of them signs of rows -/
def okS (n : Nat) (x : Str) : Prop := x.length ≤ n ∧ ∀ c ∈ x.cps.toList, c ∈ signS.cps.toList
theorem len_list (x : Str) : x.length = x.cps.toList.length := by simp [Str.length]
theorem okS_row {x : Str} (h : okS 40 x) : rowStr x = true := by
  unfold rowStr
  rw [decide_eq_true h.1, Bool.true_and, List.all_eq_true]
  exact fun c hc => decide_eq_true (h.2 c hc)
theorem row_okS {x : Str} (h : rowStr x = true) : okS 40 x := by
  unfold rowStr at h
  rw [Bool.and_eq_true, List.all_eq_true] at h
  exact ⟨of_decide_eq_true h.1, fun c hc => of_decide_eq_true (h.2 c hc)⟩
theorem okS_mono {n m : Nat} {x : Str} (h : okS n x) (hm : n ≤ m) : okS m x := ⟨Nat.le_trans h.1 hm, h.2⟩
theorem app_cps (x y : Str) : (x ++ y).cps.toList = x.cps.toList ++ y.cps.toList := by
  show (x.cps ++ y.cps).toList = _
  rw [Array.toList_append]
theorem app_len (x y : Str) : (x ++ y).length = x.length + y.length := by rw [len_list, app_cps, List.length_append, ← len_list, ← len_list]
theorem okS_app {n m : Nat} {x y : Str} (h : okS n x) (g : okS m y) : okS (n + m) (x ++ y) := by
  refine ⟨by rw [app_len]; exact Nat.add_le_add h.1 g.1, fun c hc => ?_⟩
  rw [app_cps] at hc
  rcases List.mem_append.mp hc with z | z
  · exact h.2 c z
  · exact g.2 c z
theorem okS_sign {c : Nat} (h : c ∈ signS.cps.toList) : okS 1 (⟨#[c]⟩ : Str) := ⟨Nat.le_refl 1, fun d hd => by
  have : d = c := by simpa using hd
  rw [this]
  exact h⟩
theorem cut_to (x : Str) (k : Nat) : (cutS x none (some (k : Int))).cps.toList = x.cps.toList.take k := by
  unfold cutS
  rw [HT.sIx_none, HT.sIx_nat, List.drop_zero, Nat.sub_zero]
  show (x.cps.toList.take (min k x.length)) = _
  rw [len_list]
  by_cases h : k ≤ x.cps.toList.length
  · rw [Nat.min_eq_left h]
  · rw [Nat.min_eq_right (by omega), List.take_length, List.take_of_length_le (by omega)]
theorem cut_from (x : Str) (k : Nat) : (cutS x (some (k : Int)) none).cps.toList = x.cps.toList.drop k := by
  unfold cutS
  rw [HT.sIx_none, HT.sIx_nat, len_list]
  show ((x.cps.toList.drop (min k x.cps.toList.length)).take (x.cps.toList.length - min k x.cps.toList.length)) = _
  by_cases h : k ≤ x.cps.toList.length
  · rw [Nat.min_eq_left h, List.take_of_length_le (by rw [List.length_drop]; exact Nat.le_refl _)]
  · rw [Nat.min_eq_right (by omega), List.drop_length, List.drop_eq_nil_of_le (by omega), List.take_nil]
theorem okS_to {n : Nat} {x : Str} (h : okS n x) (k : Nat) : okS k (cutS x none (some (k : Int))) := by
  refine ⟨by rw [len_list, cut_to, List.length_take]; exact Nat.min_le_left _ _, fun c hc => ?_⟩
  rw [cut_to] at hc
  exact h.2 c (List.mem_of_mem_take hc)
theorem okS_from {n : Nat} {x : Str} (h : okS n x) (k : Nat) : okS (x.length - k) (cutS x (some (k : Int)) none) := by
  refine ⟨by rw [len_list, cut_from, List.length_drop, ← len_list]; exact Nat.le_refl _, fun c hc => ?_⟩
  rw [cut_from] at hc
  exact h.2 c (List.mem_of_mem_drop hc)
theorem digit_sign : ∀ c < 58, 48 ≤ c → c ∈ signS.cps.toList := by decide +kernel
theorem okS_num (n : Nat) (h : n < 10 ^ 10) : okS 10 (Str.ofString (toString ((n : Nat) : Int))) := by
  refine ⟨PySem.W.KT.len_num (by omega) (by omega), fun c hc => ?_⟩
  rw [PySem.W.KIN.signs_num] at hc
  obtain ⟨d, hd, rfl⟩ := List.mem_map.mp hc
  have h1 := Nat.isDigit_of_mem_toDigits (by decide) (by decide) hd
  unfold Char.isDigit at h1
  rw [Bool.and_eq_true] at h1
  have h2 := of_decide_eq_true h1.1
  have h3 := of_decide_eq_true h1.2
  have e0 : ('0' : Char).toNat = 48 := rfl
  have e9 : ('9' : Char).toNat = 57 := rfl
  have a : 48 ≤ d.toNat := h2
  have b : d.toNat ≤ 57 := h3
  exact digit_sign _ (by omega) a
theorem sign_at {i : Nat} (h : i < 37) : ∃ c, signS.cps.toList[i]? = some c ∧ c ∈ signS.cps.toList := by
  have hl : signS.cps.toList.length = 37 := by decide +kernel
  exact ⟨signS.cps.toList[i]'(by omega), List.getElem?_eq_getElem _, List.getElem_mem _⟩
theorem mod_nat {x m : Int} (hm : 0 < m) : ∃ n : Nat, x % m = (n : Int) ∧ (n : Int) < m := by
  have h1 := Int.emod_nonneg x (by omega : m ≠ 0)
  have h2 := Int.emod_lt_of_pos x hm
  exact ⟨(x % m).toNat, by omega, by omega⟩
theorem at_mod {xs : List V} {c m : Int} (h : m = (xs.length : Int)) (h0 : 0 < m) : ∃ v, v ∈ xs ∧ atI xs (c % m) = some v := by
  obtain ⟨n, e, hn⟩ := mod_nat (x := c) h0
  have hl : n < xs.length := by omega
  refine ⟨xs[n], List.getElem_mem hl, ?_⟩
  rw [e]
  exact atI_nat (List.getElem?_eq_getElem hl)
theorem sl40 {n : Nat} (h : n ≤ 1000000) : n ≤ sizeLine := Nat.le_trans h (by decide)
/-! ### _law_mix -/
def mixF (n k : Int) : Int := ((n * 48271 + k * 69621 + 11) % 1000003 * ((n * 48271 + k * 69621 + 11) % 1000003) + 7 * ((n * 48271 + k * 69621 + 11) % 1000003) + k) % 999983
theorem mixF_nat (n k : Int) : ∃ m : Nat, mixF n k = (m : Int) ∧ m < 999983 := by
  obtain ⟨m, h1, h2⟩ := mod_nat (x := (n * 48271 + k * 69621 + 11) % 1000003 * ((n * 48271 + k * 69621 + 11) % 1000003) + 7 * ((n * 48271 + k * 69621 + 11) % 1000003) + k) (m := 999983) (by decide)
  exact ⟨m, h1, by omega⟩
def spMix : Sp := fun vs H Q _ => ∃ n k : Int, vs = [.int n, .int k] ∧ Q (.int (mixF n k)) H
def spText : Sp := fun vs H Q _ => ∃ c : Int, vs = [.int c] ∧ ∀ x H', okS 40 x → Same H H' → Q (.str x) H'
def spNear : Sp := fun vs H Q _ => ∃ (x : Str) (c : Int), vs = [.str x, .int c] ∧ okS 40 x ∧ ∀ y, okS 40 y → Q (.str y) H
def spRoom (K : PySem.W.Frag) : Sp := fun vs H Q _ => ∃ (a : Addr) (ns : List Int) (x y : Int), vs = [.ref a, .int x, .int y] ∧ SqL K H a (ns.map V.int) ∧ ns.length ≤ 63 ∧ Q (.int x) H
section
variable {P : Program} {w : World} {K : PySem.W.Frag} {mg : Str → Option Value} {base : Heap}
theorem ok_law_whole (D : Dfn K mg "_law_whole" s_law_whole ["_law_found"]) (B : Bi mg) : COk P w K mg base CX0 "_law_whole" 1 ["_law_found"] spIsWhole := by
  refine c_mk D sc_law_whole (fun vs H Q E h => ?_) (fun f cdv A outer s H vs Q E hr h => ?_)
  · obtain ⟨v, rfl, _⟩ := h
    rfl
  · obtain ⟨v, rfl, hv, q⟩ := h
    refine ⟨_, (pss_one (ps_ret (pe_and (pe_callB (id := "isinstance") call_isi (by rfl) B.isinstance (by decide +kernel) (pa_cons (pv 0) (pa_cons (pe_bltn (v := .ty "int") (u := .type "int") (by rfl) B.int (by decide +kernel) rfl) pa_nil))) (pe_one (pe_not (pe_callB (id := "isinstance") call_isi (by rfl) B.isinstance (by decide +kernel) (pa_cons (pv 0) (pa_cons (pe_bltn (v := .ty "bool") (u := .type "bool") (by rfl) B.bool (by decide +kernel) rfl) pa_nil)))))))), ?_⟩
    refine ⟨_, rfl, v, .ty "int", _, _, intB v, rfl, .ty "int", hv.tyX, kit_ty (kit_int hv), intB v, rfl, ?_⟩
    rw [← whole_eq hv] at q
    cases hi : intB v with
    | false =>
      rw [hi] at q
      exact iteF q
    | true =>
      rw [hi] at q
      refine iteT ?_
      exact ⟨_, rfl, v, .ty "bool", _, _, boolB v, rfl, .ty "bool", hv.tyX, kit_ty (kit_bool hv), boolB v, rfl, q⟩
theorem ok_mix (D : Dfn K mg "_law_mix" s_law_mix ["_law_number", "_law_k"]) : COk P w K mg base CX0 "_law_mix" 1 ["_law_number", "_law_k"] spMix := by
  refine c_mk D sc_law_mix (fun vs H Q E h => ?_) (fun f cdv A outer s H vs Q E hr h => ?_)
  · obtain ⟨n, k, rfl, _⟩ := h
    rfl
  · obtain ⟨n, k, rfl, q⟩ := h
    refine ⟨_, (pss_cons (ps_set (i := 2) sc_law_mix.nd rfl (.inl rfl) (pe_op op_mod (pe_op op_add (pe_op op_add (pe_op op_mul (pv 0) pe_int) (pe_op op_mul (pv 1) pe_int)) pe_int) pe_int))
      (pss_one (ps_ret (pe_op op_mod (pe_op op_add (pe_op op_add (pe_op op_mul (pv 2) (pv 2)) (pe_op op_mul pe_int (pv 2))) (pv 1)) pe_int)))), ?_⟩
    refine ⟨_, rfl, _, _, rfl, rfl, .inr ⟨by decide, by decide⟩, _, rfl, _, _, rfl, rfl, .inr ⟨by decide, by decide⟩, _, _, rfl, rfl, _, _, rfl, rfl, _, _, rfl, rfl, (by show (0 : Int) < 1000003; decide), ?_⟩
    have h1 : 0 ≤ (n * 48271 + k * 69621 + 11) % 1000003 := Int.emod_nonneg _ (by decide)
    have h2 : (n * 48271 + k * 69621 + 11) % 1000003 < 1000003 := Int.emod_lt_of_pos _ (by decide)
    refine ⟨_, rfl, _, rfl, _, _, rfl, rfl, .inl ⟨by omega, by omega⟩, _, rfl, _, _, rfl, rfl, .inl ⟨by decide, by decide⟩, _, _, rfl, rfl, _, rfl, _, _, rfl, rfl, _, _, rfl, rfl, (by show (0 : Int) < 999983; decide), ?_⟩
    exact q
theorem ok_room (D : Dfn K mg "_law_room" s_law_room ["_law_script", "_law_small", "_law_great"]) (B : Bi mg) : COk P w K mg base CX0 "_law_room" 1 ["_law_script", "_law_small", "_law_great"] (spRoom K) := by
  refine c_mk D sc_law_room (fun vs H Q E h => ?_) (fun f cdv A outer s H vs Q E hr h => ?_)
  · obtain ⟨a, ns, x, y, rfl, _⟩ := h
    rfl
  · obtain ⟨a, ns, x, y, rfl, hS, hl, q⟩ := h
    refine ⟨_, (pss_cons (ps_if (pt_cmpR op_gt (pe_callB (id := "len") call_len_seq (by rfl) B.len (by decide +kernel) (pa_cons (pv 0) pa_nil)) pe_int (nomark _)) (pss_one (ps_ret (pv 2))) pss_nil)
      (pss_one (ps_ret (pv 1)))), ?_⟩
    refine ⟨_, rfl, a, _, rfl, .inl hS, _, _, rfl, rfl, _, rfl, ite2 (fun e => ?_) (fun _ => ?_)⟩
    · have := of_decide_eq_true e
      rw [List.length_map] at this
      omega
    · exact ⟨_, rfl, q⟩
theorem same_upd {H : Hp} {p : Addr} {o : HO} (h : H p = none) : Same H (upd H p o) := fun b x e => by
  rw [upd_ne (ne_of_none e h)]
  exact e
theorem ok_text (D : Dfn K mg "_law_text" s_law_text ["_law_cell"]) (B : Bi mg) (C_law_mix : COk P w K mg base CX0 "_law_mix" 1 ["_law_number", "_law_k"] spMix) : COk P w K mg base CX0 "_law_text" 2 ["_law_cell"] spText := by
  refine c_mk D sc_law_text (fun vs H Q E h => ?_) (fun f cdv A outer s H vs Q E hr h => ?_)
  · obtain ⟨c, rfl, _⟩ := h
    rfl
  · obtain ⟨c, rfl, q⟩ := h
    refine ⟨_, (pss_cons (ps_set (i := 1) sc_law_text.nd rfl (.inl rfl) pe_str)
      (pss_cons (ps_set (i := 2) sc_law_text.nd rfl (.inl rfl) (pe_op op_mod (pv 0) pe_int))
      (pss_cons (ps_if (pt_cmpR op_eq (pe_op op_mod (pe_op op_fdiv (pv 0) pe_int) pe_int) pe_int (nomark _)) (pss_one (ps_ret (pe_op op_add_str (pe_op op_add_str (pe_callTy (T := "str") call_str_int (by rfl) B.str (by decide +kernel) (pa_cons (pe_op op_mod (pe_op op_fdiv (pv 0) pe_int) pe_int) pa_nil)) (pe_ix ix_list (pe_lst (pa_cons pe_str (pa_cons pe_str pa_nil))) (pe_op op_mod (pe_op op_fdiv (pv 0) pe_int) pe_int) (fun _ _ => rfl))) (pe_callTy (T := "str") call_str_int (by rfl) B.str (by decide +kernel) (pa_cons (pe_op op_mod (pe_op op_fdiv (pv 0) pe_int) pe_int) pa_nil))))) pss_nil)
      (Evl.pss_cut (ps_if (pt_cmpR op_eq (pe_op op_mod (pe_op op_fdiv (pv 0) pe_int) pe_int) pe_int (nomark _)) (pss_one (ps_set (i := 2) sc_law_text.nd rfl (.inl rfl) (pe_ix ix_list (pe_lst (pa_cons pe_int (pa_cons pe_int (pa_cons pe_int (pa_cons pe_int pa_nil))))) (pe_op op_mod (pe_op op_fdiv (pv 0) pe_int) pe_int) (fun _ _ => rfl)))) pss_nil)
      (pss_cons (ps_set (i := 3) sc_law_text.nd rfl (.inl rfl) pe_str)
      (pss_cons (ps_for PassesOwn.never rfl (pi_range1 (by rfl) B.range (pa_cons (pv 2) pa_nil)) (pg_name (i := 4) sc_law_text.nd rfl (.inl rfl))
      (pss_one (ps_set (i := 3) sc_law_text.nd rfl (.inl rfl) (pe_op op_add_str (pv 3) (pe_ix ix_str (pv 1) (pe_op op_mod (pe_op op_fdiv (pe_c C_law_mix hr (by rfl) (pa_cons (pv 0) (pa_cons (pv 4) pa_nil))) pe_int) pe_int) (fun _ _ => rfl))))))
      (pss_one (ps_ret (pv 3))))))))), ?_⟩
    refine ⟨_, rfl, _, _, rfl, rfl, (by show (0 : Int) < 9; decide), ?_⟩
    refine ⟨_, rfl, _, _, rfl, rfl, ⟨by decide, by decide⟩, _, _, rfl, rfl, (by show (0 : Int) < 6; decide), rfl, _, rfl, ite2 (fun _ => ?_) (fun _ => ?_)⟩
    · -- two numbers
      obtain ⟨n1, e1, h1⟩ := mod_nat (x := c / 54) (m := 40) (by decide)
      obtain ⟨n2, e2, h2⟩ := mod_nat (x := c / 4320) (m := 40) (by decide)
      obtain ⟨n3, e3, h3⟩ := mod_nat (x := c / 2160) (m := 2) (by decide)
      have o1 := okS_num n1 (by omega)
      have o2 := okS_num n2 (by omega)
      refine ⟨_, rfl, _, _, rfl, rfl, ⟨by decide, by decide⟩, _, _, rfl, rfl, (by show (0 : Int) < 40; decide), (n1 : Int), ?_, ?_, ?_⟩
      · show [V.int (c / 54 % 40)] = _
        rw [e1]
      · exact Nat.lt_of_le_of_lt (Nat.log2_le_self _) (by show n1 < 1920; omega)
      refine ⟨sl40 (by show 2 ≤ 1000000; decide), fun p hp => ?_⟩
      refine ⟨_, rfl, _, _, rfl, rfl, ⟨by decide, by decide⟩, _, _, rfl, rfl, (by show (0 : Int) < 2; decide), ?_⟩
      have sm := same_upd (o := .lst [V.str (Str.ofString " "), V.str (Str.ofString "")]) hp
      obtain ⟨v, hv, hat⟩ := at_mod (xs := [V.str (Str.ofString " "), V.str (Str.ofString "")]) (c := c / 2160) (m := 2) rfl (by decide)
      obtain ⟨z, rfl, oz⟩ : ∃ z, v = .str z ∧ okS 1 z := by
        rcases List.mem_cons.mp hv with e | hv
        · exact ⟨_, e, by unfold okS; decide +kernel⟩
        · rcases List.mem_cons.mp hv with e | hv
          · exact ⟨_, e, by unfold okS; decide +kernel⟩
          · cases hv
      refine ⟨p, _, _, .str z, rfl, rfl, SqL.of upd_same, hat, _, _, rfl, rfl, ?_, ?_⟩
      · exact sl40 (by have := o1.1; have := oz.1; omega)
      refine ⟨_, rfl, _, _, rfl, rfl, ⟨by decide, by decide⟩, _, _, rfl, rfl, (by show (0 : Int) < 40; decide), (n2 : Int), ?_, ?_, ?_⟩
      · show [V.int (c / 4320 % 40)] = _
        rw [e2]
      · exact Nat.lt_of_le_of_lt (Nat.log2_le_self _) (by show n2 < 1920; omega)
      have o3 := okS_app (okS_app o1 oz) o2
      refine ⟨_, _, rfl, rfl, ?_, q _ _ (okS_mono o3 (by decide)) sm⟩
      exact sl40 (by have := (okS_app o1 oz).1; have := o2.1; omega)
    · refine ⟨fun σ H' => ∃ m : Nat, m ≤ 40 ∧ Same H H' ∧ σ = [some (.int c), some (.str signS), some (.int (m : Int)), none, none], ?_, ?_⟩
      · refine ⟨_, rfl, _, _, rfl, rfl, ⟨by decide, by decide⟩, _, _, rfl, rfl, (by show (0 : Int) < 6; decide), rfl, _, rfl, ite2 (fun _ => ?_) (fun _ => ?_)⟩
        · refine ⟨sl40 (by show 4 ≤ 1000000; decide), fun p hp => ?_⟩
          refine ⟨_, rfl, _, _, rfl, rfl, ⟨by decide, by decide⟩, _, _, rfl, rfl, (by show (0 : Int) < 4; decide), ?_⟩
          obtain ⟨v, hv, hat⟩ := at_mod (xs := [V.int 40, V.int 39, V.int 0, V.int 1]) (c := c / 54) (m := 4) rfl (by decide)
          obtain ⟨m, rfl, hm⟩ : ∃ m : Nat, v = .int (m : Int) ∧ m ≤ 40 := by
            simp only [List.mem_cons, List.not_mem_nil, or_false] at hv
            rcases hv with rfl | rfl | rfl | rfl
            · exact ⟨40, rfl, by decide⟩
            · exact ⟨39, rfl, by decide⟩
            · exact ⟨0, rfl, by decide⟩
            · exact ⟨1, rfl, by decide⟩
          exact ⟨p, _, _, .int (m : Int), rfl, rfl, SqL.of upd_same, hat, m, hm, same_upd hp, rfl⟩
        · obtain ⟨m, e, hm⟩ := mod_nat (x := c) (m := 9) (by decide)
          refine ⟨m, by omega, fun _ _ h => h, ?_⟩
          show [some (V.int c), some (V.str signS), some (V.int (c % 9)), none, none] = _
          rw [e]
      rintro σ H1 ⟨m, hm, sm, rfl⟩
      refine ⟨_, rfl, (m : Int), rfl, by omega, by omega, ?_⟩
      rw [show ((m : Int)).toNat = m by omega]
      refine for_range (fun i σ H' => ∃ (x : Str) (y : Option V), H1 = H' ∧ okS i x ∧ σ = [some (.int c), some (.str signS), some (.int (m : Int)), some (.str x), y]) ⟨Str.ofString "", none, rfl, by unfold okS; decide +kernel, rfl⟩ ?_ ?_
      · rintro i σ _ hi ⟨x, y, rfl, hx, rfl⟩
        refine ⟨_, rfl, _, rfl, _, rfl, _, rfl, c, (0 : Int) + (i : Int), rfl, ?_⟩
        obtain ⟨n, e, hn⟩ := mod_nat (x := mixF c ((0 : Int) + (i : Int)) / 7) (m := 37) (by decide)
        obtain ⟨d, hd, hm2⟩ := sign_at (i := n) (by omega)
        refine ⟨_, _, rfl, rfl, ⟨by decide, by decide⟩, _, _, rfl, rfl, (by show (0 : Int) < 37; decide), signS, (n : Int), d, rfl, ?_, sl40 (by decide +kernel), atI_nat hd, ?_⟩
        · show V.int (mixF c ((0 : Int) + (i : Int)) / 7 % 37) = _
          rw [e]
        have o1 := okS_app hx (okS_sign hm2)
        refine ⟨_, _, rfl, rfl, sl40 (by have := hx.1; show x.length + 1 ≤ 1000000; omega), x ++ ⟨#[d]⟩, _, rfl, o1, rfl⟩
      · rintro σ _ ⟨x, y, rfl, hx, rfl⟩
        exact ⟨_, rfl, q _ _ (okS_mono hx hm) sm⟩
theorem ok_near (D : Dfn K mg "_law_near" s_law_near ["_law_text_here", "_law_cell"]) (B : Bi mg) : COk P w K mg base CX0 "_law_near" 1 ["_law_text_here", "_law_cell"] spNear := by
  refine c_mk D sc_law_near (fun vs H Q E h => ?_) (fun f cdv A outer s H vs Q E hr h => ?_)
  · obtain ⟨x, c, rfl, _⟩ := h
    rfl
  · obtain ⟨x, c, rfl, hx, q⟩ := h
    refine ⟨_, (Evl.pss_cut (ps_set (i := 2) sc_law_near.nd rfl (.inl rfl) (pe_op op_mod (pv 1) (pe_op op_add pe_int (pe_callB (id := "len") call_len_str (by rfl) B.len (by decide +kernel) (pa_cons (pv 0) pa_nil)))))
      (pss_cons (ps_set (i := 3) sc_law_near.nd rfl (.inl rfl) (pe_ix ix_str pe_str (pe_op op_mod (pe_op op_fdiv (pv 1) pe_int) pe_int) (fun _ _ => rfl)))
      (Evl.pss_cut (ps_if ((pw_and (pt_cmpR op_lt (pv 2) (pe_callB (id := "len") call_len_str (by rfl) B.len (by decide +kernel) (pa_cons (pv 0) pa_nil)) (nomark _)) (pw_and1 (pt_cmpR op_ne (pe_ix ix_str (pv 0) (pv 2) (fun _ _ => rfl)) (pv 3) (nomark _))))).pt (pss_one (ps_ret (pe_op op_add_str (pe_op op_add_str (pe_slice sl_str (pv 0) po_none (po_some (pv 2))) (pv 3)) (pe_slice sl_str (pv 0) (po_some (pe_op op_add (pv 2) pe_int)) po_none)))) pss_nil)
      (pss_cons (ps_if (pt_cmpR op_lt (pe_callB (id := "len") call_len_str (by rfl) B.len (by decide +kernel) (pa_cons (pv 0) pa_nil)) pe_int (nomark _)) (pss_one (ps_ret (pe_op op_add_str (pe_op op_add_str (pe_slice sl_str (pv 0) po_none (po_some (pv 2))) (pv 3)) (pe_slice sl_str (pv 0) (po_some (pv 2)) po_none)))) pss_nil)
      (pss_one (ps_ret (pe_slice sl_str (pv 0) (po_some pe_int) po_none))))))), ?_⟩
    have hx1 := hx.1
    obtain ⟨a, ea, ha⟩ := mod_nat (x := c) (m := 1 + (x.length : Int)) (by omega)
    obtain ⟨n, en, hn⟩ := mod_nat (x := c / 41) (m := 37) (by decide)
    obtain ⟨d, hd, hm⟩ := sign_at (i := n) (by omega)
    have os := okS_sign hm
    refine ⟨fun σ H' => H = H' ∧ σ = [some (.str x), some (.int c), some (.int (a : Int)), none], ?_, ?_⟩
    · refine ⟨_, rfl, _, rfl, x, rfl, sl40 (by omega), _, _, rfl, rfl, _, _, rfl, rfl, (by show (0 : Int) < 1 + (x.length : Int); omega), rfl, ?_⟩
      show [some (V.str x), some (V.int c), some (V.int (c % (1 + (x.length : Int)))), none] = _
      rw [ea]
    rintro σ _ ⟨rfl, rfl⟩
    refine ⟨_, rfl, _, _, rfl, rfl, ⟨by decide, by decide⟩, _, _, rfl, rfl, (by show (0 : Int) < 37; decide), signS, (n : Int), d, rfl, ?_, sl40 (by decide +kernel), atI_nat hd, ?_⟩
    · show V.int (c / 41 % 37) = _
      rw [en]
    have o1 := okS_to hx a
    have o2 := okS_from hx a
    have o3 := okS_from hx (a + 1)
    have o4 := okS_from hx 1
    have o12 := okS_app o1 os
    refine ⟨fun σ H' => H = H' ∧ σ = [some (.str x), some (.int c), some (.int (a : Int)), some (.str ⟨#[d]⟩)], ?_, ?_⟩
    · refine ⟨_, rfl, _, rfl, x, rfl, sl40 (by omega), _, _, rfl, rfl, _, rfl, ite2 (fun e => ?_) (fun e => ?_)⟩
      · have hlt : a < x.length := by
          have := of_decide_eq_true e
          omega
        have hax : x.cps.toList[a]? = some (x.cps.toList[a]'(by rw [← len_list]; exact hlt)) := List.getElem?_eq_getElem _
        refine ⟨_, rfl, _, rfl, x, (a : Int), _, rfl, rfl, sl40 (by omega), atI_nat hax, _, rfl, rfl, _, rfl, ite2 (fun _ => ?_) (fun _ => ?_)⟩
        · refine ⟨_, rfl, _, rfl, (a : Int), rfl, x, rfl, sl40 (by omega), _, rfl, _, _, rfl, rfl, ?_, ?_⟩
          · exact sl40 (by have := o1.1; have := os.1; omega)
          refine ⟨_, rfl, _, rfl, _, _, rfl, rfl, ((a + 1 : Nat) : Int), rfl, x, rfl, sl40 (by omega), _, _, rfl, rfl, ?_, ?_⟩
          · exact sl40 (by have := o12.1; have := o3.1; omega)
          exact q _ (okS_mono (okS_app o12 o3) (by omega))
        · exact ⟨rfl, rfl⟩
      · exact iteF ⟨rfl, rfl⟩
    rintro σ _ ⟨rfl, rfl⟩
    refine ⟨_, rfl, x, rfl, sl40 (by omega), _, _, rfl, rfl, _, rfl, ite2 (fun e => ?_) (fun _ => ?_)⟩
    · have hlt : x.length < 40 := by
        have := of_decide_eq_true e
        omega
      refine ⟨_, rfl, _, rfl, (a : Int), rfl, x, rfl, sl40 (by omega), _, rfl, _, _, rfl, rfl, ?_, ?_⟩
      · exact sl40 (by have := o1.1; have := os.1; omega)
      refine ⟨_, rfl, _, rfl, (a : Int), rfl, x, rfl, sl40 (by omega), _, _, rfl, rfl, ?_, ?_⟩
      · exact sl40 (by have := o12.1; have := o2.1; omega)
      exact q _ (okS_mono (okS_app o12 o2) (by omega))
    · refine ⟨_, rfl, ((1 : Nat) : Int), rfl, x, rfl, sl40 (by omega), ?_⟩
      exact q _ (okS_mono o4 (by omega))
end

theorem hu65 {A : Around} {k : Nat} (hr : Room k A) : A.units + 65 < cLine := by
  have := hr.un
  omega
/-! ### things as data -/
def thD : Th → PyData
  | .row x => .str x
  | .pair i j => .tuple [.int i, .int j]
theorem thD_eqv (a b : Th) : PyData.eqv (thD a) (thD b) = decide (a = b) := by
  cases a with
  | row x =>
    cases b with
    | row y => simp only [thD, PyData.eqv, Th.row.injEq]; by_cases h : x = y <;> simp [h]
    | pair i j => simp [thD, PyData.eqv]
  | pair i j =>
    cases b with
    | row y => simp [thD, PyData.eqv]
    | pair k l =>
      simp only [thD, PyData.eqv, PyData.eqvAll, Th.pair.injEq]
      by_cases h : i = k <;> by_cases h2 : j = l <;> simp [h, h2]
theorem IsTh.dp {K : PySem.W.Frag} {H : Hp} : ∀ {t : Th} {v : V}, IsTh H t v → Dp K H v (thD t)
  | .row x, _, e => by
    have e : _ = V.str x := e
    subst e
    exact .str x
  | .pair i j, _, ⟨b, e, h⟩ => by
    subst e
    exact .tup (SqT.of h) (.cons (.int i) (.cons (.int j) .nil))
theorem IsTh.any {H : Hp} : ∀ {t : Th} {v : V}, IsTh H t v → (∀ x, t = .row x → x.length ≤ sizeLine) → AnyV H v
  | .row x, _, e, h => by
    have e : _ = V.str x := e
    subst e
    exact .str x (h x rfl)
  | .pair i j, _, ⟨b, e, hb⟩, _ => by
    subst e
    exact .tup hb
theorem Th.dps {K : PySem.W.Frag} {H : Hp} {a : Addr} {L : List Th} {vs : List V} (h : H a = some (.lst vs)) (p : Paired (IsTh H) L vs) : Dp K H (.ref a) (.list (L.map thD)) := by
  refine .lst (SqL.of h) ?_
  clear h
  induction p with
  | nil => exact .nil
  | cons e _ ih => exact .cons (IsTh.dp e) ih
def goodT : Th → Prop
  | .row x => okS 40 x
  | .pair _ _ => True
theorem thD_ok {t : Th} (h : goodT t) : (thD t).canLay0 = true ∧ (thD t).depth ≤ 63 := by
  cases t with
  | row x =>
    refine ⟨?_, by simp [thD, PyData.depth]⟩
    show PyData.strOk x = true
    unfold PyData.strOk
    rw [← Array.all_toList, List.all_eq_true]
    intro c hc
    have hs : ∀ d ∈ signS.cps.toList, d < 0x110000 := by decide +kernel
    exact decide_eq_true (hs c (h.2 c hc))
  | pair i j => exact ⟨by simp [thD, PyData.canLay0, PyData.canLayAll0], by simp [thD, PyData.depth, PyData.depthAll]⟩
theorem shaped1 {d : PyData} (h : d.canLay0 = true ∧ d.depth ≤ 63) : SeqAt.shaped d = true := by
  unfold SeqAt.shaped
  rw [Bool.and_eq_true]
  exact ⟨h.1, decide_eq_true (by omega)⟩

/-! ### k02's own -/
/-- a text, n times -/
def rRepS : R2 := fun x y H Q => ∃ (z : Str) (n : Nat), x = .str z ∧ y = .int (n : Int) ∧ z.length ≤ 100 ∧ n ≤ 100 ∧ ∀ r : Str, r.length = n * z.length → (∀ c ∈ r.cps.toList, c ∈ z.cps.toList) → Q (.str r) H
theorem fold_rep (x : Array Nat) : ∀ (n : Nat) (acc : Array Nat), ((List.replicate n x).foldl (· ++ ·) acc).size = acc.size + n * x.size ∧ ∀ c ∈ ((List.replicate n x).foldl (· ++ ·) acc).toList, c ∈ acc.toList ∨ c ∈ x.toList
  | 0, acc => ⟨by simp, fun c h => .inl h⟩
  | n + 1, acc => by
    obtain ⟨h1, h2⟩ := fold_rep x n (acc ++ x)
    refine ⟨?_, fun c hc => ?_⟩
    · rw [List.replicate_succ, List.foldl_cons, h1, Array.size_append, Nat.succ_mul]
      omega
    · rw [List.replicate_succ, List.foldl_cons] at hc
      rcases h2 c hc with z | z
      · rw [Array.toList_append] at z
        exact List.mem_append.mp z
      · exact .inr z
theorem op_repS {X : Cx} : OpR X (binaryOp .Mult) rRepS := by
  intro pins s σ H x y v u Q I rx ry h
  obtain ⟨z, n, rfl, rfl, hz, hn, q⟩ := h
  obtain ⟨t, rfl⟩ := rx
  obtain ⟨t', rfl⟩ := ry
  have hmul : z.length * n ≤ 100 * 100 := Nat.mul_le_mul hz hn
  have fin : ∀ (r : Str) (t3 : Tok) (tk : Nat), r.length = n * z.length → (∀ c ∈ r.cps.toList, c ∈ z.cps.toList) → EP X pins σ Q (.str r t3) { s with toks := tk } := fun r t3 tk h1 h2 => ⟨.str r, H, I.tok tk, ⟨_, rfl⟩, q r h1 h2⟩
  refine PySem.P.mul_str ?_ (fun h1 _ => ?_) (fun _ _ => ?_) ?_
  · rw [decide_eq_false (by omega), decide_eq_false (by omega)]
    rfl
  · have hn1 : 0 < (n : Int) := by omega
    have h2 : (100 : Int) ≤ (2 ^ 63 - 1) / (n : Int) := (Int.le_ediv_iff_mul_le hn1).mpr (by omega)
    omega
  · show decide (z.length * (n : Int).toNat > sizeLine) = false
    rw [Int.toNat_natCast]
    exact decide_eq_false (by have := sizeLine_eq; omega)
  · by_cases h1 : (n : Int) < 1
    · rw [if_pos h1]
      have hn0 : n = 0 := by omega
      subst hn0
      exact ⟨by decide, fin _ _ _ (by rw [Nat.zero_mul]; rfl) (fun c hc => by simp [Str.empty] at hc)⟩
    · rw [if_neg h1]
      by_cases h2 : ((n : Int) == 1 || z.length == 0) = true
      · rw [if_pos h2]
        refine fin _ _ s.toks ?_ fun c hc => hc
        rcases Bool.or_eq_true_iff.mp h2 with e | e
        · have : n = 1 := by have := eq_of_beq e; omega
          rw [this, Nat.one_mul]
        · have : z.length = 0 := eq_of_beq e
          rw [this, Nat.mul_zero]
      · rw [if_neg h2, Int.toNat_natCast]
        obtain ⟨g1, g2⟩ := fold_rep z.cps n #[]
        have e1 : (⟨(List.replicate n z.cps).foldl (· ++ ·) #[]⟩ : Str).length = n * z.length := by
          show ((List.replicate n z.cps).foldl (· ++ ·) #[]).size = _
          rw [g1]
          exact Nat.zero_add _
        refine ⟨by rw [e1, Nat.mul_comm]; exact sl40 (by omega), fin _ _ _ e1 fun c hc => ?_⟩
        rcases g2 c hc with h | h
        · simp at h
        · exact h
/-- the rows are rows, the pairs are of numbers that were given out -/
def GoodL (L : List Th) : Prop := ∀ t ∈ L, (∀ x, t = .row x → okS 40 x) ∧ ∀ i j, t = .pair i j → 0 ≤ i ∧ i < L.length ∧ 0 ≤ j ∧ j < L.length
theorem GoodL.good {L : List Th} (g : GoodL L) {t : Th} (h : t ∈ L) : goodT t := by
  cases t with
  | row x => exact (g _ h).1 x rfl
  | pair i j => trivial
theorem shapedL {L : List Th} (g : ∀ t ∈ L, goodT t) : SeqAt.shaped (.list (L.map thD)) = true := by
  have all : ∀ l : List Th, (∀ t ∈ l, goodT t) → PyData.canLayAll0 (l.map thD) = true ∧ PyData.depthAll (l.map thD) ≤ 63 := by
    intro l
    induction l with
    | nil => exact fun _ => ⟨by simp [PyData.canLayAll0], by simp [PyData.depthAll]⟩
    | cons a l ih =>
      intro h
      obtain ⟨h1, h2⟩ := ih fun t ht => h t (List.mem_cons_of_mem _ ht)
      obtain ⟨h3, h4⟩ := thD_ok (h a List.mem_cons_self)
      refine ⟨by simp [PyData.canLayAll0, h1, h3], ?_⟩
      show max (thD a).depth (PyData.depthAll (l.map thD)) ≤ 63
      omega
  obtain ⟨h1, h2⟩ := all L g
  unfold SeqAt.shaped
  rw [Bool.and_eq_true]
  refine ⟨by simp [PyData.canLay0, h1], decide_eq_true ?_⟩
  show PyData.depthAll (L.map thD) + 1 ≤ 64
  omega
/-! ### promises -/
structure KD (K : PySem.W.Frag) (D cF cB cP cT cR cS : Addr) (r s : Bool) : Prop where
  ex : ExcC K D
  full : PySem.W.kitOne K (.ref D) (.ref cF) = some false
  block : PySem.W.kitOne K (.ref D) (.ref cB) = some false
  place : PySem.W.kitOne K (.ref D) (.ref cP) = some false
  strange : PySem.W.kitOne K (.ref D) (.ref cT) = some false
  row : PySem.W.kitOne K (.ref D) (.ref cR) = some r
  sum : PySem.W.kitOne K (.ref D) (.ref cS) = some s
  ve : PySem.W.kitOne K (.ref D) (.type "ValueError") = some true
def spClass (cR cS : Addr) : Addr × Obj → List V → Hp → VK → Prop := fun p vs H Q => ∃ D, vs = [.ref p.1] ∧ Zc (.ref D) none p.2 ∧ (∃ fv, p.2.data = .fields fv) ∧
  ((D = cR ∧ ∀ H', Same H H' → Q (.str (Str.ofString "NoRow")) H') ∨ (D = cS ∧ ∀ H', Same H H' → Q (.str (Str.ofString "NoSum")) H'))
def spAsked (w : World) (C : Addr) : Sp := fun vs H Q _ => ∃ (p d l : Addr) (L : List Th) (y : V), vs = [.ref p, y] ∧ LedAt w C H p d l L ∧ L.length < 1000000 ∧
  ((AnyV H y ∧ (∀ x, y = .str x → rowStr x = true → ∀ H', Keep H H' d l → LedAt w C H' p d l (give L (.row x)) → Q (.int ((numOf L (.row x) : Nat) : Int)) H') ∧
      (rowV y = false → ∀ H' t, Same H H' → H' t = some (.tup [.str (Str.ofString "NoRow")]) → Q (.ref t) H')) ∨
    ∃ a u v, y = .ref a ∧ H a = some (.lst [u, v]) ∧ AnyV H u ∧ AnyV H v ∧ (∀ i j : Nat, gaveV L u = some i → gaveV L v = some j → ∀ H', Keep H H' d l → LedAt w C H' p d l (give L (.pair i j)) → Q (.int ((numOf L (.pair i j) : Nat) : Int)) H') ∧
      ((gaveV L u = none ∨ gaveV L v = none) → ∀ H' t, Same H H' → H' t = some (.tup [.str (Str.ofString "NoSum")]) → Q (.ref t) H'))
def spAskWhat (w : World) (C : Addr) : Sp := fun vs H Q _ => ∃ (p d l : Addr) (L : List Th) (y : V), vs = [.ref p, y] ∧ LedAt w C H p d l L ∧ AnyV H y ∧ L.length < 1000000 ∧
  (∀ i t v, gaveV L y = some i → L[i]? = some t → IsTh H t v → Q v H) ∧ (gaveV L y = none → ∀ H' t, Same H H' → H' t = some (.lst [.str (Str.ofString "NoSum")]) → Q (.ref t) H')
def spBad : Sp := fun vs H Q _ => ∃ (c : Int) (m : Nat), vs = [.int c, .int (m : Int)] ∧ m < 1000000 ∧ ∀ H' t, Same H H' →
  ((∃ y, H' t = some (.tup [y, .str (Str.ofString "NoRow")]) ∧ AnyV H' y ∧ rowV y = false) ∨
    ∃ a u v, H' t = some (.tup [.ref a, .str (Str.ofString "NoSum")]) ∧ H' a = some (.lst [u, v]) ∧ AnyV H' u ∧ AnyV H' v ∧ ∀ L : List Th, L.length = m → gaveV L u = none ∨ gaveV L v = none) → Q (.ref t) H'
def spThing : Sp := fun vs H Q _ => ∃ (a : Addr) (us : List V) (L : List Th) (c : Int), vs = [.ref a, .int c] ∧ H a = some (.lst us) ∧ Paired (IsTh H) L us ∧ GoodL L ∧ L.length < 1000000 ∧ L.Nodup ∧
  ∀ H' y, Same H H' → ((∃ x, y = .str x ∧ okS 40 x) ∨ ∃ b, ∃ i j : Nat, y = .ref b ∧ H' b = some (.lst [.int (i : Int), .int (j : Int)]) ∧ i < L.length ∧ j < L.length) → Q y H'
def spSame (w : World) (C : Addr) : Sp := fun vs H Q _ => ∃ (p d l a : Addr) (us : List V) (L : List Th) (c : Int), vs = [.ref p, .ref a, .int c] ∧ LedAt w C H p d l L ∧ H a = some (.lst us) ∧ Paired (IsTh H) L us ∧ GoodL L ∧ L.length < 1000000 ∧
  ∀ H', Same H H' → Q (.bl true) H'
section
variable {P : Program} {w : World} {K : PySem.W.Frag} {mg : Str → Option Value} {base : Heap} {C c_Full c_NoBlock c_NoPlace c_Strange c_NoRow c_NoSum c_TwinError : Addr}
theorem ok_class {f : Addr} {fd : FuncData} (F : Fun K "_law_class" "_law_class" s_law_class f fd) (B : Bi mg) (X_Full : ExT K mg "Full" c_Full) (X_NoBlock : ExT K mg "NoBlock" c_NoBlock) (X_NoPlace : ExT K mg "NoPlace" c_NoPlace) (X_Strange : ExT K mg "Strange" c_Strange)
    (X_NoRow : ExT K mg "NoRow" c_NoRow) (X_NoSum : ExT K mg "NoSum" c_NoSum) (kR : KD K c_NoRow c_Full c_NoBlock c_NoPlace c_Strange c_NoRow c_NoSum true false) (kS : KD K c_NoSum c_Full c_NoBlock c_NoPlace c_Strange c_NoRow c_NoSum false true) :
    FnE P w K mg base 1 f fd ["_law_e"] (spClass c_NoRow c_NoSum) := by
  refine fe_mk F sc_law_class (fun p vs H Q h => ?_) (fun cdv A outer s H vs Q p hr h => ?_)
  · obtain ⟨D, rfl, _⟩ := h
    rfl
  · obtain ⟨a, oe⟩ := p
    obtain ⟨D, rfl, hz, hf, hD⟩ := h
    have hp : ((a, oe) : Addr × Obj) ∈ [((a, oe) : Addr × Obj)] := List.mem_cons_self
    have main : ∀ (r s0 : Bool), KD K D c_Full c_NoBlock c_NoPlace c_Strange c_NoRow c_NoSum r s0 → r = !s0 → (∀ H', Same H H' → Q (.str (Str.ofString (if s0 then "NoSum" else "NoRow"))) H') → ∃ t, PSs (L2H.cxH CX0 P w K mg base ["_law_e"] "_law_class" (defScope s_law_class) f cdv A outer s H E0 (a, oe)) (defBody s_law_class) t ∧ t { nx := fun _ H' => Q .non H', rt := Q } (start ["_law_e"] [.ref a]) H := fun r s0 k hrs q => by
      have hX := k.ex
      refine ⟨_, (pss_cons (ps_if ((pw_or (pt_val (pe_callB (id := "isinstance") (call_isP hX hp hz hf) (by rfl) B.isinstance (by decide +kernel) (pa_cons (pv 0) (pa_cons (pe_glob (v := .ref c_Full) (by rfl) X_Full.g rfl) pa_nil)))) (pw_or (pt_val (pe_callB (id := "isinstance") (call_isP hX hp hz hf) (by rfl) B.isinstance (by decide +kernel) (pa_cons (pv 0) (pa_cons (pe_glob (v := .ref c_NoBlock) (by rfl) X_NoBlock.g rfl) pa_nil)))) (pw_or (pt_val (pe_callB (id := "isinstance") (call_isP hX hp hz hf) (by rfl) B.isinstance (by decide +kernel) (pa_cons (pv 0) (pa_cons (pe_glob (v := .ref c_NoPlace) (by rfl) X_NoPlace.g rfl) pa_nil)))) (pw_or1 (pt_val (pe_callB (id := "isinstance") (call_isP hX hp hz hf) (by rfl) B.isinstance (by decide +kernel) (pa_cons (pv 0) (pa_cons (pe_glob (v := .ref c_Strange) (by rfl) X_Strange.g rfl) pa_nil))))))))).pt (pss_one (ps_ret pe_str)) pss_nil)
      (pss_cons (ps_if ((pw_or (pt_not (pt_val (pe_callB (id := "isinstance") (call_isP hX hp hz hf) (by rfl) B.isinstance (by decide +kernel) (pa_cons (pv 0) (pa_cons (pe_bltn (v := .ty "ValueError") (u := .type "ValueError") (by rfl) B.ValueError (by decide +kernel) rfl) pa_nil))))) (pw_or1 (pt_cmpR op_eq (pe_callB (id := "isinstance") (call_isP hX hp hz hf) (by rfl) B.isinstance (by decide +kernel) (pa_cons (pv 0) (pa_cons (pe_glob (v := .ref c_NoRow) (by rfl) X_NoRow.g rfl) pa_nil))) (pe_callB (id := "isinstance") (call_isP hX hp hz hf) (by rfl) B.isinstance (by decide +kernel) (pa_cons (pv 0) (pa_cons (pe_glob (v := .ref c_NoSum) (by rfl) X_NoSum.g rfl) pa_nil))) (nomark _))))).pt (pss_one (ps_ret pe_str)) pss_nil)
      (pss_one (ps_ret (pe_ix ix_list (pe_lst (pa_cons pe_str (pa_cons pe_str pa_nil))) (pe_callTy (T := "int") call_int1 (by rfl) B.int (by decide +kernel) (pa_cons (pe_callB (id := "isinstance") (call_isP hX hp hz hf) (by rfl) B.isinstance (by decide +kernel) (pa_cons (pv 0) (pa_cons (pe_glob (v := .ref c_NoSum) (by rfl) X_NoSum.g rfl) pa_nil))) pa_nil)) (fun _ _ => rfl)))))), ?_⟩
      have rr : ∀ {c : Addr} (u : Value), RelV (.ref c) u → u = .ref c := fun u h => h
      refine ⟨_, rfl, .ref c_Full, _, false, rfl, rr, k.full, false, rfl, iteF ?_⟩
      refine ⟨_, rfl, .ref c_NoBlock, _, false, rfl, rr, k.block, false, rfl, iteF ?_⟩
      refine ⟨_, rfl, .ref c_NoPlace, _, false, rfl, rr, k.place, false, rfl, iteF ?_⟩
      refine ⟨_, rfl, .ref c_Strange, _, false, rfl, rr, k.strange, false, rfl, iteF ?_⟩
      refine ⟨_, rfl, .ty "ValueError", _, true, rfl, fun u h => h, k.ve, true, rfl, iteF ?_⟩
      refine ⟨_, rfl, .ref c_NoRow, _, r, rfl, rr, k.row, _, rfl, .ref c_NoSum, _, s0, rfl, rr, k.sum, rfl, false, ?_, iteF ?_⟩
      · rw [hrs]
        cases s0 <;> rfl
      refine ⟨sl40 (by show 2 ≤ 1000000; decide), fun pl hpl => ?_⟩
      refine ⟨_, rfl, .ref c_NoSum, _, s0, rfl, rr, k.sum, .inr ⟨s0, rfl, ?_⟩⟩
      cases s0 with
      | true => exact ⟨pl, _, 1, _, rfl, rfl, SqL.of upd_same, rfl, q _ (same_upd hpl)⟩
      | false => exact ⟨pl, _, 0, _, rfl, rfl, SqL.of upd_same, rfl, q _ (same_upd hpl)⟩
    rcases hD with ⟨rfl, q⟩ | ⟨rfl, q⟩
    · exact main true false kR rfl q
    · exact main false true kS rfl q
end

section
variable {P : Program} {w : World} {K : PySem.W.Frag} {mg : Str → Option Value} {base : Heap} {C c_NoRow c_NoSum c_TwinError : Addr}
theorem set_at {σ : L2.St} {i : Nat} {v : V} (h : i < σ.length) : (σ.set i (some v))[i]? = some (some v) := by
  rw [List.getElem?_set_self h]
theorem ok_asked {f_law_class : Addr} {d_law_class : FuncData} (D : Dfn K mg "_law_asked" s_law_asked ["_law_ledger", "_law_thing_here"]) (T_Ledger : TLed K mg C) (B : Bi mg) (X_TwinError : ExT K mg "TwinError" c_TwinError)
    (eR : PySem.W.exmOne K (.ref c_NoRow) (.ref c_TwinError) = some true) (eS : PySem.W.exmOne K (.ref c_NoSum) (.ref c_TwinError) = some true)
    (M_Ledger_of_row : MOk P w K mg base (L2.CX P w) C "of_row" 3 ["self", "row"] (spOfRow w C c_NoRow)) (M_Ledger_of_pair : MOk P w K mg base (L2.CX P w) C "of_pair" 3 ["self", "one", "other"] (spOfPair w C c_NoSum))
    (C_law_class : FnE P w K mg base 1 f_law_class d_law_class ["_law_e"] (spClass c_NoRow c_NoSum)) (m_law_class : mg "_law_class" = some (.ref f_law_class)) (k_law_class : PySem.W.keepIn K (.ref f_law_class) = true) (b_law_class : Binds K d_law_class ["_law_e"] []) :
    COk P w K mg base CX0 "_law_asked" 4 ["_law_ledger", "_law_thing_here"] (spAsked w C) := by
  obtain ⟨f_Ledger_of_pair, d_Ledger_of_pair, G_Ledger_of_pair, m_Ledger_of_pair, b_Ledger_of_pair⟩ := M_Ledger_of_pair.ex
  obtain ⟨f_Ledger_of_row, d_Ledger_of_row, G_Ledger_of_row, m_Ledger_of_row, b_Ledger_of_row⟩ := M_Ledger_of_row.ex
  refine c_mk D sc_law_asked (fun vs H Q E h => ?_) (fun f cdv A outer s H vs Q E hr h => ?_)
  · obtain ⟨p, d, l, L, y, rfl, _⟩ := h
    rfl
  · obtain ⟨p, d, l, L, y, rfl, hL, hlen, hcase⟩ := h
    refine ⟨_, (pss_one (ps_try_as (i := 2) rfl rfl sc_law_asked.nd rfl rfl ⟨rfl, by decide, .inl X_TwinError.g⟩ takes0 (fun W pn xe tk _ => (pss_cons (ps_if (pt_val (pe_callB (id := "isinstance") (r := rIsi K) call_isi (by rfl) B.isinstance (by decide +kernel) (pa_cons (pv 1) (pa_cons (pe_bltn (v := .ty "list") (u := .type "list") (by rfl) B.list (by decide +kernel) rfl) pa_nil)))) (pss_one (ps_ret (pe_meth (pv 0) T_Ledger.cl m_Ledger_of_pair G_Ledger_of_pair (hr.mono (by decide)) b_Ledger_of_pair .nil (passLen 3 tk rfl) (pa_cons (pe_ix (r := rIxL K) ix_list (pv 1) pe_int (fun _ _ => rfl)) (pa_cons (pe_ix (r := rIxL K) ix_list (pv 1) pe_int (fun _ _ => rfl)) pa_nil))))) pss_nil)
      (pss_one (ps_ret (pe_meth (pv 0) T_Ledger.cl m_Ledger_of_row G_Ledger_of_row (hr.mono (by decide)) b_Ledger_of_row .nil (passLen 3 tk rfl) (pa_cons (pv 1) pa_nil))))))
      (fun a oe cls d pn hz hf => (pss_one (ps_ret (pe_tup (pa_cons (pe_ce hz hf C_law_class (roomSuite hr (by decide)) List.mem_cons_self (by rfl) m_law_class k_law_class b_law_class (pa_cons (pv 2) pa_nil)) pa_nil))))))), ?_⟩
    obtain ⟨dx, fs, hp, hfS, hfT, hno⟩ := hL.ob
    rcases hcase with ⟨hy, q1, q2⟩ | ⟨a, u, v, rfl, ha, hu, hv, q1, q2⟩
    · refine ⟨_, rfl, y, .ty "list", _, _, false, rfl, .ty "list", hy.tyX, kit_ty (kit_list hy), false, rfl, iteF ?_⟩
      refine ⟨_, rfl, p, dx, fs, rfl, hp, hno _ (by decide +kernel) (by decide +kernel), _, rfl, p, d, l, L, y, rfl, hL, hy, hlen, fun x e hx H' kp hL' => q1 x e hx H' kp hL', fun hb H' sm σ hσ => ?_⟩
      have hσ : σ.length = 3 := hσ
      refine ⟨true, eR, fun _ b _ => ?_, fun z => Bool.noConfusion z⟩
      refine ⟨_, set_at (by omega), fun oe hz hf => ⟨c_NoRow, rfl, hz, hf, .inl ⟨rfl, fun H2 sm2 => ?_⟩⟩⟩
      refine ⟨(by show 1 ≤ sizeLine; decide), fun t ht => ?_⟩
      exact q2 hb _ t (sm.trans (sm2.trans (same_upd ht))) upd_same
    · refine ⟨_, rfl, .ref a, .ty "list", _, _, true, rfl, .ty "list", .base (.lst ha), kit_ty (by decide +kernel), true, rfl, iteT ?_⟩
      refine ⟨_, rfl, p, dx, fs, rfl, hp, hno _ (by decide +kernel) (by decide +kernel), _, rfl, a, _, 0, u, rfl, rfl, SqL.of ha, rfl, _, rfl, a, _, 1, v, rfl, rfl, SqL.of ha, rfl, ?_⟩
      refine ⟨p, d, l, L, u, v, rfl, hL, hu, hv, hlen, q1, fun hg σ hσ => ?_⟩
      have hσ : σ.length = 3 := hσ
      refine ⟨true, eS, fun _ b _ => ?_, fun z => Bool.noConfusion z⟩
      refine ⟨_, set_at (by omega), fun oe hz hf => ⟨c_NoSum, rfl, hz, hf, .inr ⟨rfl, fun H2 sm2 => ?_⟩⟩⟩
      refine ⟨(by show 1 ≤ sizeLine; decide), fun t ht => ?_⟩
      exact q2 hg _ t (sm2.trans (same_upd ht)) upd_same
theorem ok_law_what {f_law_class : Addr} {d_law_class : FuncData} (D : Dfn K mg "_law_what" s_law_what ["_law_ledger", "_law_number"]) (T_Ledger : TLed K mg C) (B : Bi mg) (X_TwinError : ExT K mg "TwinError" c_TwinError)
    (eS : PySem.W.exmOne K (.ref c_NoSum) (.ref c_TwinError) = some true) (M_Ledger_what : MOk P w K mg base (L2.CX P w) C "what" 3 ["self", "number"] (spWhat w C c_NoSum))
    (C_law_class : FnE P w K mg base 1 f_law_class d_law_class ["_law_e"] (spClass c_NoRow c_NoSum)) (m_law_class : mg "_law_class" = some (.ref f_law_class)) (k_law_class : PySem.W.keepIn K (.ref f_law_class) = true) (b_law_class : Binds K d_law_class ["_law_e"] []) :
    COk P w K mg base CX0 "_law_what" 4 ["_law_ledger", "_law_number"] (spAskWhat w C) := by
  obtain ⟨f_Ledger_what, d_Ledger_what, G_Ledger_what, m_Ledger_what, b_Ledger_what⟩ := M_Ledger_what.ex
  refine c_mk D sc_law_what (fun vs H Q E h => ?_) (fun f cdv A outer s H vs Q E hr h => ?_)
  · obtain ⟨p, d, l, L, y, rfl, _⟩ := h
    rfl
  · obtain ⟨p, d, l, L, y, rfl, hL, hy, hlen, q1, q2⟩ := h
    refine ⟨_, (pss_one (ps_try_as (i := 2) rfl rfl sc_law_what.nd rfl rfl ⟨rfl, by decide, .inl X_TwinError.g⟩ takes0 (fun W pn xe tk _ => (pss_one (ps_ret (pe_meth (pv 0) T_Ledger.cl m_Ledger_what G_Ledger_what (hr.mono (by decide)) b_Ledger_what .nil (passLen 3 tk rfl) (pa_cons (pv 1) pa_nil)))))
      (fun a oe cls d pn hz hf => (pss_one (ps_ret (pe_lst (pa_cons (pe_ce hz hf C_law_class (roomSuite hr (by decide)) List.mem_cons_self (by rfl) m_law_class k_law_class b_law_class (pa_cons (pv 2) pa_nil)) pa_nil))))))), ?_⟩
    obtain ⟨dx, fs, hp, hfS, hfT, hno⟩ := hL.ob
    refine ⟨_, rfl, p, dx, fs, rfl, hp, hno _ (by decide +kernel) (by decide +kernel), _, rfl, p, d, l, L, y, rfl, hL, hy, hlen, q1, fun hg σ hσ => ?_⟩
    have hσ : σ.length = 3 := hσ
    refine ⟨true, eS, fun _ b _ => ?_, fun z => Bool.noConfusion z⟩
    refine ⟨_, set_at (by omega), fun oe hz hf => ⟨c_NoSum, rfl, hz, hf, .inr ⟨rfl, fun H2 sm2 => ?_⟩⟩⟩
    refine ⟨(by show 1 ≤ sizeLine; decide), fun t ht => ?_⟩
    exact q2 hg _ t (sm2.trans (same_upd ht)) upd_same
theorem not_row {x : Str} {c : Nat} (h : c ∈ x.cps.toList) (n : c ∉ signS.cps.toList) : rowV (.str x) = false := by
  show (decide (x.length ≤ 40) && _) = false
  rw [Bool.and_eq_false_iff]
  right
  rw [List.all_eq_false]
  exact ⟨c, h, by simpa using n⟩
theorem ok_bad (D : Dfn K mg "_law_bad" s_law_bad ["_law_cell", "_law_many"]) (B : Bi mg) : COk P w K mg base CX0 "_law_bad" 1 ["_law_cell", "_law_many"] spBad := by
  refine c_mk D sc_law_bad (fun vs H Q E h => ?_) (fun f cdv A outer s H vs Q E hr h => ?_)
  · obtain ⟨c, m, rfl, _⟩ := h
    rfl
  · obtain ⟨c, m, rfl, hm, q⟩ := h
    refine ⟨_, (pss_cons (ps_set (i := 2) sc_law_bad.nd rfl (.inl rfl) (pe_op op_add_str (pe_op op_add_str pe_str (pe_ix ix_str pe_str (pe_op op_mod (pe_op op_fdiv (pv 0) pe_int) pe_int) (fun _ _ => rfl))) pe_str))
      (pss_cons (ps_set (i := 3) sc_law_bad.nd rfl (.inl rfl) (pe_op op_add_str (pe_op op_repS pe_str (pe_op op_mod (pe_op op_fdiv (pv 0) pe_int) pe_int)) (pe_ix ix_list (pe_lst (pa_cons pe_str (pa_cons pe_str pa_nil))) (pe_op op_mod (pe_op op_fdiv (pv 0) pe_int) pe_int) (fun _ _ => rfl))))
      (pss_cons (ps_set (i := 4) sc_law_bad.nd rfl (.inl rfl) (pe_ix ix_list (pe_lst (pa_cons pe_int (pa_cons pe_non (pa_cons (pe_op op_repS pe_str pe_int) (pa_cons pe_str (pa_cons pe_str (pa_cons (pe_tup (pa_cons pe_str pa_nil)) (pa_cons (pv 3) (pa_cons (pv 2) pa_nil))))))))) (pe_op op_mod (pv 0) pe_int) (fun _ _ => rfl)))
      (pss_cons (ps_if (pt_cmpR op_eq (pe_op op_mod (pe_op op_fdiv (pv 0) pe_int) pe_int) pe_int (nomark _)) (pss_one (ps_ret (pe_tup (pa_cons (pv 4) (pa_cons pe_str pa_nil))))) pss_nil)
      (Evl.pss_cut (ps_set (i := 5) sc_law_bad.nd rfl (.inl rfl) (pe_ix ix_list (pe_lst (pa_cons (pv 1) (pa_cons (pe_un un_neg pe_int) (pa_cons (pe_op op_add (pv 1) (pe_op op_mod (pe_op op_fdiv (pv 0) pe_int) (pe_op op_pow pe_int pe_int))) (pa_cons pe_bl (pa_cons pe_str (pa_cons pe_non pa_nil))))))) (pe_op op_mod (pe_op op_fdiv (pv 0) pe_int) pe_int) (fun _ _ => rfl)))
      (Evl.pss_cut (ps_if ((pw_or (pt_cmpR op_lt (pv 1) pe_int (nomark _)) (pw_or1 (pt_cmpR op_eq (pe_op op_mod (pe_op op_fdiv (pv 0) pe_int) pe_int) pe_int (nomark _))))).pt (pss_one (ps_ret (pe_tup (pa_cons (pe_lst (pa_cons (pv 5) (pa_cons pe_int pa_nil))) (pa_cons pe_str pa_nil))))) pss_nil)
      (pss_one (ps_ret (pe_tup (pa_cons (pe_lst (pa_cons pe_int (pa_cons (pv 5) pa_nil))) (pa_cons pe_str pa_nil))))))))))), ?_⟩
    -- within: an odd sign
    have oddS : ∀ d ∈ (Str.ofString ".:_+~^#*\n\t").cps.toList, d ∉ signS.cps.toList := by decide +kernel
    obtain ⟨n, en, hn⟩ := mod_nat (x := c / 8) (m := 10) (by decide)
    have hl10 : (Str.ofString ".:_+~^#*\n\t").cps.toList.length = 10 := by decide +kernel
    obtain ⟨o, ho, hom⟩ : ∃ o, (Str.ofString ".:_+~^#*\n\t").cps.toList[n]? = some o ∧ o ∈ (Str.ofString ".:_+~^#*\n\t").cps.toList := ⟨_, List.getElem?_eq_getElem (by omega), List.getElem_mem _⟩
    refine ⟨_, rfl, _, _, rfl, rfl, ⟨by decide, by decide⟩, _, _, rfl, rfl, (by show (0 : Int) < 10; decide), Str.ofString ".:_+~^#*\n\t", (n : Int), o, rfl, ?_, sl40 (by decide +kernel), atI_nat ho, _, _, rfl, rfl, sl40 (by show (Str.ofString "a").length + 1 ≤ 1000000; decide +kernel), _, _, rfl, rfl, ?_, ?_⟩
    · show V.int (c / 8 % 10) = _
      rw [en]
    · rw [app_len]
      exact sl40 (by show (Str.ofString "a").length + 1 + (Str.ofString "b").length ≤ 1000000; decide +kernel)
    have wlen : ((Str.ofString "a") ++ (⟨#[o]⟩ : Str) ++ (Str.ofString "b")).length ≤ 1000000 := by
      rw [app_len, app_len]
      show (Str.ofString "a").length + 1 + (Str.ofString "b").length ≤ 1000000
      decide +kernel
    have wrow : rowV (.str ((Str.ofString "a") ++ (⟨#[o]⟩ : Str) ++ (Str.ofString "b"))) = false := not_row (c := o) (by rw [app_cps, app_cps]; simp) (oddS o hom)
    generalize (Str.ofString "a") ++ (⟨#[o]⟩ : Str) ++ (Str.ofString "b") = wi at wlen wrow ⊢
    -- behind
    obtain ⟨k, ek, hk⟩ := mod_nat (x := c / 8) (m := 3) (by decide)
    refine ⟨_, rfl, _, _, rfl, rfl, ⟨by decide, by decide⟩, _, _, rfl, rfl, (by show (0 : Int) < 3; decide), Str.ofString "a", k, rfl, ?_, by decide +kernel, by omega, fun r hrl hrc => ?_⟩
    · show V.int (c / 8 % 3) = _
      rw [ek]
    refine ⟨sl40 (by show 2 ≤ 1000000; decide), fun p1 hp1 => ?_⟩
    refine ⟨_, rfl, _, _, rfl, rfl, ⟨by decide, by decide⟩, _, _, rfl, rfl, (by show (0 : Int) < 2; decide), ?_⟩
    obtain ⟨v, hv, hat⟩ := at_mod (xs := [V.str (Str.ofString "\n"), V.str (Str.ofString "\t")]) (c := c / 24) (m := 2) rfl (by decide)
    obtain ⟨z, e, hzl, d, hd, hds⟩ : ∃ z, v = .str z ∧ z.length = 1 ∧ ∃ d ∈ z.cps.toList, d ∉ signS.cps.toList := by
      simp only [List.mem_cons, List.not_mem_nil, or_false] at hv
      rcases hv with rfl | rfl
      · exact ⟨_, rfl, by decide +kernel, 10, by decide +kernel, by decide +kernel⟩
      · exact ⟨_, rfl, by decide +kernel, 9, by decide +kernel, by decide +kernel⟩
    subst e
    have e1 : (Str.ofString "a").length = 1 := by decide +kernel
    rw [e1] at hrl
    refine ⟨p1, _, _, .str z, rfl, rfl, SqL.of upd_same, hat, r, z, rfl, rfl, sl40 (by omega), ?_⟩
    have blen : (r ++ z).length ≤ 1000000 := by
      rw [app_len]
      omega
    have brow : rowV (.str (r ++ z)) = false := not_row (c := d) (by rw [app_cps]; exact List.mem_append_right _ hd) hds
    generalize r ++ z = be at blen brow ⊢
    have sm1 := same_upd (o := .lst [V.str (Str.ofString "\n"), V.str (Str.ofString "\t")]) hp1
    generalize upd H p1 (.lst [V.str (Str.ofString "\n"), V.str (Str.ofString "\t")]) = H1 at sm1 ⊢
    -- the row
    refine ⟨Str.ofString "a", 41, rfl, rfl, by decide +kernel, by decide, fun r41 h41 _ => ?_⟩
    rw [e1] at h41
    have l41 : rowV (.str r41) = false := by
      show (decide (r41.length ≤ 40) && _) = false
      rw [decide_eq_false (by omega)]
      rfl
    refine ⟨sl40 (by show 1 ≤ 1000000; decide), fun p2 hp2 => ?_⟩
    have sm2 := same_upd (o := .tup [V.str (Str.ofString "a")]) hp2
    refine ⟨_, rfl, _, rfl, sl40 (by show 8 ≤ 1000000; decide), fun p3 hp3 => ?_⟩
    have sm3 := same_upd (o := .lst [V.int 5, .non, .str r41, .str (Str.ofString "A"), .str (Str.ofString "a-b"), .ref p2, .str be, .str wi]) hp3
    have t2 : (upd (upd H1 p2 (.tup [V.str (Str.ofString "a")])) p3 (.lst [V.int 5, .non, .str r41, .str (Str.ofString "A"), .str (Str.ofString "a-b"), .ref p2, .str be, .str wi])) p2 = some (.tup [V.str (Str.ofString "a")]) := sm3 _ _ upd_same
    obtain ⟨y, hy, hyat⟩ := at_mod (xs := [V.int 5, .non, .str r41, .str (Str.ofString "A"), .str (Str.ofString "a-b"), .ref p2, .str be, .str wi]) (c := c) (m := 8) rfl (by decide)
    refine ⟨_, rfl, _, _, rfl, rfl, (by show (0 : Int) < 8; decide), p3, _, _, y, rfl, rfl, SqL.of upd_same, hyat, ?_⟩
    have sm := sm1.trans (sm2.trans sm3)
    have hyA : AnyV (upd (upd H1 p2 (.tup [V.str (Str.ofString "a")])) p3 (.lst [V.int 5, .non, .str r41, .str (Str.ofString "A"), .str (Str.ofString "a-b"), .ref p2, .str be, .str wi])) y ∧ rowV y = false := by
      simp only [List.mem_cons, List.not_mem_nil, or_false] at hy
      rcases hy with rfl | rfl | rfl | rfl | rfl | rfl | rfl | rfl
      · exact ⟨.int 5, rfl⟩
      · exact ⟨.non, rfl⟩
      · exact ⟨.str _ (sl40 (by omega)), l41⟩
      · exact ⟨.str _ (sl40 (by decide +kernel)), by show rowStr (Str.ofString "A") = false; decide +kernel⟩
      · exact ⟨.str _ (sl40 (by decide +kernel)), by show rowStr (Str.ofString "a-b") = false; decide +kernel⟩
      · exact ⟨.tup t2, rfl⟩
      · exact ⟨.str _ (sl40 blen), brow⟩
      · exact ⟨.str _ (sl40 wlen), wrow⟩
    generalize upd (upd H1 p2 (.tup [V.str (Str.ofString "a")])) p3 (.lst [V.int 5, .non, .str r41, .str (Str.ofString "A"), .str (Str.ofString "a-b"), .ref p2, .str be, .str wi]) = H3 at sm hyA ⊢
    obtain ⟨hyA, hyR⟩ := hyA
    have tupK : ∀ {Ha Hb : Hp}, Same Ha Hb → ∀ b xs, Ha b = some (.tup xs) → Hb b = some (.tup xs) := fun s b xs e => s b _ e
    refine ⟨_, rfl, _, _, rfl, rfl, ⟨by decide, by decide⟩, _, _, rfl, rfl, (by show (0 : Int) < 2; decide), rfl, _, rfl, ite2 (fun _ => ?_) (fun _ => ?_)⟩
    · refine ⟨_, rfl, sl40 (by show 2 ≤ 1000000; decide), fun t ht => ?_⟩
      have smt := same_upd (o := .tup [y, V.str (Str.ofString "NoRow")]) ht
      exact q _ t (sm.trans smt) (.inl ⟨y, upd_same, hyA.keep (tupK smt), hyR⟩)
    -- the number
    refine ⟨fun σ H' => ∃ u, (∀ H2 : Hp, AnyV H2 u) ∧ (∀ L : List Th, L.length = m → gaveV L u = none) ∧ Same H H' ∧ σ = [some (.int c), some (.int (m : Int)), some (.str wi), some (.str be), some y, some u], ?_, ?_⟩
    · refine ⟨_, rfl, _, rfl, _, rfl, _, rfl, _, _, rfl, rfl, ⟨by decide, by decide⟩, _, _, rfl, rfl, ⟨by decide, by decide, by decide⟩, _, _, rfl, rfl, (by show (0 : Int) < 10 ^ 9; decide), _, _, rfl, rfl, ?_⟩
      refine ⟨sl40 (by show 6 ≤ 1000000; decide), fun p4 hp4 => ?_⟩
      obtain ⟨nn, enn, hnn⟩ := mod_nat (x := c / 999) (m := 10 ^ 9) (by decide)
      obtain ⟨u, hu, huat⟩ := at_mod (xs := [V.int (m : Int), .int (-1), .int ((m : Int) + c / 999 % 10 ^ 9), .bl true, .str (Str.ofString "0"), .non]) (c := c / 128) (m := 6) rfl (by decide)
      refine ⟨_, rfl, _, _, rfl, rfl, ⟨by decide, by decide⟩, _, _, rfl, rfl, (by show (0 : Int) < 6; decide), p4, _, _, u, rfl, rfl, SqL.of upd_same, huat, u, ?_, ?_, sm.trans (same_upd hp4), rfl⟩
      · simp only [List.mem_cons, List.not_mem_nil, or_false] at hu
        rcases hu with rfl | rfl | rfl | rfl | rfl | rfl
        · exact fun _ => .int _
        · exact fun _ => .int _
        · exact fun _ => .int _
        · exact fun _ => .bl _
        · exact fun _ => .str _ (sl40 (by decide +kernel))
        · exact fun _ => .non
      · simp only [List.mem_cons, List.not_mem_nil, or_false] at hu
        rcases hu with rfl | rfl | rfl | rfl | rfl | rfl
        · exact fun L hL => gave_out (by omega)
        · exact fun L hL => gave_out (by omega)
        · rw [enn]
          exact fun L hL => gave_out (by omega)
        · exact fun _ _ => rfl
        · exact fun _ _ => rfl
        · exact fun _ _ => rfl
    rintro σ H4 ⟨u, hu1, hu2, sm', rfl⟩
    have end1 : ∀ (u1 v1 : V), (∀ H' : Hp, AnyV H' u1) → (∀ H' : Hp, AnyV H' v1) → (∀ L : List Th, L.length = m → gaveV L u1 = none ∨ gaveV L v1 = none) → ∀ p5, H4 p5 = none → ∀ t, (upd H4 p5 (.lst [u1, v1])) t = none → Q (.ref t) (upd (upd H4 p5 (.lst [u1, v1])) t (.tup [.ref p5, .str (Str.ofString "NoSum")])) := fun u1 v1 h1 h2 h3 p5 hp5 t ht =>
      q _ t (sm'.trans ((same_upd hp5).trans (same_upd ht))) (.inr ⟨p5, u1, v1, upd_same, same_upd ht _ _ upd_same, h1 _, h2 _, h3⟩)
    refine ⟨fun σ H' => H4 = H' ∧ σ = [some (.int c), some (.int (m : Int)), some (.str wi), some (.str be), some y, some u], ?_, ?_⟩
    · refine ⟨_, rfl, _, _, rfl, rfl, _, rfl, ite2 (fun _ => ?_) (fun _ => ?_)⟩
      · refine iteT ?_
        refine ⟨_, rfl, sl40 (by show 2 ≤ 1000000; decide), fun p5 hp5 => ?_⟩
        refine ⟨sl40 (by show 2 ≤ 1000000; decide), fun t ht => ?_⟩
        exact end1 u (.int 0) hu1 (fun _ => .int 0) (fun L hL => .inl (hu2 L hL)) p5 hp5 t ht
      · refine ⟨_, rfl, _, _, rfl, rfl, ⟨by decide, by decide⟩, _, _, rfl, rfl, (by show (0 : Int) < 2; decide), rfl, _, rfl, ite2 (fun _ => ?_) (fun _ => ?_)⟩
        · refine ⟨_, rfl, sl40 (by show 2 ≤ 1000000; decide), fun p5 hp5 => ?_⟩
          refine ⟨sl40 (by show 2 ≤ 1000000; decide), fun t ht => ?_⟩
          exact end1 u (.int 0) hu1 (fun _ => .int 0) (fun L hL => .inl (hu2 L hL)) p5 hp5 t ht
        · exact ⟨rfl, rfl⟩
    rintro σ _ ⟨rfl, rfl⟩
    refine ⟨_, rfl, sl40 (by show 2 ≤ 1000000; decide), fun p5 hp5 => ?_⟩
    refine ⟨sl40 (by show 2 ≤ 1000000; decide), fun t ht => ?_⟩
    exact end1 (.int 0) u (fun _ => .int 0) hu1 (fun L hL => .inr (hu2 L hL)) p5 hp5 t ht
end

section
variable {P : Program} {w : World} {K : PySem.W.Frag} {mg : Str → Option Value} {base : Heap} {C c_NoRow c_NoSum c_TwinError : Addr}
theorem lg {n : Nat} (h : n < 1000000) : ((n : Int)).natAbs.log2 < 1920 := by
  show n.log2 < 1920
  by_cases h0 : n = 0
  · rw [h0]
    decide
  · have := (Nat.log2_lt h0).mpr (show n < 2 ^ 20 by omega)
    omega
theorem get_pair {F : Th → V → Prop} {L : List Th} {us : List V} (h : Paired F L us) {n : Nat} (hn : n < L.length) : ∃ t v, L[n]? = some t ∧ us[n]? = some v ∧ F t v := by
  obtain ⟨v, hv, hf⟩ := pair_at h (List.getElem?_eq_getElem hn)
  exact ⟨_, v, List.getElem?_eq_getElem hn, hv, hf⟩
theorem ok_thing (D : Dfn K mg "_law_thing" s_law_thing ["_law_things", "_law_cell"]) (B : Bi mg) (C_law_mix : COk P w K mg base CX0 "_law_mix" 1 ["_law_number", "_law_k"] spMix) (C_law_near : COk P w K mg base CX0 "_law_near" 1 ["_law_text_here", "_law_cell"] spNear)
    (C_law_text : COk P w K mg base CX0 "_law_text" 2 ["_law_cell"] spText) : COk P w K mg base CX0 "_law_thing" 3 ["_law_things", "_law_cell"] spThing := by
  refine c_mk D sc_law_thing (fun vs H Q E h => ?_) (fun f cdv A outer s H vs Q E hr h => ?_)
  · obtain ⟨a, us, L, c, rfl, _⟩ := h
    rfl
  · obtain ⟨a, us, L, c, rfl, ha, hp, hG, hlen, hnd, q⟩ := h
    refine ⟨_, (pss_cons (ps_set (i := 2) sc_law_thing.nd rfl (.inl rfl) (pe_callB (id := "len") call_len_seq (by rfl) B.len (by decide +kernel) (pa_cons (pv 0) pa_nil)))
      (Evl.pss_cut (ps_if ((pw_and (pt_cmpR op_eq (pe_op op_mod (pv 1) pe_int) pe_int (nomark _)) (pw_and1 (pt_cmpR op_gt (pv 2) pe_int (nomark _))))).pt (pss_cons (ps_set (i := 3) sc_law_thing.nd rfl (.inl rfl) (pe_op op_mod (pe_c C_law_mix hr (by rfl) (pa_cons (pv 1) (pa_cons pe_int pa_nil))) (pv 2)))
      (pss_cons (ps_set (i := 4) sc_law_thing.nd rfl (.inl rfl) (pe_ix ix_list (pe_lst (pa_cons (pv 3) (pa_cons (pe_op op_mod (pe_c C_law_mix hr (by rfl) (pa_cons (pv 1) (pa_cons pe_int pa_nil))) (pv 2)) (pa_cons (pe_op op_sub (pv 2) pe_int) pa_nil)))) (pe_op op_mod (pe_c C_law_mix hr (by rfl) (pa_cons (pv 1) (pa_cons pe_int pa_nil))) pe_int) (fun _ _ => rfl)))
      (pss_one (ps_ret (pe_lst (pa_cons (pv 3) (pa_cons (pv 4) pa_nil))))))) pss_nil)
      (Evl.pss_cut (ps_if ((pw_and (pt_cmpR op_eq (pe_op op_mod (pv 1) pe_int) pe_int (nomark _)) (pw_and1 (pt_cmpR op_gt (pv 2) pe_int (nomark _))))).pt (pss_cons (ps_set (i := 5) sc_law_thing.nd rfl (.inl rfl) (pe_ix ix_list (pv 0) (pe_op op_mod (pe_c C_law_mix hr (by rfl) (pa_cons (pv 1) (pa_cons pe_int pa_nil))) (pv 2)) (fun _ _ => rfl)))
      (Evl.pss_cut (ps_if ((pw_and (pt_val (pe_callB (id := "isinstance") call_isi (by rfl) B.isinstance (by decide +kernel) (pa_cons (pv 5) (pa_cons (pe_bltn (v := .ty "tuple") (u := .type "tuple") (by rfl) B.tuple (by decide +kernel) rfl) pa_nil)))) (pw_and1 (pt_cmpR op_eq (pe_op op_mod (pe_op op_fdiv (pv 1) pe_int) pe_int) pe_int (nomark _))))).pt (pss_cons (ps_set (i := 6) sc_law_thing.nd rfl (.inl rfl) (pe_ix ix_list (pe_lst (pa_cons pe_str (pa_cons pe_str (pa_cons pe_str (pa_cons pe_str (pa_cons pe_str (pa_cons pe_str pa_nil))))))) (pe_op op_mod (pe_op op_fdiv (pv 1) pe_int) pe_int) (fun _ _ => rfl)))
      (pss_one (ps_ret (pe_op op_add_str (pe_op op_add_str (pe_op op_add_str (pe_ix ix_list (pe_lst (pa_cons pe_str (pa_cons pe_str (pa_cons pe_str pa_nil)))) (pe_op op_mod (pe_op op_fdiv (pv 1) pe_int) pe_int) (fun _ _ => rfl)) (pe_callTy (T := "str") call_str_int (by rfl) B.str (by decide +kernel) (pa_cons (pe_ix ix_tup (pv 5) pe_int (fun _ _ => rfl)) pa_nil))) (pv 6)) (pe_callTy (T := "str") call_str_int (by rfl) B.str (by decide +kernel) (pa_cons (pe_ix ix_tup (pv 5) pe_int (fun _ _ => rfl)) pa_nil)))))) pss_nil)
      (pss_cons (ps_if (pt_val (pe_callB (id := "isinstance") call_isi (by rfl) B.isinstance (by decide +kernel) (pa_cons (pv 5) (pa_cons (pe_bltn (v := .ty "tuple") (u := .type "tuple") (by rfl) B.tuple (by decide +kernel) rfl) pa_nil)))) (pss_one (ps_ret (pe_lst (pa_cons (pe_ix ix_tup (pv 5) (pe_op op_mod (pe_op op_fdiv (pv 1) pe_int) pe_int) (fun _ _ => rfl)) (pa_cons (pe_ix ix_tup (pv 5) (pe_op op_sub pe_int (pe_op op_mod (pe_op op_fdiv (pv 1) pe_int) pe_int)) (fun _ _ => rfl)) pa_nil))))) pss_nil)
      (pss_cons (ps_if (pt_cmpR op_eq (pe_op op_mod (pe_op op_fdiv (pv 1) pe_int) pe_int) pe_int (nomark _)) (pss_one (ps_ret (pe_callTy (T := "str") call_str_int (by rfl) B.str (by decide +kernel) (pa_cons (pe_bm PySem.F.plainAttrs_list PySem.F.slot_list_index PySem.F.type_list_index (mt_indexD (hu65 hr)) (pv 0) (pa_cons (pv 5) pa_nil)) pa_nil)))) pss_nil)
      (pss_one (ps_ret (pe_c C_law_near hr (by rfl) (pa_cons (pv 5) (pa_cons (pe_c C_law_mix hr (by rfl) (pa_cons (pv 1) (pa_cons pe_int pa_nil))) pa_nil))))))))) pss_nil)
      (pss_one (ps_ret (pe_c C_law_text hr (by rfl) (pa_cons (pe_op op_mod (pe_c C_law_mix hr (by rfl) (pa_cons (pv 1) (pa_cons pe_int pa_nil))) (pe_ix ix_list (pe_lst (pa_cons pe_int (pa_cons pe_int pa_nil))) (pe_op op_mod (pe_op op_fdiv (pv 1) pe_int) pe_int) (fun _ _ => rfl))) pa_nil))))))), ?_⟩
    have hul : us.length = L.length := (Paired.length hp).symm
    refine ⟨_, rfl, a, us, rfl, .inl (SqL.of ha), ?_⟩
    rw [hul]
    have S0 : ∀ {H' : Hp}, Same H H' → Same H H' := fun h => h
    refine ⟨fun σ H' => H = H' ∧ σ = [some (.ref a), some (.int c), some (.int (L.length : Int)), none, none, none, none], ?_, ?_⟩
    · -- a pair of numbers
      refine ⟨_, rfl, _, _, rfl, rfl, (by show (0 : Int) < 4; decide), rfl, _, rfl, ite2 (fun _ => ?_) (fun _ => ?_)⟩
      · refine ⟨_, rfl, _, _, rfl, rfl, _, rfl, ite2 (fun e => ?_) (fun _ => ?_)⟩
        · have h0 : (0 : Int) < (L.length : Int) := of_decide_eq_true e
          obtain ⟨n1, e1, g1⟩ := mod_nat (x := mixF c 1) h0
          obtain ⟨n2, e2, g2⟩ := mod_nat (x := mixF c 2) h0
          refine ⟨_, rfl, c, 1, rfl, _, rfl, _, _, rfl, rfl, h0, ?_⟩
          refine ⟨_, rfl, _, rfl, c, 2, rfl, _, rfl, _, _, rfl, rfl, h0, _, rfl, _, _, rfl, rfl, ?_⟩
          refine ⟨sl40 (by show 3 ≤ 1000000; decide), fun p1 hp1 => ?_⟩
          obtain ⟨v, hv, hat⟩ := at_mod (xs := [V.int (mixF c 1 % (L.length : Int)), .int (mixF c 2 % (L.length : Int)), .int ((L.length : Int) - 1)]) (c := mixF c 3) (m := 3) rfl (by decide)
          refine ⟨_, rfl, c, 3, rfl, _, _, rfl, rfl, (by show (0 : Int) < 3; decide), p1, _, _, v, rfl, rfl, SqL.of upd_same, hat, ?_⟩
          obtain ⟨m, rfl, hm⟩ : ∃ m : Nat, v = .int (m : Int) ∧ m < L.length := by
            simp only [List.mem_cons, List.not_mem_nil, or_false] at hv
            rcases hv with rfl | rfl | rfl
            · exact ⟨n1, by rw [e1], by omega⟩
            · exact ⟨n2, by rw [e2], by omega⟩
            · exact ⟨L.length - 1, by congr 1; omega, by omega⟩
          refine ⟨_, rfl, _, rfl, sl40 (by show 2 ≤ 1000000; decide), fun p2 hp2 => ?_⟩
          refine q _ _ ((same_upd hp1).trans (same_upd hp2)) (.inr ⟨p2, n1, m, rfl, ?_, by omega, hm⟩)
          rw [upd_same]
          show some (HO.lst [V.int (mixF c 1 % (L.length : Int)), V.int (m : Int)]) = _
          rw [e1]
        · exact ⟨rfl, rfl⟩
      · exact iteF ⟨rfl, rfl⟩
    rintro σ _ ⟨rfl, rfl⟩
    refine ⟨fun σ H' => H = H' ∧ σ = [some (.ref a), some (.int c), some (.int (L.length : Int)), none, none, none, none], ?_, ?_⟩
    · refine ⟨_, rfl, _, _, rfl, rfl, (by show (0 : Int) < 4; decide), rfl, _, rfl, ite2 (fun _ => ?_) (fun _ => ?_)⟩
      · refine ⟨_, rfl, _, _, rfl, rfl, _, rfl, ite2 (fun e => ?_) (fun _ => ?_)⟩
        · have h0 : (0 : Int) < (L.length : Int) := of_decide_eq_true e
          obtain ⟨n1, e1, g1⟩ := mod_nat (x := mixF c 4) h0
          obtain ⟨t, v, ht, hv, hth⟩ := get_pair hp (n := n1) (by omega)
          have htm : t ∈ L := List.mem_of_getElem? ht
          refine ⟨_, rfl, _, rfl, c, 4, rfl, _, rfl, _, _, rfl, rfl, h0, a, us, (n1 : Int), v, rfl, ?_, SqL.of ha, atI_nat hv, ?_⟩
          · show V.int (mixF c 4 % (L.length : Int)) = _
            rw [e1]
          cases t with
          | row x =>
            have hx := (hG _ htm).1 x rfl
            have ev : v = .str x := hth
            subst ev
            refine ⟨fun σ H' => H = H' ∧ σ = [some (.ref a), some (.int c), some (.int (L.length : Int)), none, none, some (.str x), none], ?_, ?_⟩
            · refine ⟨_, rfl, .str x, .ty "tuple", _, _, false, rfl, .ty "tuple", .base (.str x), kit_ty (by decide +kernel), false, rfl, iteF ?_⟩
              exact ⟨rfl, rfl⟩
            rintro σ _ ⟨rfl, rfl⟩
            refine ⟨_, rfl, .str x, .ty "tuple", _, _, false, rfl, .ty "tuple", .base (.str x), kit_ty (by decide +kernel), false, rfl, iteF ?_⟩
            refine ⟨_, rfl, _, _, rfl, rfl, ⟨by decide, by decide⟩, _, _, rfl, rfl, (by show (0 : Int) < 3; decide), rfl, _, rfl, ite2 (fun _ => ?_) (fun _ => ?_)⟩
            · have hn1 : n1 < L.length := by omega
              refine ⟨_, rfl, .inl ⟨rfl, _, SqL.of ha⟩, _, rfl, a, .str x, thD (.row x), L.map thD, n1, thD (.row x), rfl, rfl, Th.dps ha hp, .str x, shapedL fun t ht => hG.good ht, shaped1 (thD_ok (hG.good htm)), ?_, ?_, fun m z hm hz => ?_, ?_⟩
              · rw [List.getElem?_map, ht]
                rfl
              · rw [thD_eqv]
                exact decide_eq_true rfl
              · rw [List.getElem?_map] at hz
                cases hq : L[m]? with
                | none => rw [hq] at hz; cases hz
                | some t' =>
                  rw [hq] at hz
                  have ez : thD t' = z := Option.some.inj hz
                  rw [← ez, thD_eqv]
                  refine decide_eq_false fun e => ?_
                  subst e
                  have := (List.getElem?_inj (List.getElem?_eq_some_iff.mp hq).1 hnd).mp (hq.trans ht.symm)
                  omega
              · refine ⟨(n1 : Int), rfl, ?_, ?_⟩
                · exact lg (by omega)
                · exact q _ _ (fun _ _ h => h) (.inl ⟨_, rfl, okS_mono (okS_num n1 (by omega)) (by decide)⟩)
            · refine ⟨_, rfl, _, rfl, c, 5, rfl, x, _, rfl, hx, fun y hy => ?_⟩
              exact q _ _ (fun _ _ h => h) (.inl ⟨y, rfl, hy⟩)
          | pair i j =>
            have hij := (hG _ htm).2 i j rfl
            obtain ⟨b, rfl, hb⟩ := hth
            obtain ⟨i', rfl⟩ : ∃ n : Nat, i = (n : Int) := ⟨i.toNat, by omega⟩
            obtain ⟨j', rfl⟩ : ∃ n : Nat, j = (n : Int) := ⟨j.toNat, by omega⟩
            refine ⟨fun σ H' => H = H' ∧ σ = [some (.ref a), some (.int c), some (.int (L.length : Int)), none, none, some (.ref b), none], ?_, ?_⟩
            · refine ⟨_, rfl, .ref b, .ty "tuple", _, _, true, rfl, .ty "tuple", .base (.tup hb), kit_ty (by decide +kernel), true, rfl, iteT ?_⟩
              refine ⟨_, rfl, _, _, rfl, rfl, ⟨by decide, by decide⟩, _, _, rfl, rfl, (by show (0 : Int) < 2; decide), rfl, _, rfl, ite2 (fun _ => ?_) (fun _ => ?_)⟩
              · refine ⟨sl40 (by show 6 ≤ 1000000; decide), fun p1 hp1 => ?_⟩
                obtain ⟨v, hv6, hat⟩ := at_mod (xs := [V.str (Str.ofString " "), .str (Str.ofString ""), .str (Str.ofString "a"), .str (Str.ofString "  "), .str (Str.ofString "0"), .str (Str.ofString "x")]) (c := c / 16) (m := 6) rfl (by decide)
                refine ⟨_, rfl, _, _, rfl, rfl, ⟨by decide, by decide⟩, _, _, rfl, rfl, (by show (0 : Int) < 6; decide), p1, _, _, v, rfl, rfl, SqL.of upd_same, hat, ?_⟩
                obtain ⟨z, rfl, hz⟩ : ∃ z, v = .str z ∧ okS 2 z := by
                  simp only [List.mem_cons, List.not_mem_nil, or_false] at hv6
                  rcases hv6 with rfl | rfl | rfl | rfl | rfl | rfl <;> exact ⟨_, rfl, by unfold okS; decide +kernel⟩
                have sm1 := same_upd (o := .lst [V.str (Str.ofString " "), .str (Str.ofString ""), .str (Str.ofString "a"), .str (Str.ofString "  "), .str (Str.ofString "0"), .str (Str.ofString "x")]) hp1
                generalize upd H p1 (.lst [V.str (Str.ofString " "), .str (Str.ofString ""), .str (Str.ofString "a"), .str (Str.ofString "  "), .str (Str.ofString "0"), .str (Str.ofString "x")]) = H1 at sm1 ⊢
                refine ⟨sl40 (by show 3 ≤ 1000000; decide), fun p2 hp2 => ?_⟩
                obtain ⟨v2, hv3, hat2⟩ := at_mod (xs := [V.str (Str.ofString ""), .str (Str.ofString " "), .str (Str.ofString "r")]) (c := c / 96) (m := 3) rfl (by decide)
                obtain ⟨z2, rfl, hz2⟩ : ∃ z, v2 = .str z ∧ okS 1 z := by
                  simp only [List.mem_cons, List.not_mem_nil, or_false] at hv3
                  rcases hv3 with rfl | rfl | rfl <;> exact ⟨_, rfl, by unfold okS; decide +kernel⟩
                have sm2 := sm1.trans (same_upd (o := .lst [V.str (Str.ofString ""), .str (Str.ofString " "), .str (Str.ofString "r")]) hp2)
                have hb2 := SqT.of (K := K) (sm2 _ _ hb)
                have o1 := okS_num i' (by omega)
                have o2 := okS_num j' (by omega)
                have a1 := okS_app hz2 o1
                have a2 := okS_app a1 hz
                have a3 := okS_app a2 o2
                refine ⟨_, rfl, _, _, rfl, rfl, ⟨by decide, by decide⟩, _, _, rfl, rfl, (by show (0 : Int) < 3; decide), p2, _, _, .str z2, rfl, rfl, SqL.of upd_same, hat2, ?_⟩
                refine ⟨_, rfl, b, _, 0, _, rfl, rfl, hb2, rfl, (i' : Int), rfl, lg (by omega), _, _, rfl, rfl, ?_, ?_⟩
                · exact sl40 (by have := hz2.1; have := o1.1; omega)
                refine ⟨_, rfl, _, _, rfl, rfl, ?_, ?_⟩
                · exact sl40 (by have := a1.1; have := hz.1; omega)
                refine ⟨_, rfl, b, _, 1, _, rfl, rfl, hb2, rfl, (j' : Int), rfl, lg (by omega), _, _, rfl, rfl, ?_, ?_⟩
                · exact sl40 (by have := a2.1; have := o2.1; omega)
                exact q _ _ sm2 (.inl ⟨_, rfl, okS_mono a3 (by decide)⟩)
              · exact ⟨rfl, rfl⟩
            rintro σ _ ⟨rfl, rfl⟩
            refine ⟨_, rfl, .ref b, .ty "tuple", _, _, true, rfl, .ty "tuple", .base (.tup hb), kit_ty (by decide +kernel), true, rfl, iteT ?_⟩
            obtain ⟨n, en, hn⟩ := mod_nat (x := c / 4) (m := 2) (by decide)
            have pick : ∃ u v : Nat, atI [V.int (i' : Int), V.int (j' : Int)] (c / 4 % 2) = some (.int (u : Int)) ∧ atI [V.int (i' : Int), V.int (j' : Int)] (1 - c / 4 % 2) = some (.int (v : Int)) ∧ u < L.length ∧ v < L.length := by
              rw [en]
              have h2 : n = 0 ∨ n = 1 := by omega
              rcases h2 with rfl | rfl
              · exact ⟨i', j', rfl, rfl, by omega, by omega⟩
              · exact ⟨j', i', rfl, rfl, by omega, by omega⟩
            obtain ⟨u, v, hu, hv, hul, hvl⟩ := pick
            refine ⟨_, rfl, _, rfl, _, _, rfl, rfl, ⟨by decide, by decide⟩, _, _, rfl, rfl, (by show (0 : Int) < 2; decide), b, _, _, _, rfl, rfl, SqT.of hb, hu, ?_⟩
            refine ⟨_, rfl, _, rfl, _, _, rfl, rfl, ⟨by decide, by decide⟩, _, _, rfl, rfl, (by show (0 : Int) < 2; decide), _, _, rfl, rfl, b, _, _, _, rfl, rfl, SqT.of hb, hv, ?_⟩
            refine ⟨sl40 (by show 2 ≤ 1000000; decide), fun p2 hp2 => ?_⟩
            exact q _ _ (same_upd hp2) (.inr ⟨p2, u, v, rfl, upd_same, hul, hvl⟩)
        · exact ⟨rfl, rfl⟩
      · exact iteF ⟨rfl, rfl⟩
    rintro σ _ ⟨rfl, rfl⟩
    refine ⟨_, rfl, c, 6, rfl, sl40 (by show 2 ≤ 1000000; decide), fun p1 hp1 => ?_⟩
    obtain ⟨v, hv, hat⟩ := at_mod (xs := [V.int 9, .int 99991]) (c := c / 4) (m := 2) rfl (by decide)
    obtain ⟨m, rfl, hm⟩ : ∃ m : Int, v = .int m ∧ 0 < m := by
      simp only [List.mem_cons, List.not_mem_nil, or_false] at hv
      rcases hv with rfl | rfl
      · exact ⟨9, rfl, by decide⟩
      · exact ⟨99991, rfl, by decide⟩
    refine ⟨_, rfl, _, _, rfl, rfl, ⟨by decide, by decide⟩, _, _, rfl, rfl, (by show (0 : Int) < 2; decide), p1, _, _, _, rfl, rfl, SqL.of upd_same, hat, _, _, rfl, rfl, hm, _, rfl, fun x H' hx sm => ?_⟩
    exact q _ _ ((same_upd hp1).trans sm) (.inl ⟨x, rfl, hx⟩)
theorem th_keep {H H' : Hp} {L : List Th} {us : List V} (s : Same H H') (p : Paired (IsTh H) L us) : Paired (IsTh H') L us := Paired.mapP p fun _ _ z => z.keep fun b xs e => s b _ e
theorem ok_same (D : Dfn K mg "_law_same" s_law_same ["_law_ledger", "_law_things", "_law_cell"]) (T_Ledger : TLed K mg C) (B : Bi mg) (C_law_mix : COk P w K mg base CX0 "_law_mix" 1 ["_law_number", "_law_k"] spMix) (C_law_whole : COk P w K mg base CX0 "_law_whole" 1 ["_law_found"] spIsWhole)
    (C_law_what : COk P w K mg base CX0 "_law_what" 4 ["_law_ledger", "_law_number"] (spAskWhat w C)) (M_Ledger_many : MOk P w K mg base CX0 C "many" 1 ["self"] (spMany w C)) (M_Ledger_what : MOk P w K mg base (L2.CX P w) C "what" 3 ["self", "number"] (spWhat w C c_NoSum)) :
    COk P w K mg base CX0 "_law_same" 5 ["_law_ledger", "_law_things", "_law_cell"] (spSame w C) := by
  obtain ⟨f_Ledger_many, d_Ledger_many, G_Ledger_many, m_Ledger_many, b_Ledger_many⟩ := M_Ledger_many.ex
  obtain ⟨f_Ledger_what, d_Ledger_what, G_Ledger_what, m_Ledger_what, b_Ledger_what⟩ := M_Ledger_what.ex
  refine c_mk D sc_law_same (fun vs H Q E h => ?_) (fun f cdv A outer s H vs Q E hr h => ?_)
  · obtain ⟨p, d, l, a, us, L, c, rfl, _⟩ := h
    rfl
  · obtain ⟨p, d, l, a, us, L, c, rfl, hL, ha, hp, hG, hlen, q⟩ := h
    refine ⟨_, (pss_cons (ps_set (i := 3) sc_law_same.nd rfl (.inl rfl) (pe_callB (id := "len") call_len_seq (by rfl) B.len (by decide +kernel) (pa_cons (pv 1) pa_nil)))
      (Evl.pss_cut (ps_set (i := 4) sc_law_same.nd rfl (.inl rfl) (pe_ix ix_list (pe_lst (pa_cons (pv 3) (pa_cons (pe_un un_neg pe_int) (pa_cons pe_bl (pa_cons pe_str (pa_cons pe_non (pa_cons (pe_op op_add (pv 3) (pe_op op_mod (pe_op op_fdiv (pv 2) pe_int) (pe_op op_pow pe_int pe_int))) (pa_cons (pe_op op_sub (pe_op op_sub pe_int pe_int) (pe_op op_mod (pe_op op_fdiv (pv 2) pe_int) pe_int)) pa_nil)))))))) (pe_op op_mod (pe_c C_law_mix hr (by rfl) (pa_cons (pv 2) (pa_cons pe_int pa_nil))) pe_int) (fun _ _ => rfl)))
      (pss_cons (ps_if (pt_cmpR (op_neD hr.units) (pe_c C_law_what hr (by rfl) (pa_cons (pv 0) (pa_cons (pv 4) pa_nil))) (pe_lst (pa_cons pe_str pa_nil)) (nomark _)) (pss_one (ps_ret pe_bl)) pss_nil)
      (pss_cons (ps_if ((pw_or (pt_not (pt_val (pe_c C_law_whole hr (by rfl) (pa_cons (pe_meth0 (pv 0) T_Ledger.cl m_Ledger_many G_Ledger_many (hr.mono (by decide)) b_Ledger_many .nil pass0) pa_nil)))) (pw_or1 (pt_cmpR op_ne (pe_meth0 (pv 0) T_Ledger.cl m_Ledger_many G_Ledger_many (hr.mono (by decide)) b_Ledger_many .nil pass0) (pe_callB (id := "len") call_len_seq (by rfl) B.len (by decide +kernel) (pa_cons (pv 1) pa_nil)) (nomark _))))).pt (pss_one (ps_ret pe_bl)) pss_nil)
      (pss_cons (ps_for PassesOwn.never rfl (pi_range1 (by rfl) B.range (pa_cons (pe_callB (id := "min") (call_min2 rfl) (by rfl) B.min (by decide +kernel) (pa_cons pe_int (pa_cons (pe_callB (id := "len") call_len_seq (by rfl) B.len (by decide +kernel) (pa_cons (pv 1) pa_nil)) pa_nil))) pa_nil)) (pg_name (i := 5) sc_law_same.nd rfl (.inl rfl))
      (pss_cons (ps_set (i := 6) sc_law_same.nd rfl (.inl rfl) (pe_op op_mod (pe_c C_law_mix hr (by rfl) (pa_cons (pv 2) (pa_cons (pe_op op_add pe_int (pv 5)) pa_nil))) (pe_callB (id := "len") call_len_seq (by rfl) B.len (by decide +kernel) (pa_cons (pv 1) pa_nil))))
      (pss_cons (ps_set (i := 7) sc_law_same.nd rfl (.inl rfl) (pe_meth (pv 0) T_Ledger.cl m_Ledger_what G_Ledger_what (hr.mono (by decide)) b_Ledger_what .nil passL (pa_cons (pv 6) pa_nil)))
      (pss_one (ps_if ((pw_or (pt_cmpR (op_neD hr.units) (pv 7) (pe_ix ix_list (pv 1) (pv 6) (fun _ _ => rfl)) (nomark _)) (pw_or1 (pt_cmpR op_ne (pe_callB (id := "isinstance") call_isi (by rfl) B.isinstance (by decide +kernel) (pa_cons (pv 7) (pa_cons (pe_bltn (v := .ty "str") (u := .type "str") (by rfl) B.str (by decide +kernel) rfl) pa_nil))) (pe_callB (id := "isinstance") call_isi (by rfl) B.isinstance (by decide +kernel) (pa_cons (pe_ix ix_list (pv 1) (pv 6) (fun _ _ => rfl)) (pa_cons (pe_bltn (v := .ty "str") (u := .type "str") (by rfl) B.str (by decide +kernel) rfl) pa_nil))) (nomark _))))).pt (pss_one (ps_ret pe_bl)) pss_nil)))))
      (pss_one (ps_ret pe_bl))))))), ?_⟩
    have hul : us.length = L.length := (Paired.length hp).symm
    refine ⟨_, rfl, a, us, rfl, .inl (SqL.of ha), ?_⟩
    rw [hul]
    refine ⟨fun σ H' => Same H H' ∧ ∃ u, (∀ H2 : Hp, AnyV H2 u) ∧ gaveV L u = none ∧ σ = [some (.ref p), some (.ref a), some (.int c), some (.int (L.length : Int)), some u, none, none, none], ?_, ?_⟩
    · refine ⟨_, rfl, _, rfl, _, rfl, _, rfl, _, _, rfl, rfl, ⟨by decide, by decide⟩, _, _, rfl, rfl, ⟨by decide, by decide, by decide⟩, _, _, rfl, rfl, (by show (0 : Int) < 10 ^ 6; decide), _, _, rfl, rfl, ?_⟩
      refine ⟨_, _, rfl, rfl, _, rfl, _, _, rfl, rfl, ⟨by decide, by decide⟩, _, _, rfl, rfl, (by show (0 : Int) < 99; decide), _, _, rfl, rfl, sl40 (by show 7 ≤ 1000000; decide), fun p1 hp1 => ?_⟩
      obtain ⟨n1, e1, g1⟩ := mod_nat (x := c / 9) (m := 10 ^ 6) (by decide)
      obtain ⟨n2, e2, g2⟩ := mod_nat (x := c / 9) (m := 99) (by decide)
      obtain ⟨u, hu, huat⟩ := at_mod (xs := [V.int (L.length : Int), .int (-1), .bl true, .str (Str.ofString "0"), .non, .int ((L.length : Int) + c / 9 % 10 ^ 6), .int (0 - 1 - c / 9 % 99)]) (c := mixF c 19) (m := 7) rfl (by decide)
      refine ⟨_, rfl, c, 19, rfl, _, _, rfl, rfl, (by show (0 : Int) < 7; decide), p1, _, _, u, rfl, rfl, SqL.of upd_same, huat, same_upd hp1, u, ?_, ?_, rfl⟩
      · simp only [List.mem_cons, List.not_mem_nil, or_false] at hu
        rcases hu with rfl | rfl | rfl | rfl | rfl | rfl | rfl
        · exact fun _ => .int _
        · exact fun _ => .int _
        · exact fun _ => .bl _
        · exact fun _ => .str _ (sl40 (by decide +kernel))
        · exact fun _ => .non
        · exact fun _ => .int _
        · exact fun _ => .int _
      · simp only [List.mem_cons, List.not_mem_nil, or_false] at hu
        rcases hu with rfl | rfl | rfl | rfl | rfl | rfl | rfl
        · exact gave_out (by omega)
        · exact gave_out (by omega)
        · rfl
        · rfl
        · rfl
        · rw [e1]
          exact gave_out (by omega)
        · rw [e2]
          exact gave_out (by omega)
    rintro σ H1 ⟨sm1, u, hu1, hu2, rfl⟩
    have neSame : ∀ {d : PyData} {A B : Prop}, d.canLay0 = true → B → (if (!PyData.eqv d d) = true then A else B) := fun {d A B} hc hB => by
      rw [SeqAt.eqv_refl d hc]
      exact iteF hB
    -- what of an odd number
    refine ⟨_, rfl, _, rfl, p, d, l, L, u, rfl, hL.same sm1, hu1 _, hlen, fun i t v hg => ?_, fun _ H2 t sm2 ht => ?_⟩
    · rw [hu2] at hg
      cases hg
    refine ⟨sl40 (by show 1 ≤ 1000000; decide), fun p2 hp2 => ?_⟩
    have sm3 := same_upd (o := .lst [V.str (Str.ofString "NoSum")]) hp2
    refine ⟨.list [.str (Str.ofString "NoSum")], .list [.str (Str.ofString "NoSum")], .lst (SqL.of (sm3 _ _ ht)) (.cons (.str _) .nil), .lst (SqL.of upd_same) (.cons (.str _) .nil), by decide +kernel, by decide +kernel, _, rfl, neSame (by decide +kernel) ?_⟩
    have sm := (sm1.trans sm2).trans sm3
    have hL3 := hL.same sm
    have ha3 := sm _ _ ha
    have hp3 := th_keep sm hp
    generalize upd H2 p2 (.lst [V.str (Str.ofString "NoSum")]) = H3 at sm hL3 ha3 hp3 ⊢
    obtain ⟨dx, fs, hpI, hfS, hfT, hno⟩ := hL3.ob
    -- many
    refine ⟨_, rfl, p, dx, fs, rfl, hpI, hno _ (by decide +kernel) (by decide +kernel), p, d, l, L, rfl, hL3, _, rfl, .int _, true, rfl, iteF ?_⟩
    refine ⟨_, rfl, p, dx, fs, rfl, hpI, hno _ (by decide +kernel) (by decide +kernel), p, d, l, L, rfl, hL3, _, rfl, a, us, rfl, .inl (SqL.of ha3), rfl, _, rfl, ?_⟩
    rw [hul, decide_eq_true rfl]
    refine iteF ?_
    -- three of them
    refine ⟨_, rfl, a, us, rfl, .inl (SqL.of ha3), 3, _, rfl, _, rfl, ?_, ?_, ?_⟩
    · split <;> omega
    · split <;> omega
    refine for_range (fun i σ H' => ∃ (y5 y6 y7 : Option V), H3 = H' ∧ σ = [some (.ref p), some (.ref a), some (.int c), some (.int (L.length : Int)), some u, y5, y6, y7]) ⟨none, none, none, rfl, rfl⟩ ?_ ?_
    · rintro i σ _ hi ⟨y5, y6, y7, rfl, rfl⟩
      have hpos : (0 : Int) < (L.length : Int) := by
        rw [hul] at hi
        by_cases h3 : (L.length : Int) < 3
        · rw [if_pos h3] at hi
          omega
        · omega
      obtain ⟨n, en, hn⟩ := mod_nat (x := mixF c (20 + ((0 : Int) + (i : Int)))) hpos
      obtain ⟨t', v', ht', hv', hth'⟩ := get_pair hp3 (n := n) (by omega)
      have htm : t' ∈ L := List.mem_of_getElem? ht'
      refine ⟨_, rfl, _, rfl, _, _, rfl, rfl, c, _, rfl, _, rfl, a, us, rfl, .inl (SqL.of ha3), _, _, rfl, rfl, ?_, ?_⟩
      · show (0 : Int) < (us.length : Int)
        rw [hul]
        exact hpos
      refine ⟨_, rfl, p, dx, fs, rfl, hpI, hno _ (by decide +kernel) (by decide +kernel), _, rfl, p, d, l, L, .int (n : Int), ?_, hL3, .int _, hlen, fun i2 t2 v2 hg ht2 hth2 => ?_, fun hg => ?_⟩
      · rw [hul]
        show [V.ref p, V.int (mixF c (20 + ((0 : Int) + (i : Int))) % (L.length : Int))] = _
        rw [en]
      · obtain ⟨ei, _⟩ := gave_some hg
        have ei2 : n = i2 := by
          have := V.int.inj ei
          omega
        subst ei2
        rw [ht'] at ht2
        cases ht2
        have at1 : atI us (mixF c (20 + ((0 : Int) + (i : Int))) % (us.length : Int)) = some v' := by
          rw [hul, en]
          exact atI_nat hv'
        have any2 : AnyV H3 v2 := IsTh.any hth2 fun x e => sl40 (by have := ((hG _ htm).1 x e).1; omega)
        have any' : AnyV H3 v' := IsTh.any hth' fun x e => sl40 (by have := ((hG _ htm).1 x e).1; omega)
        refine ⟨_, rfl, _, rfl, _, rfl, a, us, _, v', rfl, rfl, SqL.of ha3, at1, thD t', thD t', IsTh.dp hth2, IsTh.dp hth', shaped1 (thD_ok (hG.good htm)), shaped1 (thD_ok (hG.good htm)), _, rfl, neSame (thD_ok (hG.good htm)).1 ?_⟩
        refine ⟨_, rfl, v2, .ty "str", _, _, strB v2, rfl, .ty "str", any2.tyX, kit_ty (kit_str any2), _, rfl, _, rfl, a, us, _, v', rfl, rfl, SqL.of ha3, at1, v', .ty "str", _, _, strB v', rfl, .ty "str", any'.tyX, kit_ty (kit_str any'), rfl, _, rfl, ?_⟩
        have eb : strB v2 = strB v' := by
          cases t' with
          | row x =>
            have h1 : v2 = .str x := hth2
            have h2 : v' = .str x := hth'
            rw [h1, h2]
          | pair i j =>
            obtain ⟨b1, h1, _⟩ := hth2
            obtain ⟨b2, h2, _⟩ := hth'
            rw [h1, h2]
            rfl
        rw [eb, decide_eq_true rfl]
        refine iteF ?_
        exact ⟨_, _, _, rfl, rfl⟩
      · have : gaveV L (.int (n : Int)) = some n := by
          show (if _ then _ else _) = _
          rw [if_pos ⟨by omega, by omega⟩, Int.toNat_natCast]
        rw [this] at hg
        cases hg
    · rintro σ _ ⟨y5, y6, y7, rfl, rfl⟩
      exact q _ sm
end

def setA {α : Type} (F : Nat → α) (t : Nat) (v : α) : Nat → α := fun i => if i = t then v else F i
theorem setA_at {α : Type} (F : Nat → α) (t : Nat) (v : α) : setA F t v t = v := if_pos rfl
theorem setA_ne {α : Type} {F : Nat → α} {t i : Nat} {v : α} (h : i ≠ t) : setA F t v i = F i := if_neg h
theorem setA_self {α : Type} (F : Nat → α) (t : Nat) : setA F t (F t) = F := funext fun i => by
  unfold setA
  by_cases h : i = t
  · rw [if_pos h, h]
  · rw [if_neg h]
theorem LedAt.dict {w : World} {C : Addr} {H : Hp} {p d l : Addr} {L : List Th} (h : LedAt w C H p d l L) : ∃ E, H d = some (.ext (Raw w d E)) := by
  obtain ⟨_, _, _, E, e, _⟩ := h.dm
  exact ⟨E, e⟩

section
variable {H H' : Hp}
theorem made_same {H1 : Hp} {x dx : Addr} {o1 o2 : HO} (nx : H x = none) (ndx : H dx = none) (k : ∀ b o, (upd (upd H dx o1) x o2) b = some o → b ≠ x → H1 b = some o) : Same H H1 := fun b o e => by
  have n1 := ne_of_none e nx
  have n2 := ne_of_none e ndx
  exact k b o (by rw [upd_ne n1, upd_ne n2]; exact e) n1
def two {α : Type} (x y : α) : Nat → α
  | 0 => x
  | _ + 1 => y
theorem all2 {p : Nat → Prop} (h0 : p 0) (h1 : p 1) : ∀ i < 2, p i := fun i hi => by
  have : i = 0 ∨ i = 1 := by omega
  rcases this with rfl | rfl
  · exact h0
  · exact h1
theorem all22 {F : Nat → Addr} (h : F 0 ≠ F 1) : ∀ i < 2, ∀ j < 2, i ≠ j → F i ≠ F j := all2 (all2 (fun z => absurd rfl z) fun _ => h) (all2 (fun _ => h.symm) fun z => absurd rfl z)
theorem cut_int {ns : List Int} {lo hi : Option Int} {x : V} {i : Nat} (h : (cutV (ns.map V.int) lo hi)[i]? = some x) : (∃ c, x = .int c) ∧ i < ns.length := by
  have hl := (List.getElem?_eq_some_iff.mp h).1
  have h2 := cutV_length (ns.map V.int) lo hi
  rw [List.length_map] at h2
  have hm := List.mem_of_getElem? h
  unfold cutV at hm
  obtain ⟨c, _, e⟩ := List.mem_map.mp (List.mem_of_mem_drop (List.mem_of_mem_take hm))
  exact ⟨⟨c, e.symm⟩, by omega⟩
theorem at2 {F : Nat → Addr} {t : Nat} (h : t < 2) : atI [V.ref (F 0), .ref (F 1)] (t : Int) = some (.ref (F t)) := by
  have : t = 0 ∨ t = 1 := by omega
  rcases this with rfl | rfl <;> rfl
end
structure NOk (P : Program) (w : World) (K : PySem.W.Frag) (mg : Str → Option Value) (base : Heap) (CX : CXT) (C : Addr) (k : Nat) (ps : List Str) (sp : Sp) : Prop where
  ex : ∃ (f : Addr) (fd : FuncData), FnOk P w K mg base CX k f fd ps sp ∧ Mk K C f ∧ Binds K fd ps []

/-! ### the two ledgers of the law, and what is kept beside -/
structure Two (w : World) (C : Addr) (H : Hp) (a1 a2 g : Addr) (xs : List V) (P D Lt Kp : Nat → Addr) (LL KK : Nat → List Th) (n : Nat) : Prop where
  l1 : H a1 = some (.lst [.ref (P 0), .ref (P 1)])
  l2 : H a2 = some (.lst [.ref (Kp 0), .ref (Kp 1)])
  lg : H g = some (.lst xs)
  led : ∀ i < 2, LedAt w C H (P i) (D i) (Lt i) (LL i)
  kept : ∀ i < 2, ∃ us, H (Kp i) = some (.lst us) ∧ Paired (IsTh H) (KK i) us
  good : ∀ i < 2, GoodL (KK i)
  len : ∀ i < 2, (KK i).length ≤ n
  dD : ∀ i < 2, ∀ j < 2, i ≠ j → D i ≠ D j
  dL : ∀ i < 2, ∀ j < 2, i ≠ j → Lt i ≠ Lt j
  dK : ∀ i < 2, ∀ j < 2, i ≠ j → Kp i ≠ Kp j
  kl : ∀ i < 2, ∀ j < 2, Kp i ≠ Lt j
  ap : ∀ i < 2, a1 ≠ Lt i ∧ a1 ≠ Kp i ∧ a2 ≠ Lt i ∧ a2 ≠ Kp i ∧ g ≠ Lt i ∧ g ≠ Kp i
section
variable {w : World} {C : Addr} {H H' : Hp} {a1 a2 g : Addr} {xs : List V} {P D Lt Kp : Nat → Addr} {LL KK : Nat → List Th} {n : Nat}
theorem Two.same (h : Two w C H a1 a2 g xs P D Lt Kp LL KK n) (s : Same H H') : Two w C H' a1 a2 g xs P D Lt Kp LL KK n where
  l1 := s _ _ h.l1
  l2 := s _ _ h.l2
  lg := s _ _ h.lg
  led := fun i hi => (h.led i hi).same s
  kept := fun i hi => by
    obtain ⟨us, e, p⟩ := h.kept i hi
    exact ⟨us, s _ _ e, th_keep s p⟩
  good := h.good
  len := h.len
  dD := h.dD
  dL := h.dL
  dK := h.dK
  kl := h.kl
  ap := h.ap
theorem Two.mono {m : Nat} (h : Two w C H a1 a2 g xs P D Lt Kp LL KK n) (hm : n ≤ m) : Two w C H a1 a2 g xs P D Lt Kp LL KK m :=
  { h with len := fun i hi => Nat.le_trans (h.len i hi) hm }
/-- behind a thing that the t-th ledger was asked for -/
theorem Two.gave {t : Nat} {L : List Th} (h : Two w C H a1 a2 g xs P D Lt Kp LL KK n) (ht : t < 2) (k : Keep H H' (D t) (Lt t)) (hl : LedAt w C H' (P t) (D t) (Lt t) L) :
    Two w C H' a1 a2 g xs P D Lt Kp (setA LL t L) KK n := by
  have tk := (h.led t ht).tups k
  obtain ⟨E, hd⟩ := (h.led t ht).dict
  have nl : ∀ {b : Addr} {ys : List V}, H b = some (.lst ys) → b ≠ D t := fun e => ne_of e hd (by intro z; cases z)
  refine { l1 := k _ _ h.l1 (nl h.l1) (h.ap t ht).1, l2 := k _ _ h.l2 (nl h.l2) (h.ap t ht).2.2.1, lg := k _ _ h.lg (nl h.lg) (h.ap t ht).2.2.2.2.1, led := fun i hi => ?_, kept := fun i hi => ?_, good := h.good, len := h.len, dD := h.dD, dL := h.dL, dK := h.dK, kl := h.kl, ap := h.ap }
  · by_cases e : i = t
    · subst e
      rw [setA_at]
      exact hl
    · rw [setA_ne e]
      have hi' := h.led i hi
      obtain ⟨E', hd'⟩ := hi'.dict
      obtain ⟨vs, hlt, _⟩ := (h.led t ht).tl
      obtain ⟨vs', hlt', _⟩ := hi'.tl
      obtain ⟨dx, fs, hp, _⟩ := hi'.ob
      exact hi'.other k (h.dD i hi t ht e) (ne_of hd' hlt (by intro z; cases z)) (ne_of hlt' hd (by intro z; cases z)) (h.dL i hi t ht e) (ne_of hp hd (by intro z; cases z)) (ne_of hp hlt (by intro z; cases z)) tk
  · obtain ⟨us, e, p⟩ := h.kept i hi
    exact ⟨us, k _ _ e (nl e) (h.kl i hi t ht), Paired.mapP p fun _ _ z => z.keep tk⟩
/-- behind a thing more kept beside the t-th -/
theorem Two.put {t : Nat} {x : Th} {v : V} {us : List V} (h : Two w C H a1 a2 g xs P D Lt Kp LL KK n) (ht : t < 2) (hk : H (Kp t) = some (.lst us)) (hv : IsTh H x v) (hg : GoodL (KK t ++ [x])) :
    Two w C (upd H (Kp t) (.lst (us ++ [v]))) a1 a2 g xs P D Lt Kp LL (setA KK t (KK t ++ [x])) (n + 1) := by
  have k : Keep H (upd H (Kp t) (.lst (us ++ [v]))) (Kp t) (Kp t) := fun b o e h1 _ => by rw [upd_ne h1]; exact e
  have tk : ∀ b ys, H b = some (.tup ys) → (upd H (Kp t) (.lst (us ++ [v]))) b = some (.tup ys) := fun b ys e => k b _ e (ne_of e hk (by intro z; cases z)) (ne_of e hk (by intro z; cases z))
  have ap := h.ap t ht
  refine { l1 := k _ _ h.l1 ap.2.1 ap.2.1, l2 := k _ _ h.l2 ap.2.2.2.1 ap.2.2.2.1, lg := k _ _ h.lg ap.2.2.2.2.2 ap.2.2.2.2.2, led := fun i hi => ?_, kept := fun i hi => ?_, good := fun i hi => ?_, len := fun i hi => ?_, dD := h.dD, dL := h.dL, dK := h.dK, kl := h.kl, ap := h.ap }
  · have hi' := h.led i hi
    obtain ⟨E', hd'⟩ := hi'.dict
    obtain ⟨dx, fs, hp, _⟩ := hi'.ob
    exact hi'.other k (ne_of hd' hk (by intro z; cases z)) (ne_of hd' hk (by intro z; cases z)) (h.kl t ht i hi).symm (h.kl t ht i hi).symm (ne_of hp hk (by intro z; cases z)) (ne_of hp hk (by intro z; cases z)) tk
  · obtain ⟨us', e, p⟩ := h.kept i hi
    by_cases e2 : i = t
    · subst e2
      rw [hk] at e
      cases e
      rw [setA_at]
      exact ⟨_, upd_same, Paired.snoc (Paired.mapP p fun _ _ z => z.keep tk) (hv.keep tk)⟩
    · rw [setA_ne e2]
      exact ⟨us', k _ _ e (h.dK i hi t ht e2) (h.dK i hi t ht e2), Paired.mapP p fun _ _ z => z.keep tk⟩
  · by_cases e2 : i = t
    · subst e2
      rw [setA_at]
      exact hg
    · rw [setA_ne e2]
      exact h.good i hi
  · have := h.len i hi
    by_cases e2 : i = t
    · subst e2
      rw [setA_at, List.length_append]
      exact Nat.succ_le_succ this
    · rw [setA_ne e2]
      omega
theorem no_int {L : List Th} {us : List V} (p : Paired (IsTh H) L us) (i : Int) : V.int i ∉ us := by
  induction p with
  | nil => exact List.not_mem_nil
  | @cons t v _ _ e _ ih =>
    intro hm
    rcases List.mem_cons.mp hm with z | z
    · subst z
      cases t with
      | row x => exact nomatch (show V.int i = .str x from e)
      | pair _ _ =>
        obtain ⟨_, z, _⟩ := e
        cases z
    · exact ih z
theorem good_row {L : List Th} {x : Str} (h : GoodL L) (hx : okS 40 x) : GoodL (L ++ [.row x]) := by
  intro t ht
  have hl : (L ++ [Th.row x]).length = L.length + 1 := by simp
  rcases List.mem_append.mp ht with z | z
  · obtain ⟨h1, h2⟩ := h t z
    exact ⟨h1, fun i j e => by have := h2 i j e; rw [hl]; omega⟩
  · have : t = .row x := by simpa using z
    subst this
    exact ⟨fun y e => by cases e; exact hx, fun i j e => by cases e⟩
theorem good_pair {L : List Th} {i j : Nat} (h : GoodL L) (hi : i < L.length) (hj : j < L.length) : GoodL (L ++ [.pair i j]) := by
  intro t ht
  have hl : (L ++ [Th.pair (i : Int) (j : Int)]).length = L.length + 1 := by simp
  rcases List.mem_append.mp ht with z | z
  · obtain ⟨h1, h2⟩ := h t z
    exact ⟨h1, fun i j e => by have := h2 i j e; rw [hl]; omega⟩
  · have : t = .pair i j := by simpa using z
    subst this
    exact ⟨fun y e => (by cases e), fun a b e => by cases e; rw [hl]; omega⟩
theorem any_thD {L : List Th} {t : Th} : ((L.map thD).any fun z => PyData.eqv z (thD t)) = decide (t ∈ L) := by
  rw [List.any_map, Bool.eq_iff_iff, List.any_eq_true]
  constructor
  · rintro ⟨x, hx, e⟩
    have : decide (x = t) = true := by
      rw [← thD_eqv]
      exact e
    exact decide_eq_true (of_decide_eq_true this ▸ hx)
  · intro h
    refine ⟨t, of_decide_eq_true h, ?_⟩
    show PyData.eqv (thD t) (thD t) = true
    rw [thD_eqv]
    exact decide_eq_true rfl
theorem idx_thD {L : List Th} {t : Th} (h : t ∈ L) : (L.map thD)[L.idxOf t]? = some (thD t) ∧ ∀ m z, m < L.idxOf t → (L.map thD)[m]? = some z → PyData.eqv z (thD t) = false := by
  have hl := List.idxOf_lt_length_of_mem h
  constructor
  · rw [List.getElem?_map, List.getElem?_eq_getElem hl, List.getElem_idxOf hl]
    rfl
  · intro m z hm hz
    rw [List.getElem?_map] at hz
    have hml : m < L.length := by omega
    rw [List.getElem?_eq_getElem hml] at hz
    have ez : thD L[m] = z := Option.some.inj hz
    rw [← ez, thD_eqv]
    refine decide_eq_false fun e => ?_
    have h3 := List.not_of_lt_findIdx (p := (· == t)) (xs := L) (i := m) hm
    rw [e] at h3
    simp at h3
theorem gaveV_nat {L : List Th} {i : Nat} (h : i < L.length) : gaveV L (.int (i : Int)) = some i := by
  show (if _ then _ else _) = _
  rw [if_pos ⟨by omega, by omega⟩, Int.toNat_natCast]
end
section
variable {P : Program} {w : World} {K : PySem.W.Frag} {mg : Str → Option Value} {base : Heap} {C c_NoRow c_NoSum c_TwinError : Addr}
def spLaw (K : PySem.W.Frag) : Sp := fun vs H Q _ => ∃ (a : Addr) (ns : List Int), vs = [.ref a] ∧ SqL K H a (ns.map V.int) ∧ ns.length ≤ 63 ∧ ∀ H', Q (.bl true) H'
theorem ok_law {f : Addr} {fd : FuncData} (F : Fun K "law" "law" s_law f fd) (B : Bi mg) (T_Ledger : TLed K mg C) (N_Ledger : NOk P w K mg base CX0 C 1 ["self"] (spInit w C)) (C_law_mix : COk P w K mg base CX0 "_law_mix" 1 ["_law_number", "_law_k"] spMix)
    (C_law_room : COk P w K mg base CX0 "_law_room" 1 ["_law_script", "_law_small", "_law_great"] (spRoom K)) (C_law_whole : COk P w K mg base CX0 "_law_whole" 1 ["_law_found"] spIsWhole)
    (C_law_thing : COk P w K mg base CX0 "_law_thing" 3 ["_law_things", "_law_cell"] spThing) (C_law_bad : COk P w K mg base CX0 "_law_bad" 1 ["_law_cell", "_law_many"] spBad)
    (C_law_asked : COk P w K mg base CX0 "_law_asked" 4 ["_law_ledger", "_law_thing_here"] (spAsked w C)) (C_law_same : COk P w K mg base CX0 "_law_same" 5 ["_law_ledger", "_law_things", "_law_cell"] (spSame w C)) :
    FnOk P w K mg base CX0 7 f fd ["_law_script"] (spLaw K) := by
  obtain ⟨f_Ledger___init__, d_Ledger___init__, G_Ledger___init__, k_Ledger___init__, b_Ledger___init__⟩ := N_Ledger.ex
  refine F.ok sc_law (fun vs H Q E h => ?_) fun cdv A outer s H vs Q E hr h => ?_
  · obtain ⟨a, ns, rfl, _⟩ := h
    rfl
  · obtain ⟨a, ns, rfl, hS, hlen, q⟩ := h
    refine ⟨_, (pss_cons (ps_set (i := 1) sc_law.nd rfl (.inl rfl) (pe_lst (pa_cons (pe_make0 k_Ledger___init__ G_Ledger___init__ (hr.mono (by decide)) (by rfl) T_Ledger.g b_Ledger___init__ .nil pass0) (pa_cons (pe_make0 k_Ledger___init__ G_Ledger___init__ (hr.mono (by decide)) (by rfl) T_Ledger.g b_Ledger___init__ .nil pass0) pa_nil))))
      (pss_cons (ps_set (i := 2) sc_law.nd rfl (.inl rfl) (pe_lst (pa_cons (pe_lst pa_nil) (pa_cons (pe_lst pa_nil) pa_nil))))
      (pss_cons (ps_for PassesOwn.never rfl (pi_list (pe_slice sl_list (pv 0) (po_some pe_int) (po_some (pe_op op_add pe_int (pe_c C_law_room hr (by rfl) (pa_cons (pv 0) (pa_cons pe_int (pa_cons pe_int pa_nil)))))))) (pg_name (i := 3) sc_law.nd rfl (.inl rfl))
      (pss_cons (ps_set (i := 4) sc_law.nd rfl (.inl rfl) (pe_op op_mod (pv 3) pe_int))
      (pss_cons (ps_set (i := 5) sc_law.nd rfl (.inl rfl) (pe_ix ix_list (pv 2) (pv 4) (fun _ _ => rfl)))
      (pss_cons (ps_set (i := 6) sc_law.nd rfl (.inl rfl) (pe_c C_law_thing hr (by rfl) (pa_cons (pv 5) (pa_cons (pe_op op_fdiv (pv 3) pe_int) pa_nil))))
      (pss_cons (ps_set (i := 7) sc_law.nd rfl (.inl rfl) pe_non)
      (Evl.pss_cut (ps_if (pt_cmpR op_eq (pe_op op_mod (pe_op op_fdiv (pv 3) pe_int) pe_int) pe_int (nomark _)) (pss_one (ps_asg (pe_c C_law_bad hr (by rfl) (pa_cons (pe_c C_law_mix hr (by rfl) (pa_cons (pv 3) (pa_cons pe_int pa_nil))) (pa_cons (pe_callB (id := "len") call_len_seq (by rfl) B.len (by decide +kernel) (pa_cons (pv 5) pa_nil)) pa_nil))) (pg_tup rfl (pgs_cons (pg_name (i := 6) sc_law.nd rfl (.inl rfl)) (pgs_cons (pg_name (i := 7) sc_law.nd rfl (.inl rfl)) pgs_nil))))) pss_nil)
      (Evl.pss_cut (ps_set (i := 8) sc_law.nd rfl (.inl rfl) (pe_c C_law_asked hr (by rfl) (pa_cons (pe_ix ix_list (pv 1) (pv 4) (fun _ _ => rfl)) (pa_cons (pv 6) pa_nil))))
      (Evl.pss_cut (ps_if (pt_cmpR op_notN (pv 7) pe_non (nomark _)) (pss_one (ps_if (pt_cmpR (op_neD hr.units) (pv 8) (pe_tup (pa_cons (pv 7) pa_nil)) (nomark _)) (pss_one (ps_ret pe_bl)) pss_nil)) (pss_cons (ps_set (i := 9) sc_law.nd rfl (.inl rfl) (pv 6))
      (Evl.pss_cut (ps_if (pt_val (pe_callB (id := "isinstance") call_isi (by rfl) B.isinstance (by decide +kernel) (pa_cons (pv 6) (pa_cons (pe_bltn (v := .ty "list") (u := .type "list") (by rfl) B.list (by decide +kernel) rfl) pa_nil)))) (pss_one (ps_set (i := 9) sc_law.nd rfl (.inl rfl) (pe_tup (pa_cons (pe_ix ix_list (pv 6) pe_int (fun _ _ => rfl)) (pa_cons (pe_ix ix_list (pv 6) pe_int (fun _ _ => rfl)) pa_nil))))) pss_nil)
      (Evl.pss_cut (ps_if (pt_cmpR (op_notInD (hu65 hr)) (pv 9) (pv 5) (by with_unfolding_all rfl)) (pss_one (ps_expr (pe_bm PySem.F.plainAttrs_list PySem.F.slot_list_append PySem.F.type_list_append mt_append (pv 5) (pa_cons (pv 9) pa_nil)))) pss_nil)
      (pss_cons (ps_if ((pw_or (pt_not (pt_val (pe_c C_law_whole hr (by rfl) (pa_cons (pv 8) pa_nil)))) (pw_or1 (pt_cmpR (op_neD hr.units) (pv 8) (pe_bm PySem.F.plainAttrs_list PySem.F.slot_list_index PySem.F.type_list_index (mt_indexD (hu65 hr)) (pv 5) (pa_cons (pv 9) pa_nil)) (nomark _))))).pt (pss_one (ps_ret pe_bl)) pss_nil)
      (pss_one (ps_if ((pw_and (pt_cmpR op_gt (pe_callB (id := "len") call_len_seq (by rfl) B.len (by decide +kernel) (pa_cons (pv 5) pa_nil)) pe_int (nomark _)) (pw_and1 (pt_cmpR (op_neD hr.units) (pe_c C_law_asked hr (by rfl) (pa_cons (pe_ix ix_list (pv 1) (pv 4) (fun _ _ => rfl)) (pa_cons (pe_lst (pa_cons (pe_callB (id := "len") call_len_seq (by rfl) B.len (by decide +kernel) (pa_cons (pv 5) pa_nil)) (pa_cons pe_int pa_nil))) pa_nil))) (pe_tup (pa_cons pe_str pa_nil)) (nomark _))))).pt (pss_one (ps_ret pe_bl)) pss_nil)))))))
      (pss_one (ps_if ((pw_or (pt_not (pt_val (pe_c C_law_same hr (by rfl) (pa_cons (pe_ix ix_list (pv 1) pe_int (fun _ _ => rfl)) (pa_cons (pe_ix ix_list (pv 2) pe_int (fun _ _ => rfl)) (pa_cons (pv 3) pa_nil)))))) (pw_or1 (pt_not (pt_val (pe_c C_law_same hr (by rfl) (pa_cons (pe_ix ix_list (pv 1) pe_int (fun _ _ => rfl)) (pa_cons (pe_ix ix_list (pv 2) pe_int (fun _ _ => rfl)) (pa_cons (pv 3) pa_nil))))))))).pt (pss_one (ps_ret pe_bl)) pss_nil))))))))))
      (pss_one (ps_ret pe_bl))))), ?_⟩
    refine fun x dx nx ndx ne => ⟨x, dx, rfl, upd_same, fun d0 l0 H1 nd0 nl0 led0 k0 => ⟨rfl, ?_⟩⟩
    refine fun x2 dx2 nx2 ndx2 ne2 => ⟨x2, dx2, rfl, upd_same, fun d1 l1 H2 nd1 nl1 led1 k1 => ⟨rfl, ?_⟩⟩
    refine ⟨sl40 (by show 2 ≤ 1000000; decide), fun p1 hp1 => ?_⟩
    refine ⟨sl40 (by show 0 ≤ 1000000; decide), fun q0 hq0 => ⟨sl40 (by show 0 ≤ 1000000; decide), fun q1 hq1 => ?_⟩⟩
    refine ⟨sl40 (by show 2 ≤ 1000000; decide), fun p2 hp2 => ?_⟩
    have m0 := made_same nx ndx k0
    have m1 := made_same nx2 ndx2 k1
    have s1 := same_upd (o := .lst [V.ref x, .ref x2]) hp1
    have s2 := same_upd (o := .lst []) hq0
    have s3 := same_upd (o := .lst []) hq1
    have s4 := same_upd (o := .lst [V.ref q0, .ref q1]) hp2
    have s34 := s3.trans s4
    have s24 := s2.trans s34
    have s14 := s1.trans s24
    have lists := hS
    have hS' := (((m0.trans m1).trans s14)).seq hS
    have e1 := s24 _ _ (upd_same (a := p1) (o := HO.lst [V.ref x, .ref x2]))
    have e2 := s34 _ _ (upd_same (a := q0) (o := HO.lst []))
    have e3 := s4 _ _ (upd_same (a := q1) (o := HO.lst []))
    have l0' := led0.same (m1.trans s14)
    have l1' := led1.same s14
    obtain ⟨E0', hd0⟩ := led0.dict
    obtain ⟨E1', hd1⟩ := led1.dict
    obtain ⟨vs0, hl0, _⟩ := led0.tl
    obtain ⟨vs1, hl1, _⟩ := led1.tl
    have h2d0 := m1 _ _ hd0
    have h2l0 := m1 _ _ hl0
    have under : ∀ {b c : Addr} {o : HO}, H1 b = some o → (upd (upd H1 dx2 (.own x2)) x2 (.ins C dx2 [])) c = none → b ≠ c := fun {b c o} e h z => by
      rw [z] at e
      by_cases z1 : c = x2
      · rw [z1, upd_same] at h
        cases h
      · rw [upd_ne z1] at h
        by_cases z2 : c = dx2
        · rw [z2, upd_same] at h
          cases h
        · rw [upd_ne z2, e] at h
          cases h
    have hI : ∀ g xs, (upd (upd (upd (upd H2 p1 (.lst [V.ref x, .ref x2])) q0 (.lst [])) q1 (.lst [])) p2 (.lst [V.ref q0, .ref q1])) g = none →
        Two w C (upd (upd (upd (upd (upd H2 p1 (.lst [V.ref x, .ref x2])) q0 (.lst [])) q1 (.lst [])) p2 (.lst [V.ref q0, .ref q1])) g (.lst xs)) p1 p2 g xs (two x x2) (two d0 d1) (two l0 l1) (two q0 q1) (fun _ => []) (fun _ => []) 0 := fun g xs hg => by
      have s5 := same_upd (o := .lst xs) hg
      have a0 := s1 _ _ h2l0
      have a1 := s1 _ _ hl1
      have b0 := s2 _ _ a0
      have b1 := s2 _ _ a1
      have c0 := s3 _ _ b0
      have c1 := s3 _ _ b1
      have f0 := s4 _ _ c0
      have f1 := s4 _ _ c1
      have eq0 := s3 _ _ (upd_same (H := upd H2 p1 (.lst [V.ref x, .ref x2])) (a := q0) (o := HO.lst []))
      have ep := s2 _ _ (upd_same (H := H2) (a := p1) (o := HO.lst [V.ref x, .ref x2]))
      refine { l1 := s5 _ _ e1, l2 := s5 _ _ upd_same, lg := upd_same, led := all2 (l0'.same s5) (l1'.same s5), kept := all2 ⟨[], s5 _ _ e2, .nil⟩ ⟨[], s5 _ _ e3, .nil⟩, good := fun _ _ t ht => absurd ht List.not_mem_nil, len := fun _ _ => Nat.le_refl _, dD := all22 (under hd0 nd1), dL := all22 (under hl0 nl1), dK := all22 ?_, kl := ?_, ap := ?_ }
      · exact ne_of_none (upd_same (a := q0) (o := HO.lst [])) hq1
      · exact all2 (all2 (ne_of_none a0 hq0).symm (ne_of_none a1 hq0).symm) (all2 (ne_of_none b0 hq1).symm (ne_of_none b1 hq1).symm)
      · exact all2 ⟨(ne_of_none h2l0 hp1).symm, ne_of_none upd_same hq0, (ne_of_none c0 hp2).symm, (ne_of_none eq0 hp2).symm, (ne_of_none f0 hg).symm, (ne_of_none e2 hg).symm⟩
          ⟨(ne_of_none hl1 hp1).symm, ne_of_none ep hq1, (ne_of_none c1 hp2).symm, (ne_of_none upd_same hp2).symm, (ne_of_none f1 hg).symm, (ne_of_none e3 hg).symm⟩
    generalize upd (upd (upd (upd H2 p1 (.lst [V.ref x, .ref x2])) q0 (.lst [])) q1 (.lst [])) p2 (.lst [V.ref q0, .ref q1]) = H5 at hS' hI ⊢
    clear e1 e2 e3 l0' l1' s1 s2 s3 s4 s34 s24 s14 hp1 hq0 hq1 hp2 m0 m1 under k0 k1 led0 led1 hd0 hd1 hl0 hl1 h2d0 h2l0 nd0 nl0 nd1 nl1 nx ndx ne nx2 ndx2 ne2 lists
    refine ⟨_, rfl, 1, rfl, _, rfl, a, ns, 20, 60, rfl, hS', hlen, _, _, rfl, rfl, _, rfl, a, _, rfl, hS', fun g hg => ?_⟩
    have J0 := hI g (cutV (ns.map V.int) (some 1) (some (1 + 20))) hg
    clear hI hS'
    generalize two x x2 = Pf at J0
    generalize two d0 d1 = Df at J0
    generalize two l0 l1 = Lf at J0
    generalize two q0 q1 = Kf at J0
    refine ⟨g, rfl, ⟨_, SqL.of upd_same⟩, ?_⟩
    refine for_list (xs := cutV (ns.map V.int) (some 1) (some (1 + 20))) (fun i σ H' => ∃ (LL : Nat → List Th) (y3 y4 y5 y6 y7 y8 y9 : Option V), Two w C H' p1 p2 g (cutV (ns.map V.int) (some 1) (some (1 + 20))) Pf Df Lf Kf LL LL i ∧ σ = [some (.ref a), some (.ref p1), some (.ref p2), y3, y4, y5, y6, y7, y8, y9]) ⟨fun _ => [], none, none, none, none, none, none, none, J0, rfl⟩ ?_ ?_ ?_
    · rintro i σ H' _ ⟨LL, y3, y4, y5, y6, y7, y8, y9, J, rfl⟩
      exact SqL.of J.lg
    · rintro i v σ H' hv ⟨LL, y3, y4, y5, y6, y7, y8, y9, J, rfl⟩
      obtain ⟨⟨c, rfl⟩, hi⟩ := cut_int hv
      obtain ⟨t, et, ht'⟩ := mod_nat (x := c) (m := 2) (by decide)
      have ht : t < 2 := by omega
      obtain ⟨us, hk, hp⟩ := J.kept t ht
      have hln := J.len t ht
      refine ⟨_, rfl, _, _, rfl, rfl, (by show (0 : Int) < 2; decide), ?_⟩
      refine ⟨_, rfl, _, rfl, p2, _, (t : Int), .ref (Kf t), rfl, congrArg V.int et, SqL.of J.l2, at2 ht, ?_⟩
      refine ⟨_, rfl, _, rfl, _, _, rfl, rfl, ⟨by decide, by decide⟩, Kf t, us, LL t, c / 2, rfl, hk, hp, J.good t ht, by omega, (J.led t ht).nd, fun H1 y sm hy => ?_⟩
      have J1 := J.same sm
      -- what is asked for, and what is due
      refine ⟨fun σ H2 => ∃ y6 y7 : V, Two w C H2 p1 p2 g (cutV (ns.map V.int) (some 1) (some (1 + 20))) Pf Df Lf Kf LL LL i ∧ σ = [some (.ref a), some (.ref p1), some (.ref p2), some (.int c), some (.int (t : Int)), some (.ref (Kf t)), some y6, some y7, y8, y9] ∧
        ((y7 = .non ∧ ((∃ x, y6 = .str x ∧ okS 40 x) ∨ ∃ b, ∃ i j : Nat, y6 = .ref b ∧ H2 b = some (.lst [.int (i : Int), .int (j : Int)]) ∧ i < (LL t).length ∧ j < (LL t).length)) ∨
          (y7 = .str (Str.ofString "NoRow") ∧ AnyV H2 y6 ∧ rowV y6 = false) ∨
          (y7 = .str (Str.ofString "NoSum") ∧ ∃ b u v, y6 = .ref b ∧ H2 b = some (.lst [u, v]) ∧ AnyV H2 u ∧ AnyV H2 v ∧ (gaveV (LL t) u = none ∨ gaveV (LL t) v = none))), ?_, ?_⟩
      · refine ⟨_, rfl, _, _, rfl, rfl, ⟨by decide, by decide⟩, _, _, rfl, rfl, (by show (0 : Int) < 6; decide), rfl, _, rfl, ite2 (fun _ => ?_) (fun _ => ?_)⟩
        · refine ⟨_, rfl, c, 9, rfl, _, rfl, Kf t, us, rfl, .inl (SqL.of (sm _ _ hk)), mixF c 9, us.length, rfl, ?_, fun H2 tt sm2 hcase => ?_⟩
          · rw [← Paired.length hp]
            omega
          · have J2 := J1.same sm2
            rcases hcase with ⟨y, htt, hy1, hy2⟩ | ⟨b, u, v, htt, hb, hu, hv, hL⟩
            · refine ⟨tt, _, rfl, SqT.of htt, rfl, _, _, rfl, _, _, rfl, rfl, y, _, J2, ?_, .inr (.inl ⟨rfl, hy1, hy2⟩)⟩
              show [some (.ref a), some (.ref p1), some (.ref p2), some (.int c), some (.int (c % 2)), some (.ref (Kf t)), some y, some (.str (Str.ofString "NoRow")), y8, y9] = _
              rw [et]
            · refine ⟨tt, _, rfl, SqT.of htt, rfl, _, _, rfl, _, _, rfl, rfl, .ref b, _, J2, ?_, .inr (.inr ⟨rfl, b, u, v, rfl, hb, hu, hv, hL _ (Paired.length hp)⟩)⟩
              show [some (.ref a), some (.ref p1), some (.ref p2), some (.int c), some (.int (c % 2)), some (.ref (Kf t)), some (.ref b), some (.str (Str.ofString "NoSum")), y8, y9] = _
              rw [et]
        · refine ⟨y, .non, J1, ?_, .inl ⟨rfl, hy⟩⟩
          show [some (.ref a), some (.ref p1), some (.ref p2), some (.int c), some (.int (c % 2)), some (.ref (Kf t)), some y, some .non, y8, y9] = _
          rw [et]
      clear hy J1 sm
      rintro σ H2 ⟨y6, y7, J2, rfl, hcase⟩
      have led2 := J2.led t ht
      have hll : (LL t).length < 1000000 := by omega
      -- asked
      refine ⟨fun σ H3 => ∃ y8 : V, σ = [some (.ref a), some (.ref p1), some (.ref p2), some (.int c), some (.int (t : Int)), some (.ref (Kf t)), some y6, some y7, some y8, y9] ∧
        ((y7 = .non ∧ ((∃ x, y6 = .str x ∧ okS 40 x ∧ y8 = .int ((numOf (LL t) (.row x) : Nat) : Int) ∧ Two w C H3 p1 p2 g (cutV (ns.map V.int) (some 1) (some (1 + 20))) Pf Df Lf Kf (setA LL t (give (LL t) (.row x))) LL i) ∨
            ∃ b, ∃ n m : Nat, y6 = .ref b ∧ H3 b = some (.lst [.int (n : Int), .int (m : Int)]) ∧ n < (LL t).length ∧ m < (LL t).length ∧ y8 = .int ((numOf (LL t) (.pair n m) : Nat) : Int) ∧ Two w C H3 p1 p2 g (cutV (ns.map V.int) (some 1) (some (1 + 20))) Pf Df Lf Kf (setA LL t (give (LL t) (.pair n m))) LL i)) ∨
          ∃ z b, (z = Str.ofString "NoRow" ∨ z = Str.ofString "NoSum") ∧ y7 = .str z ∧ y8 = .ref b ∧ H3 b = some (.tup [.str z]) ∧ Two w C H3 p1 p2 g (cutV (ns.map V.int) (some 1) (some (1 + 20))) Pf Df Lf Kf LL LL i), ?_, ?_⟩
      · refine ⟨_, rfl, _, rfl, p1, _, (t : Int), .ref (Pf t), rfl, rfl, SqL.of J2.l1, at2 ht, _, rfl, Pf t, Df t, Lf t, LL t, y6, rfl, led2, hll, ?_⟩
        rcases hcase with ⟨rfl, ⟨x, rfl, hx⟩ | ⟨b, n, m, rfl, hb, hn, hm⟩⟩ | ⟨rfl, hy1, hy2⟩ | ⟨rfl, b, u, v, rfl, hb, hu, hv, hg⟩
        · refine .inl ⟨.str x (sl40 (by have := hx.1; omega)), fun x' e hx' H3 kp led3 => ?_, fun z => ?_⟩
          · cases e
            exact ⟨_, rfl, .inl ⟨rfl, .inl ⟨x, rfl, hx, rfl, J2.gave ht kp led3⟩⟩⟩
          · have : rowStr x = false := z
            rw [okS_row hx] at this
            cases this
        · refine .inr ⟨b, _, _, rfl, hb, .int _, .int _, fun n' m' e1 e2 H3 kp led3 => ?_, fun z => ?_⟩
          · rw [gaveV_nat hn] at e1
            rw [gaveV_nat hm] at e2
            cases e1
            cases e2
            refine ⟨_, rfl, .inl ⟨rfl, .inr ⟨b, n, m, rfl, ?_, hn, hm, rfl, J2.gave ht kp led3⟩⟩⟩
            obtain ⟨E, hd⟩ := led2.dict
            obtain ⟨vs, hl, hpv⟩ := led2.tl
            refine kp b _ hb (ne_of hb hd (by intro z; cases z)) fun z => ?_
            rw [z, hl] at hb
            cases hb
            exact no_int hpv n List.mem_cons_self
          · rw [gaveV_nat hn, gaveV_nat hm] at z
            rcases z with z | z <;> cases z
        · refine .inl ⟨hy1, fun x' e hx' => ?_, fun _ H3 tt sm2 htt => ⟨_, rfl, .inr ⟨_, tt, .inl rfl, rfl, rfl, htt, J2.same sm2⟩⟩⟩
          subst e
          have : rowStr x' = false := hy2
          rw [hx'] at this
          cases this
        · refine .inr ⟨b, u, v, rfl, hb, hu, hv, fun n' m' e1 e2 => ?_, fun _ H3 tt sm2 htt => ⟨_, rfl, .inr ⟨_, tt, .inr rfl, rfl, rfl, htt, J2.same sm2⟩⟩⟩
          rcases hg with z | z
          · rw [z] at e1
            cases e1
          · rw [z] at e2
            cases e2
      clear hcase led2 J2
      rintro σ H3 ⟨y8, rfl, hcase⟩
      have neSame : ∀ {d : PyData} {A B : Prop}, d.canLay0 = true → B → (if (!PyData.eqv d d) = true then A else B) := fun {d A B} hc hB => by
        rw [SeqAt.eqv_refl d hc]
        exact iteF hB
      refine ⟨fun σ H4 => ∃ (LL' : Nat → List Th) (y6 y7 y8 : V) (y9 : Option V), Two w C H4 p1 p2 g (cutV (ns.map V.int) (some 1) (some (1 + 20))) Pf Df Lf Kf LL' LL' (i + 1) ∧ σ = [some (.ref a), some (.ref p1), some (.ref p2), some (.int c), some (.int (t : Int)), some (.ref (Kf t)), some y6, some y7, some y8, y9], ?_, ?_⟩
      · rcases hcase with ⟨rfl, hcase⟩ | ⟨z, b, hz, rfl, rfl, hb, J3⟩
        · refine ⟨_, rfl, rfl, _, rfl, iteF ?_⟩
          -- what is known
          refine ⟨_, rfl, fun σ H4 => ∃ (th : Th) (v : V), σ = [some (.ref a), some (.ref p1), some (.ref p2), some (.int c), some (.int (t : Int)), some (.ref (Kf t)), some y6, some .non, some y8, some v] ∧ IsTh H4 th v ∧ GoodL (LL t ++ [th]) ∧ y8 = .int ((numOf (LL t) th : Nat) : Int) ∧ Two w C H4 p1 p2 g (cutV (ns.map V.int) (some 1) (some (1 + 20))) Pf Df Lf Kf (setA LL t (give (LL t) th)) LL i, ?_, ?_⟩
          · rcases hcase with ⟨x, rfl, hx, rfl, J3⟩ | ⟨b, n, m, rfl, hb, hn, hm, rfl, J3⟩
            · refine ⟨_, rfl, .str x, .ty "list", _, _, false, rfl, .ty "list", .base (.str x), kit_ty (by decide +kernel), false, rfl, iteF ?_⟩
              exact ⟨.row x, .str x, rfl, rfl, good_row (J.good t ht) hx, rfl, J3⟩
            · refine ⟨_, rfl, .ref b, .ty "list", _, _, true, rfl, .ty "list", .base (.lst hb), kit_ty (by decide +kernel), true, rfl, iteT ?_⟩
              refine ⟨_, rfl, b, _, 0, _, rfl, rfl, SqL.of hb, rfl, _, rfl, b, _, 1, _, rfl, rfl, SqL.of hb, rfl, sl40 (by show 2 ≤ 1000000; decide), fun tt htt => ?_⟩
              exact ⟨.pair n m, .ref tt, rfl, ⟨tt, rfl, upd_same⟩, good_pair (J.good t ht) hn hm, rfl, J3.same (same_upd htt)⟩
          clear hcase
          rintro σ H4 ⟨th, v, rfl, hth, hgood, rfl, J4⟩
          obtain ⟨us4, hk4, hp4⟩ := J4.kept t ht
          have hgt := hgood.good (t := th) (by simp)
          have sL := shapedL fun t' ht' => (J.good t ht).good ht'
          refine ⟨fun σ H5 => σ = [some (.ref a), some (.ref p1), some (.ref p2), some (.int c), some (.int (t : Int)), some (.ref (Kf t)), some y6, some .non, some (.int ((numOf (LL t) th : Nat) : Int)), some v] ∧ IsTh H5 th v ∧ Two w C H5 p1 p2 g (cutV (ns.map V.int) (some 1) (some (1 + 20))) Pf Df Lf Kf (setA LL t (give (LL t) th)) (setA LL t (give (LL t) th)) (i + 1), ?_, ?_⟩
          · refine ⟨_, rfl, _, rfl, thD th, (LL t).map thD, IsTh.dp hth, Th.dps hk4 hp4, shaped1 (thD_ok hgt), sL, _, rfl, ?_⟩
            rw [any_thD]
            by_cases hm : th ∈ LL t
            · rw [decide_eq_true hm]
              refine iteF ⟨rfl, hth, ?_⟩
              have eg : give (LL t) th = LL t := if_pos hm
              rw [eg, setA_self] at J4 ⊢
              exact J4.mono (by omega)
            · rw [decide_eq_false hm]
              refine iteT ?_
              have eg : give (LL t) th = LL t ++ [th] := if_neg hm
              rw [eg] at J4 ⊢
              refine ⟨_, rfl, .inl ⟨rfl, _, SqL.of hk4⟩, _, rfl, Kf t, us4, v, rfl, rfl, hk4, ?_, rfl, hth.keep ?_, J4.put ht hk4 hth hgood⟩
              · rw [← Paired.length hp4]
                exact sl40 (by omega)
              · exact fun b xs e => by rw [upd_ne (ne_of e hk4 (by intro z; cases z))]; exact e
          rintro σ H5 ⟨rfl, hth5, J5⟩
          obtain ⟨us5, hk5, hp5⟩ := J5.kept t ht
          have led5 := J5.led t ht
          rw [setA_at] at hp5 led5
          have hmem := give_mem (LL t) th
          have hG5 := J5.good t ht
          rw [setA_at] at hG5
          have hlen5 := J5.len t ht
          rw [setA_at] at hlen5
          have e5 := Paired.length hp5
          obtain ⟨ix1, ix2⟩ := idx_thD hmem
          have hbig : (give (LL t) th).idxOf th < (give (LL t) th).length := List.idxOf_lt_length_of_mem hmem
          have hI1 : ∀ n : Nat, SeqAt.shaped (.int (n : Int)) = true := fun n => shaped1 ⟨by simp [PyData.canLay0], by simp [PyData.depth]⟩
          refine ⟨_, rfl, .int _, rfl, .int _, true, rfl, iteF ?_⟩
          refine ⟨_, rfl, _, rfl, .inl ⟨rfl, _, SqL.of hk5⟩, _, rfl, Kf t, v, thD th, (give (LL t) th).map thD, (give (LL t) th).idxOf th, thD th, rfl, rfl, Th.dps hk5 hp5, IsTh.dp hth5, shapedL fun t' ht' => hG5.good ht', shaped1 (thD_ok hgt), ix1, ?_, ix2, ?_⟩
          · rw [thD_eqv]
            exact decide_eq_true rfl
          refine ⟨.int ((numOf (LL t) th : Nat) : Int), .int (((give (LL t) th).idxOf th : Nat) : Int), .int _, .int _, hI1 _, hI1 _, _, rfl, neSame (by simp [PyData.canLay0]) ?_⟩
          refine ⟨_, rfl, Kf t, us5, rfl, .inl (SqL.of hk5), _, _, rfl, rfl, _, rfl, ite2 (fun _ => ?_) (fun _ => ?_)⟩
          · refine ⟨_, rfl, _, rfl, p1, _, (t : Int), .ref (Pf t), rfl, rfl, SqL.of J5.l1, at2 ht, _, rfl, Kf t, us5, rfl, .inl (SqL.of hk5), sl40 (by show 2 ≤ 1000000; decide), fun pp hpp => ?_⟩
            have sp := same_upd (o := .lst [V.int (us5.length : Int), .int 0]) hpp
            refine ⟨Pf t, Df t, Lf t, give (LL t) th, .ref pp, rfl, led5.same sp, by omega, .inr ⟨pp, _, _, rfl, upd_same, .int _, .int _, fun n' m' e1 _ => ?_, fun _ H6 tt sm6 htt => ?_⟩⟩
            · rw [gave_out (by omega)] at e1
              cases e1
            · refine ⟨sl40 (by show 1 ≤ 1000000; decide), fun t2 ht2 => ?_⟩
              have st := same_upd (o := .tup [V.str (Str.ofString "NoSum")]) ht2
              have hcl : (PyData.tuple [.str (Str.ofString "NoSum")]).canLay0 = true ∧ (PyData.tuple [.str (Str.ofString "NoSum")]).depth ≤ 63 := by decide +kernel
              refine ⟨.tuple [.str (Str.ofString "NoSum")], .tuple [.str (Str.ofString "NoSum")], .tup (SqT.of (st _ _ htt)) (.cons (.str _) .nil), .tup (SqT.of upd_same) (.cons (.str _) .nil), shaped1 hcl, shaped1 hcl, _, rfl, neSame hcl.1 ?_⟩
              exact ⟨_, _, _, _, _, J5.same ((sp.trans sm6).trans st), rfl⟩
          · refine iteF ?_
            exact ⟨_, _, _, _, _, J5, rfl⟩
        · refine ⟨_, rfl, rfl, _, rfl, iteT ?_⟩
          refine ⟨_, rfl, _, rfl, sl40 (by show 1 ≤ 1000000; decide), fun tt htt => ?_⟩
          have hok : PyData.strOk z = true := by
            rcases hz with rfl | rfl <;> decide +kernel
          have hcl : (PyData.tuple [.str z]).canLay0 = true ∧ (PyData.tuple [.str z]).depth ≤ 63 := by
            rcases hz with rfl | rfl <;> decide +kernel
          have st := same_upd (o := .tup [V.str z]) htt
          refine ⟨.tuple [.str z], .tuple [.str z], .tup (SqT.of (st _ _ hb)) (.cons (.str _) .nil), .tup (SqT.of upd_same) (.cons (.str _) .nil), shaped1 hcl, shaped1 hcl, _, rfl, neSame hcl.1 ?_⟩
          exact ⟨LL, _, _, _, _, (J3.same st).mono (by omega), rfl⟩
      rintro σ H4 ⟨LL', y6, y7, y8, y9, J4, rfl⟩
      have z0 : 0 < 2 := by decide
      have z1 : 1 < 2 := by decide
      obtain ⟨u0, hu0, hp0⟩ := J4.kept 0 z0
      have b0 := J4.len 0 z0
      refine ⟨_, rfl, p1, _, 0, .ref (Pf 0), rfl, rfl, SqL.of J4.l1, rfl, _, rfl, p2, _, 0, .ref (Kf 0), rfl, rfl, SqL.of J4.l2, rfl, _, rfl, Pf 0, Df 0, Lf 0, Kf 0, u0, LL' 0, c, rfl, J4.led 0 z0, hu0, hp0, J4.good 0 z0, by omega, fun H5 sm5 => ⟨_, rfl, iteF ?_⟩⟩
      have J5 := J4.same sm5
      obtain ⟨u1, hu1, hp1⟩ := J5.kept 1 z1
      have b1 := J5.len 1 z1
      refine ⟨_, rfl, p1, _, 1, .ref (Pf 1), rfl, rfl, SqL.of J5.l1, rfl, _, rfl, p2, _, 1, .ref (Kf 1), rfl, rfl, SqL.of J5.l2, rfl, _, rfl, Pf 1, Df 1, Lf 1, Kf 1, u1, LL' 1, c, rfl, J5.led 1 z1, hu1, hp1, J5.good 1 z1, by omega, fun H6 sm6 => ⟨_, rfl, iteF ?_⟩⟩
      exact ⟨LL', _, _, _, _, _, _, _, J5.same sm6, rfl⟩
    · rintro σ H' ⟨LL, y3, y4, y5, y6, y7, y8, y9, J, rfl⟩
      exact q H'
end

theorem MOk.toN {P : Program} {w : World} {K : PySem.W.Frag} {mg : Str → Option Value} {base : Heap} {CX : CXT} {C : Addr} {k : Nat} {ps : List Str} {sp : Sp} (M : MOk P w K mg base CX C "__init__" k ps sp) (mk : PySem.W.makesIn K C = true) (kc : PySem.W.keepIn K (.ref C) = true) : NOk P w K mg base CX C k ps sp := by
  obtain ⟨f, fd, F, h, b⟩ := M.ex
  exact ⟨f, fd, F, ⟨mk, h.at_, h.fn, kc⟩, b⟩
theorem all_mk {l : PySem.W.OpenLaw} {w : World} {K : PySem.W.Frag} {h : Heap} {mg : Str → Option Value} {fa : Addr} (X : K.In h) (G : h.Ns mainGlobals mg) (hfa : mg "law" = some (.ref fa))
    {c_Ledger : Addr}
    (aC_Ledger : PySem.W.nsIn K mainGlobals "Ledger" = some (some (.ref c_Ledger)))
    {c_TwinError : Addr}
    (aE_TwinError : PySem.W.nsIn K mainGlobals "TwinError" = some (some (.ref c_TwinError)))
    {c_NoRow : Addr}
    (aE_NoRow : PySem.W.nsIn K mainGlobals "NoRow" = some (some (.ref c_NoRow)))
    {c_NoSum : Addr}
    (aE_NoSum : PySem.W.nsIn K mainGlobals "NoSum" = some (some (.ref c_NoSum)))
    {c_NoPlace : Addr}
    (aE_NoPlace : PySem.W.nsIn K mainGlobals "NoPlace" = some (some (.ref c_NoPlace)))
    {c_NoBlock : Addr}
    (aE_NoBlock : PySem.W.nsIn K mainGlobals "NoBlock" = some (some (.ref c_NoBlock)))
    {c_Full : Addr}
    (aE_Full : PySem.W.nsIn K mainGlobals "Full" = some (some (.ref c_Full)))
    {c_Strange : Addr}
    (aE_Strange : PySem.W.nsIn K mainGlobals "Strange" = some (some (.ref c_Strange)))
    (pg_Ledger : PySem.W.plainGet K c_Ledger Str.empty = true)
    (hd_Ledger : PySem.W.hasDictIn K c_Ledger = true)
    (po_Ledger : PySem.W.plainOver K c_Ledger = true)
    (sa_Ledger : PySem.W.findIn K (.ref c_Ledger) "__setattr__" = some (some (.builtin "object.__setattr__")))
    (mk_Ledger : PySem.W.makesIn K c_Ledger = true)
    (kc_Ledger : PySem.W.keepIn K (.ref c_Ledger) = true)
    (n_Ledger__sums : PySem.W.findIn K (.ref c_Ledger) "_sums" = some none)
    (n_Ledger__told : PySem.W.findIn K (.ref c_Ledger) "_told" = some none)
    {f_Ledger___init__ : Addr} {od_Ledger___init__ an_Ledger___init__ : Option Addr} {sl_Ledger___init__ : Array (Option Value)} {oc_Ledger___init__ kV_Ledger___init__ dc_Ledger___init__ pm_Ledger___init__ cd_Ledger___init__ ct_Ledger___init__ : Value}
    (a_Ledger___init__ : PySem.W.findIn K (.ref c_Ledger) "__init__" = some (some (.ref f_Ledger___init__)))
    (i_Ledger___init__ : PySem.W.isFn K (.ref f_Ledger___init__) = true)
    (l_Ledger___init__ : K.lookup f_Ledger___init__ = some ⟨oc_Ledger___init__, od_Ledger___init__, .func (PySem.W.fnOf "__init__" "Ledger.__init__" (defArgs s_Ledger___init__) (defBody s_Ledger___init__) (defScope s_Ledger___init__) .none kV_Ledger___init__ dc_Ledger___init__ pm_Ledger___init__ an_Ledger___init__ cd_Ledger___init__ ct_Ledger___init__), sl_Ledger___init__⟩)
    (c_Ledger___init__ : PySem.W.codeIn K cd_Ledger___init__ "Ledger.__init__" = true)
    (k_Ledger___init__ : PySem.W.keepIn K (.ref f_Ledger___init__) = true)
    {f_Ledger_of_row : Addr} {od_Ledger_of_row an_Ledger_of_row : Option Addr} {sl_Ledger_of_row : Array (Option Value)} {oc_Ledger_of_row kV_Ledger_of_row dc_Ledger_of_row pm_Ledger_of_row cd_Ledger_of_row ct_Ledger_of_row : Value}
    (a_Ledger_of_row : PySem.W.findIn K (.ref c_Ledger) "of_row" = some (some (.ref f_Ledger_of_row)))
    (i_Ledger_of_row : PySem.W.isFn K (.ref f_Ledger_of_row) = true)
    (l_Ledger_of_row : K.lookup f_Ledger_of_row = some ⟨oc_Ledger_of_row, od_Ledger_of_row, .func (PySem.W.fnOf "of_row" "Ledger.of_row" (defArgs s_Ledger_of_row) (defBody s_Ledger_of_row) (defScope s_Ledger_of_row) .none kV_Ledger_of_row dc_Ledger_of_row pm_Ledger_of_row an_Ledger_of_row cd_Ledger_of_row ct_Ledger_of_row), sl_Ledger_of_row⟩)
    (c_Ledger_of_row : PySem.W.codeIn K cd_Ledger_of_row "Ledger.of_row" = true)
    (k_Ledger_of_row : PySem.W.keepIn K (.ref f_Ledger_of_row) = true)
    {f_Ledger_of_pair : Addr} {od_Ledger_of_pair an_Ledger_of_pair : Option Addr} {sl_Ledger_of_pair : Array (Option Value)} {oc_Ledger_of_pair kV_Ledger_of_pair dc_Ledger_of_pair pm_Ledger_of_pair cd_Ledger_of_pair ct_Ledger_of_pair : Value}
    (a_Ledger_of_pair : PySem.W.findIn K (.ref c_Ledger) "of_pair" = some (some (.ref f_Ledger_of_pair)))
    (i_Ledger_of_pair : PySem.W.isFn K (.ref f_Ledger_of_pair) = true)
    (l_Ledger_of_pair : K.lookup f_Ledger_of_pair = some ⟨oc_Ledger_of_pair, od_Ledger_of_pair, .func (PySem.W.fnOf "of_pair" "Ledger.of_pair" (defArgs s_Ledger_of_pair) (defBody s_Ledger_of_pair) (defScope s_Ledger_of_pair) .none kV_Ledger_of_pair dc_Ledger_of_pair pm_Ledger_of_pair an_Ledger_of_pair cd_Ledger_of_pair ct_Ledger_of_pair), sl_Ledger_of_pair⟩)
    (c_Ledger_of_pair : PySem.W.codeIn K cd_Ledger_of_pair "Ledger.of_pair" = true)
    (k_Ledger_of_pair : PySem.W.keepIn K (.ref f_Ledger_of_pair) = true)
    {f_Ledger_what : Addr} {od_Ledger_what an_Ledger_what : Option Addr} {sl_Ledger_what : Array (Option Value)} {oc_Ledger_what kV_Ledger_what dc_Ledger_what pm_Ledger_what cd_Ledger_what ct_Ledger_what : Value}
    (a_Ledger_what : PySem.W.findIn K (.ref c_Ledger) "what" = some (some (.ref f_Ledger_what)))
    (i_Ledger_what : PySem.W.isFn K (.ref f_Ledger_what) = true)
    (l_Ledger_what : K.lookup f_Ledger_what = some ⟨oc_Ledger_what, od_Ledger_what, .func (PySem.W.fnOf "what" "Ledger.what" (defArgs s_Ledger_what) (defBody s_Ledger_what) (defScope s_Ledger_what) .none kV_Ledger_what dc_Ledger_what pm_Ledger_what an_Ledger_what cd_Ledger_what ct_Ledger_what), sl_Ledger_what⟩)
    (c_Ledger_what : PySem.W.codeIn K cd_Ledger_what "Ledger.what" = true)
    (k_Ledger_what : PySem.W.keepIn K (.ref f_Ledger_what) = true)
    {f_Ledger_many : Addr} {od_Ledger_many an_Ledger_many : Option Addr} {sl_Ledger_many : Array (Option Value)} {oc_Ledger_many kV_Ledger_many dc_Ledger_many pm_Ledger_many cd_Ledger_many ct_Ledger_many : Value}
    (a_Ledger_many : PySem.W.findIn K (.ref c_Ledger) "many" = some (some (.ref f_Ledger_many)))
    (i_Ledger_many : PySem.W.isFn K (.ref f_Ledger_many) = true)
    (l_Ledger_many : K.lookup f_Ledger_many = some ⟨oc_Ledger_many, od_Ledger_many, .func (PySem.W.fnOf "many" "Ledger.many" (defArgs s_Ledger_many) (defBody s_Ledger_many) (defScope s_Ledger_many) .none kV_Ledger_many dc_Ledger_many pm_Ledger_many an_Ledger_many cd_Ledger_many ct_Ledger_many), sl_Ledger_many⟩)
    (c_Ledger_many : PySem.W.codeIn K cd_Ledger_many "Ledger.many" = true)
    (k_Ledger_many : PySem.W.keepIn K (.ref f_Ledger_many) = true)
    {f_Ledger__gave_out : Addr} {od_Ledger__gave_out an_Ledger__gave_out : Option Addr} {sl_Ledger__gave_out : Array (Option Value)} {oc_Ledger__gave_out kV_Ledger__gave_out dc_Ledger__gave_out pm_Ledger__gave_out cd_Ledger__gave_out ct_Ledger__gave_out : Value}
    (a_Ledger__gave_out : PySem.W.findIn K (.ref c_Ledger) "_gave_out" = some (some (.ref f_Ledger__gave_out)))
    (i_Ledger__gave_out : PySem.W.isFn K (.ref f_Ledger__gave_out) = true)
    (l_Ledger__gave_out : K.lookup f_Ledger__gave_out = some ⟨oc_Ledger__gave_out, od_Ledger__gave_out, .func (PySem.W.fnOf "_gave_out" "Ledger._gave_out" (defArgs s_Ledger__gave_out) (defBody s_Ledger__gave_out) (defScope s_Ledger__gave_out) .none kV_Ledger__gave_out dc_Ledger__gave_out pm_Ledger__gave_out an_Ledger__gave_out cd_Ledger__gave_out ct_Ledger__gave_out), sl_Ledger__gave_out⟩)
    (c_Ledger__gave_out : PySem.W.codeIn K cd_Ledger__gave_out "Ledger._gave_out" = true)
    (k_Ledger__gave_out : PySem.W.keepIn K (.ref f_Ledger__gave_out) = true)
    {f_Ledger__sum_of : Addr} {od_Ledger__sum_of an_Ledger__sum_of : Option Addr} {sl_Ledger__sum_of : Array (Option Value)} {oc_Ledger__sum_of kV_Ledger__sum_of dc_Ledger__sum_of pm_Ledger__sum_of cd_Ledger__sum_of ct_Ledger__sum_of : Value}
    (a_Ledger__sum_of : PySem.W.findIn K (.ref c_Ledger) "_sum_of" = some (some (.ref f_Ledger__sum_of)))
    (i_Ledger__sum_of : PySem.W.isFn K (.ref f_Ledger__sum_of) = true)
    (l_Ledger__sum_of : K.lookup f_Ledger__sum_of = some ⟨oc_Ledger__sum_of, od_Ledger__sum_of, .func (PySem.W.fnOf "_sum_of" "Ledger._sum_of" (defArgs s_Ledger__sum_of) (defBody s_Ledger__sum_of) (defScope s_Ledger__sum_of) .none kV_Ledger__sum_of dc_Ledger__sum_of pm_Ledger__sum_of an_Ledger__sum_of cd_Ledger__sum_of ct_Ledger__sum_of), sl_Ledger__sum_of⟩)
    (c_Ledger__sum_of : PySem.W.codeIn K cd_Ledger__sum_of "Ledger._sum_of" = true)
    (k_Ledger__sum_of : PySem.W.keepIn K (.ref f_Ledger__sum_of) = true)
    (qE_TwinError : PySem.W.excIn K c_TwinError [.type "ValueError", .type "Exception", .type "BaseException", .type "object"] "ValueError.__new__" = true)
    (kE_TwinError : PySem.W.keepIn K (.ref c_TwinError) = true)
    (bE_TwinError : PySem.W.subIn K (.ref c_TwinError) (.type "BaseException") = some true)
    (tE_TwinError : PySem.W.typeIn K (.ref c_TwinError) = some (.type "type"))
    (dE_TwinError : PySem.W.hasDictIn K c_TwinError = true)
    (qE_NoRow : PySem.W.excIn K c_NoRow [.type "ValueError", .type "Exception", .type "BaseException", .type "object"] "ValueError.__new__" = true)
    (kE_NoRow : PySem.W.keepIn K (.ref c_NoRow) = true)
    (bE_NoRow : PySem.W.subIn K (.ref c_NoRow) (.type "BaseException") = some true)
    (tE_NoRow : PySem.W.typeIn K (.ref c_NoRow) = some (.type "type"))
    (dE_NoRow : PySem.W.hasDictIn K c_NoRow = true)
    (hgE_NoRow : PySem.W.findIn K (.ref c_NoRow) "__getattribute__" = some (some (.builtin "BaseException.__getattribute__")))
    (hkE_NoRow : PySem.W.findIn K (.ref c_NoRow) "__getattr__" = some none)
    (haE_NoRow : PySem.W.findIn K (.ref c_NoRow) "__class__" = some (some (.builtin "object.__class__")))
    (hnE_NoRow : PySem.W.specialIn K (.builtin "object.__class__") "__get__" = some (some (.builtin "getset_descriptor.__get__")))
    (htE_NoRow : PySem.W.takesIn K (.builtin "object.__class__") = some true)
    (hmE_NoRow : PySem.W.mroIn K c_NoRow (.type "object") = some true)
    (qE_NoSum : PySem.W.excIn K c_NoSum [.type "ValueError", .type "Exception", .type "BaseException", .type "object"] "ValueError.__new__" = true)
    (kE_NoSum : PySem.W.keepIn K (.ref c_NoSum) = true)
    (bE_NoSum : PySem.W.subIn K (.ref c_NoSum) (.type "BaseException") = some true)
    (tE_NoSum : PySem.W.typeIn K (.ref c_NoSum) = some (.type "type"))
    (dE_NoSum : PySem.W.hasDictIn K c_NoSum = true)
    (hgE_NoSum : PySem.W.findIn K (.ref c_NoSum) "__getattribute__" = some (some (.builtin "BaseException.__getattribute__")))
    (hkE_NoSum : PySem.W.findIn K (.ref c_NoSum) "__getattr__" = some none)
    (haE_NoSum : PySem.W.findIn K (.ref c_NoSum) "__class__" = some (some (.builtin "object.__class__")))
    (hnE_NoSum : PySem.W.specialIn K (.builtin "object.__class__") "__get__" = some (some (.builtin "getset_descriptor.__get__")))
    (htE_NoSum : PySem.W.takesIn K (.builtin "object.__class__") = some true)
    (hmE_NoSum : PySem.W.mroIn K c_NoSum (.type "object") = some true)
    (qE_NoPlace : PySem.W.excIn K c_NoPlace [.type "ValueError", .type "Exception", .type "BaseException", .type "object"] "ValueError.__new__" = true)
    (kE_NoPlace : PySem.W.keepIn K (.ref c_NoPlace) = true)
    (bE_NoPlace : PySem.W.subIn K (.ref c_NoPlace) (.type "BaseException") = some true)
    (tE_NoPlace : PySem.W.typeIn K (.ref c_NoPlace) = some (.type "type"))
    (dE_NoPlace : PySem.W.hasDictIn K c_NoPlace = true)
    (qE_NoBlock : PySem.W.excIn K c_NoBlock [.type "ValueError", .type "Exception", .type "BaseException", .type "object"] "ValueError.__new__" = true)
    (kE_NoBlock : PySem.W.keepIn K (.ref c_NoBlock) = true)
    (bE_NoBlock : PySem.W.subIn K (.ref c_NoBlock) (.type "BaseException") = some true)
    (tE_NoBlock : PySem.W.typeIn K (.ref c_NoBlock) = some (.type "type"))
    (dE_NoBlock : PySem.W.hasDictIn K c_NoBlock = true)
    (qE_Full : PySem.W.excIn K c_Full [.type "ValueError", .type "Exception", .type "BaseException", .type "object"] "ValueError.__new__" = true)
    (kE_Full : PySem.W.keepIn K (.ref c_Full) = true)
    (bE_Full : PySem.W.subIn K (.ref c_Full) (.type "BaseException") = some true)
    (tE_Full : PySem.W.typeIn K (.ref c_Full) = some (.type "type"))
    (dE_Full : PySem.W.hasDictIn K c_Full = true)
    (qE_Strange : PySem.W.excIn K c_Strange [.type "ValueError", .type "Exception", .type "BaseException", .type "object"] "ValueError.__new__" = true)
    (kE_Strange : PySem.W.keepIn K (.ref c_Strange) = true)
    (bE_Strange : PySem.W.subIn K (.ref c_Strange) (.type "BaseException") = some true)
    (tE_Strange : PySem.W.typeIn K (.ref c_Strange) = some (.type "type"))
    (dE_Strange : PySem.W.hasDictIn K c_Strange = true)
    {t_SIGNS : _}
    (v_SIGNS : PySem.W.nsIn K mainGlobals "SIGNS" = some (some (.str (Str.ofString "abcdefghijklmnopqrstuvwxyz0123456789 ") t_SIGNS)))
    {t_LONGEST_ROW : _}
    (v_LONGEST_ROW : PySem.W.nsIn K mainGlobals "LONGEST_ROW" = some (some (.int 40 t_LONGEST_ROW)))
    (r_F : PySem.W.kitOne K (.ref c_NoRow) (.ref c_Full) = some false)
    (r_B : PySem.W.kitOne K (.ref c_NoRow) (.ref c_NoBlock) = some false)
    (r_P : PySem.W.kitOne K (.ref c_NoRow) (.ref c_NoPlace) = some false)
    (r_T : PySem.W.kitOne K (.ref c_NoRow) (.ref c_Strange) = some false)
    (r_R : PySem.W.kitOne K (.ref c_NoRow) (.ref c_NoRow) = some true)
    (r_S : PySem.W.kitOne K (.ref c_NoRow) (.ref c_NoSum) = some false)
    (r_V : PySem.W.kitOne K (.ref c_NoRow) (.type "ValueError") = some true)
    (s_F : PySem.W.kitOne K (.ref c_NoSum) (.ref c_Full) = some false)
    (s_B : PySem.W.kitOne K (.ref c_NoSum) (.ref c_NoBlock) = some false)
    (s_P : PySem.W.kitOne K (.ref c_NoSum) (.ref c_NoPlace) = some false)
    (s_T : PySem.W.kitOne K (.ref c_NoSum) (.ref c_Strange) = some false)
    (s_R : PySem.W.kitOne K (.ref c_NoSum) (.ref c_NoRow) = some false)
    (s_S : PySem.W.kitOne K (.ref c_NoSum) (.ref c_NoSum) = some true)
    (s_V : PySem.W.kitOne K (.ref c_NoSum) (.type "ValueError") = some true)
    (u_R : PySem.W.subIn K (.ref c_NoRow) (.ref c_TwinError) = some true)
    (u_S : PySem.W.subIn K (.ref c_NoSum) (.ref c_TwinError) = some true)
    {f_is_whole : Addr} {od_is_whole an_is_whole : Option Addr} {sl_is_whole : Array (Option Value)} {oc_is_whole kV_is_whole dc_is_whole pm_is_whole cd_is_whole ct_is_whole : Value}
    (a_is_whole : PySem.W.nsIn K mainGlobals "is_whole" = some (some (.ref f_is_whole)))
    (l_is_whole : K.lookup f_is_whole = some ⟨oc_is_whole, od_is_whole, .func (PySem.W.fnOf "is_whole" "is_whole" (defArgs s_is_whole) (defBody s_is_whole) (defScope s_is_whole) .none kV_is_whole dc_is_whole pm_is_whole an_is_whole cd_is_whole ct_is_whole), sl_is_whole⟩)
    (c_is_whole : PySem.W.codeIn K cd_is_whole "is_whole" = true)
    (k_is_whole : PySem.W.keepIn K (.ref f_is_whole) = true)
    {f_is_row : Addr} {od_is_row an_is_row : Option Addr} {sl_is_row : Array (Option Value)} {oc_is_row kV_is_row dc_is_row pm_is_row cd_is_row ct_is_row : Value}
    (a_is_row : PySem.W.nsIn K mainGlobals "is_row" = some (some (.ref f_is_row)))
    (l_is_row : K.lookup f_is_row = some ⟨oc_is_row, od_is_row, .func (PySem.W.fnOf "is_row" "is_row" (defArgs s_is_row) (defBody s_is_row) (defScope s_is_row) .none kV_is_row dc_is_row pm_is_row an_is_row cd_is_row ct_is_row), sl_is_row⟩)
    (c_is_row : PySem.W.codeIn K cd_is_row "is_row" = true)
    (k_is_row : PySem.W.keepIn K (.ref f_is_row) = true)
    {f_check_row : Addr} {od_check_row an_check_row : Option Addr} {sl_check_row : Array (Option Value)} {oc_check_row kV_check_row dc_check_row pm_check_row cd_check_row ct_check_row : Value}
    (a_check_row : PySem.W.nsIn K mainGlobals "check_row" = some (some (.ref f_check_row)))
    (l_check_row : K.lookup f_check_row = some ⟨oc_check_row, od_check_row, .func (PySem.W.fnOf "check_row" "check_row" (defArgs s_check_row) (defBody s_check_row) (defScope s_check_row) .none kV_check_row dc_check_row pm_check_row an_check_row cd_check_row ct_check_row), sl_check_row⟩)
    (c_check_row : PySem.W.codeIn K cd_check_row "check_row" = true)
    (k_check_row : PySem.W.keepIn K (.ref f_check_row) = true)
    {f_law_whole : Addr} {od_law_whole an_law_whole : Option Addr} {sl_law_whole : Array (Option Value)} {oc_law_whole kV_law_whole dc_law_whole pm_law_whole cd_law_whole ct_law_whole : Value}
    (a_law_whole : PySem.W.nsIn K mainGlobals "_law_whole" = some (some (.ref f_law_whole)))
    (l_law_whole : K.lookup f_law_whole = some ⟨oc_law_whole, od_law_whole, .func (PySem.W.fnOf "_law_whole" "_law_whole" (defArgs s_law_whole) (defBody s_law_whole) (defScope s_law_whole) .none kV_law_whole dc_law_whole pm_law_whole an_law_whole cd_law_whole ct_law_whole), sl_law_whole⟩)
    (c_law_whole : PySem.W.codeIn K cd_law_whole "_law_whole" = true)
    (k_law_whole : PySem.W.keepIn K (.ref f_law_whole) = true)
    {f_law_mix : Addr} {od_law_mix an_law_mix : Option Addr} {sl_law_mix : Array (Option Value)} {oc_law_mix kV_law_mix dc_law_mix pm_law_mix cd_law_mix ct_law_mix : Value}
    (a_law_mix : PySem.W.nsIn K mainGlobals "_law_mix" = some (some (.ref f_law_mix)))
    (l_law_mix : K.lookup f_law_mix = some ⟨oc_law_mix, od_law_mix, .func (PySem.W.fnOf "_law_mix" "_law_mix" (defArgs s_law_mix) (defBody s_law_mix) (defScope s_law_mix) .none kV_law_mix dc_law_mix pm_law_mix an_law_mix cd_law_mix ct_law_mix), sl_law_mix⟩)
    (c_law_mix : PySem.W.codeIn K cd_law_mix "_law_mix" = true)
    (k_law_mix : PySem.W.keepIn K (.ref f_law_mix) = true)
    {f_law_text : Addr} {od_law_text an_law_text : Option Addr} {sl_law_text : Array (Option Value)} {oc_law_text kV_law_text dc_law_text pm_law_text cd_law_text ct_law_text : Value}
    (a_law_text : PySem.W.nsIn K mainGlobals "_law_text" = some (some (.ref f_law_text)))
    (l_law_text : K.lookup f_law_text = some ⟨oc_law_text, od_law_text, .func (PySem.W.fnOf "_law_text" "_law_text" (defArgs s_law_text) (defBody s_law_text) (defScope s_law_text) .none kV_law_text dc_law_text pm_law_text an_law_text cd_law_text ct_law_text), sl_law_text⟩)
    (c_law_text : PySem.W.codeIn K cd_law_text "_law_text" = true)
    (k_law_text : PySem.W.keepIn K (.ref f_law_text) = true)
    {f_law_near : Addr} {od_law_near an_law_near : Option Addr} {sl_law_near : Array (Option Value)} {oc_law_near kV_law_near dc_law_near pm_law_near cd_law_near ct_law_near : Value}
    (a_law_near : PySem.W.nsIn K mainGlobals "_law_near" = some (some (.ref f_law_near)))
    (l_law_near : K.lookup f_law_near = some ⟨oc_law_near, od_law_near, .func (PySem.W.fnOf "_law_near" "_law_near" (defArgs s_law_near) (defBody s_law_near) (defScope s_law_near) .none kV_law_near dc_law_near pm_law_near an_law_near cd_law_near ct_law_near), sl_law_near⟩)
    (c_law_near : PySem.W.codeIn K cd_law_near "_law_near" = true)
    (k_law_near : PySem.W.keepIn K (.ref f_law_near) = true)
    {f_law_room : Addr} {od_law_room an_law_room : Option Addr} {sl_law_room : Array (Option Value)} {oc_law_room kV_law_room dc_law_room pm_law_room cd_law_room ct_law_room : Value}
    (a_law_room : PySem.W.nsIn K mainGlobals "_law_room" = some (some (.ref f_law_room)))
    (l_law_room : K.lookup f_law_room = some ⟨oc_law_room, od_law_room, .func (PySem.W.fnOf "_law_room" "_law_room" (defArgs s_law_room) (defBody s_law_room) (defScope s_law_room) .none kV_law_room dc_law_room pm_law_room an_law_room cd_law_room ct_law_room), sl_law_room⟩)
    (c_law_room : PySem.W.codeIn K cd_law_room "_law_room" = true)
    (k_law_room : PySem.W.keepIn K (.ref f_law_room) = true)
    {f_law_class : Addr} {od_law_class an_law_class : Option Addr} {sl_law_class : Array (Option Value)} {oc_law_class kV_law_class dc_law_class pm_law_class cd_law_class ct_law_class : Value}
    (a_law_class : PySem.W.nsIn K mainGlobals "_law_class" = some (some (.ref f_law_class)))
    (l_law_class : K.lookup f_law_class = some ⟨oc_law_class, od_law_class, .func (PySem.W.fnOf "_law_class" "_law_class" (defArgs s_law_class) (defBody s_law_class) (defScope s_law_class) .none kV_law_class dc_law_class pm_law_class an_law_class cd_law_class ct_law_class), sl_law_class⟩)
    (c_law_class : PySem.W.codeIn K cd_law_class "_law_class" = true)
    (k_law_class : PySem.W.keepIn K (.ref f_law_class) = true)
    {f_law_asked : Addr} {od_law_asked an_law_asked : Option Addr} {sl_law_asked : Array (Option Value)} {oc_law_asked kV_law_asked dc_law_asked pm_law_asked cd_law_asked ct_law_asked : Value}
    (a_law_asked : PySem.W.nsIn K mainGlobals "_law_asked" = some (some (.ref f_law_asked)))
    (l_law_asked : K.lookup f_law_asked = some ⟨oc_law_asked, od_law_asked, .func (PySem.W.fnOf "_law_asked" "_law_asked" (defArgs s_law_asked) (defBody s_law_asked) (defScope s_law_asked) .none kV_law_asked dc_law_asked pm_law_asked an_law_asked cd_law_asked ct_law_asked), sl_law_asked⟩)
    (c_law_asked : PySem.W.codeIn K cd_law_asked "_law_asked" = true)
    (k_law_asked : PySem.W.keepIn K (.ref f_law_asked) = true)
    {f_law_bad : Addr} {od_law_bad an_law_bad : Option Addr} {sl_law_bad : Array (Option Value)} {oc_law_bad kV_law_bad dc_law_bad pm_law_bad cd_law_bad ct_law_bad : Value}
    (a_law_bad : PySem.W.nsIn K mainGlobals "_law_bad" = some (some (.ref f_law_bad)))
    (l_law_bad : K.lookup f_law_bad = some ⟨oc_law_bad, od_law_bad, .func (PySem.W.fnOf "_law_bad" "_law_bad" (defArgs s_law_bad) (defBody s_law_bad) (defScope s_law_bad) .none kV_law_bad dc_law_bad pm_law_bad an_law_bad cd_law_bad ct_law_bad), sl_law_bad⟩)
    (c_law_bad : PySem.W.codeIn K cd_law_bad "_law_bad" = true)
    (k_law_bad : PySem.W.keepIn K (.ref f_law_bad) = true)
    {f_law_thing : Addr} {od_law_thing an_law_thing : Option Addr} {sl_law_thing : Array (Option Value)} {oc_law_thing kV_law_thing dc_law_thing pm_law_thing cd_law_thing ct_law_thing : Value}
    (a_law_thing : PySem.W.nsIn K mainGlobals "_law_thing" = some (some (.ref f_law_thing)))
    (l_law_thing : K.lookup f_law_thing = some ⟨oc_law_thing, od_law_thing, .func (PySem.W.fnOf "_law_thing" "_law_thing" (defArgs s_law_thing) (defBody s_law_thing) (defScope s_law_thing) .none kV_law_thing dc_law_thing pm_law_thing an_law_thing cd_law_thing ct_law_thing), sl_law_thing⟩)
    (c_law_thing : PySem.W.codeIn K cd_law_thing "_law_thing" = true)
    (k_law_thing : PySem.W.keepIn K (.ref f_law_thing) = true)
    {f_law_what : Addr} {od_law_what an_law_what : Option Addr} {sl_law_what : Array (Option Value)} {oc_law_what kV_law_what dc_law_what pm_law_what cd_law_what ct_law_what : Value}
    (a_law_what : PySem.W.nsIn K mainGlobals "_law_what" = some (some (.ref f_law_what)))
    (l_law_what : K.lookup f_law_what = some ⟨oc_law_what, od_law_what, .func (PySem.W.fnOf "_law_what" "_law_what" (defArgs s_law_what) (defBody s_law_what) (defScope s_law_what) .none kV_law_what dc_law_what pm_law_what an_law_what cd_law_what ct_law_what), sl_law_what⟩)
    (c_law_what : PySem.W.codeIn K cd_law_what "_law_what" = true)
    (k_law_what : PySem.W.keepIn K (.ref f_law_what) = true)
    {f_law_same : Addr} {od_law_same an_law_same : Option Addr} {sl_law_same : Array (Option Value)} {oc_law_same kV_law_same dc_law_same pm_law_same cd_law_same ct_law_same : Value}
    (a_law_same : PySem.W.nsIn K mainGlobals "_law_same" = some (some (.ref f_law_same)))
    (l_law_same : K.lookup f_law_same = some ⟨oc_law_same, od_law_same, .func (PySem.W.fnOf "_law_same" "_law_same" (defArgs s_law_same) (defBody s_law_same) (defScope s_law_same) .none kV_law_same dc_law_same pm_law_same an_law_same cd_law_same ct_law_same), sl_law_same⟩)
    (c_law_same : PySem.W.codeIn K cd_law_same "_law_same" = true)
    (k_law_same : PySem.W.keepIn K (.ref f_law_same) = true)
    {f_law : Addr} {od_law an_law : Option Addr} {sl_law : Array (Option Value)} {oc_law kV_law dc_law pm_law cd_law ct_law : Value}
    (a_law : PySem.W.nsIn K mainGlobals "law" = some (some (.ref f_law)))
    (l_law : K.lookup f_law = some ⟨oc_law, od_law, .func (PySem.W.fnOf "law" "law" (defArgs s_law) (defBody s_law) (defScope s_law) .none kV_law dc_law pm_law an_law cd_law ct_law), sl_law⟩)
    (c_law : PySem.W.codeIn K cd_law "law" = true)
    (k_law : PySem.W.keepIn K (.ref f_law) = true)
    (z_len : PySem.W.nsIn K mainGlobals "len" = some none)
    (z_range : PySem.W.nsIn K mainGlobals "range" = some none)
    (z_isinstance : PySem.W.nsIn K mainGlobals "isinstance" = some none)
    (z_int : PySem.W.nsIn K mainGlobals "int" = some none)
    (z_bool : PySem.W.nsIn K mainGlobals "bool" = some none)
    (z_list : PySem.W.nsIn K mainGlobals "list" = some none)
    (z_tuple : PySem.W.nsIn K mainGlobals "tuple" = some none)
    (z_str : PySem.W.nsIn K mainGlobals "str" = some none)
    (z_all : PySem.W.nsIn K mainGlobals "all" = some none)
    (z_min : PySem.W.nsIn K mainGlobals "min" = some none)
    (z_ValueError : PySem.W.nsIn K mainGlobals "ValueError" = some none)
    : ∃ fd : FuncData, (∀ (s : Shared) (v : Value), BindsTo s fd ⟨[v], []⟩ [("_law_script", v)]) ∧ ∀ base : Heap, K.In base → base.Ns mainGlobals mg → FnOk l.prog w K mg base CX0 7 fa fd ["_law_script"] (spLaw K) := by
  have e := hfa.symm.trans (PySem.W.mg_of X G a_law)
  cases e
  have F_is_whole := fun_mk (st := s_is_whole) l_is_whole c_is_whole k_is_whole
  have m_is_whole := PySem.W.mg_of X G a_is_whole
  have b_is_whole := F_is_whole.binds (ps := ["thing"]) fun _ _ _ _ _ _ us hl => match us, hl with | [_], _ => rfl
  have D_is_whole : Dfn K mg "is_whole" s_is_whole ["thing"] := ⟨_, _, F_is_whole, m_is_whole, b_is_whole⟩
  have F_is_row := fun_mk (st := s_is_row) l_is_row c_is_row k_is_row
  have m_is_row := PySem.W.mg_of X G a_is_row
  have b_is_row := F_is_row.binds (ps := ["thing"]) fun _ _ _ _ _ _ us hl => match us, hl with | [_], _ => rfl
  have D_is_row : Dfn K mg "is_row" s_is_row ["thing"] := ⟨_, _, F_is_row, m_is_row, b_is_row⟩
  have F_check_row := fun_mk (st := s_check_row) l_check_row c_check_row k_check_row
  have m_check_row := PySem.W.mg_of X G a_check_row
  have b_check_row := F_check_row.binds (ps := ["thing"]) fun _ _ _ _ _ _ us hl => match us, hl with | [_], _ => rfl
  have D_check_row : Dfn K mg "check_row" s_check_row ["thing"] := ⟨_, _, F_check_row, m_check_row, b_check_row⟩
  have F_law_whole := fun_mk (st := s_law_whole) l_law_whole c_law_whole k_law_whole
  have m_law_whole := PySem.W.mg_of X G a_law_whole
  have b_law_whole := F_law_whole.binds (ps := ["_law_found"]) fun _ _ _ _ _ _ us hl => match us, hl with | [_], _ => rfl
  have D_law_whole : Dfn K mg "_law_whole" s_law_whole ["_law_found"] := ⟨_, _, F_law_whole, m_law_whole, b_law_whole⟩
  have F_law_mix := fun_mk (st := s_law_mix) l_law_mix c_law_mix k_law_mix
  have m_law_mix := PySem.W.mg_of X G a_law_mix
  have b_law_mix := F_law_mix.binds (ps := ["_law_number", "_law_k"]) fun _ _ _ _ _ _ us hl => match us, hl with | [_, _], _ => rfl
  have D_law_mix : Dfn K mg "_law_mix" s_law_mix ["_law_number", "_law_k"] := ⟨_, _, F_law_mix, m_law_mix, b_law_mix⟩
  have F_law_text := fun_mk (st := s_law_text) l_law_text c_law_text k_law_text
  have m_law_text := PySem.W.mg_of X G a_law_text
  have b_law_text := F_law_text.binds (ps := ["_law_cell"]) fun _ _ _ _ _ _ us hl => match us, hl with | [_], _ => rfl
  have D_law_text : Dfn K mg "_law_text" s_law_text ["_law_cell"] := ⟨_, _, F_law_text, m_law_text, b_law_text⟩
  have F_law_near := fun_mk (st := s_law_near) l_law_near c_law_near k_law_near
  have m_law_near := PySem.W.mg_of X G a_law_near
  have b_law_near := F_law_near.binds (ps := ["_law_text_here", "_law_cell"]) fun _ _ _ _ _ _ us hl => match us, hl with | [_, _], _ => rfl
  have D_law_near : Dfn K mg "_law_near" s_law_near ["_law_text_here", "_law_cell"] := ⟨_, _, F_law_near, m_law_near, b_law_near⟩
  have F_law_room := fun_mk (st := s_law_room) l_law_room c_law_room k_law_room
  have m_law_room := PySem.W.mg_of X G a_law_room
  have b_law_room := F_law_room.binds (ps := ["_law_script", "_law_small", "_law_great"]) fun _ _ _ _ _ _ us hl => match us, hl with | [_, _, _], _ => rfl
  have D_law_room : Dfn K mg "_law_room" s_law_room ["_law_script", "_law_small", "_law_great"] := ⟨_, _, F_law_room, m_law_room, b_law_room⟩
  have F_law_class := fun_mk (st := s_law_class) l_law_class c_law_class k_law_class
  have m_law_class := PySem.W.mg_of X G a_law_class
  have b_law_class := F_law_class.binds (ps := ["_law_e"]) fun _ _ _ _ _ _ us hl => match us, hl with | [_], _ => rfl
  have D_law_class : Dfn K mg "_law_class" s_law_class ["_law_e"] := ⟨_, _, F_law_class, m_law_class, b_law_class⟩
  have F_law_asked := fun_mk (st := s_law_asked) l_law_asked c_law_asked k_law_asked
  have m_law_asked := PySem.W.mg_of X G a_law_asked
  have b_law_asked := F_law_asked.binds (ps := ["_law_ledger", "_law_thing_here"]) fun _ _ _ _ _ _ us hl => match us, hl with | [_, _], _ => rfl
  have D_law_asked : Dfn K mg "_law_asked" s_law_asked ["_law_ledger", "_law_thing_here"] := ⟨_, _, F_law_asked, m_law_asked, b_law_asked⟩
  have F_law_bad := fun_mk (st := s_law_bad) l_law_bad c_law_bad k_law_bad
  have m_law_bad := PySem.W.mg_of X G a_law_bad
  have b_law_bad := F_law_bad.binds (ps := ["_law_cell", "_law_many"]) fun _ _ _ _ _ _ us hl => match us, hl with | [_, _], _ => rfl
  have D_law_bad : Dfn K mg "_law_bad" s_law_bad ["_law_cell", "_law_many"] := ⟨_, _, F_law_bad, m_law_bad, b_law_bad⟩
  have F_law_thing := fun_mk (st := s_law_thing) l_law_thing c_law_thing k_law_thing
  have m_law_thing := PySem.W.mg_of X G a_law_thing
  have b_law_thing := F_law_thing.binds (ps := ["_law_things", "_law_cell"]) fun _ _ _ _ _ _ us hl => match us, hl with | [_, _], _ => rfl
  have D_law_thing : Dfn K mg "_law_thing" s_law_thing ["_law_things", "_law_cell"] := ⟨_, _, F_law_thing, m_law_thing, b_law_thing⟩
  have F_law_what := fun_mk (st := s_law_what) l_law_what c_law_what k_law_what
  have m_law_what := PySem.W.mg_of X G a_law_what
  have b_law_what := F_law_what.binds (ps := ["_law_ledger", "_law_number"]) fun _ _ _ _ _ _ us hl => match us, hl with | [_, _], _ => rfl
  have D_law_what : Dfn K mg "_law_what" s_law_what ["_law_ledger", "_law_number"] := ⟨_, _, F_law_what, m_law_what, b_law_what⟩
  have F_law_same := fun_mk (st := s_law_same) l_law_same c_law_same k_law_same
  have m_law_same := PySem.W.mg_of X G a_law_same
  have b_law_same := F_law_same.binds (ps := ["_law_ledger", "_law_things", "_law_cell"]) fun _ _ _ _ _ _ us hl => match us, hl with | [_, _, _], _ => rfl
  have D_law_same : Dfn K mg "_law_same" s_law_same ["_law_ledger", "_law_things", "_law_cell"] := ⟨_, _, F_law_same, m_law_same, b_law_same⟩
  have F_law := fun_mk (st := s_law) l_law c_law k_law
  have F_Ledger___init__ := fun_mk (st := s_Ledger___init__) l_Ledger___init__ c_Ledger___init__ k_Ledger___init__
  have D_Ledger___init__ : Mth K c_Ledger "__init__" "Ledger.__init__" s_Ledger___init__ ["self"] := ⟨_, _, F_Ledger___init__, ⟨a_Ledger___init__, i_Ledger___init__, k_Ledger___init__⟩, F_Ledger___init__.binds (ps := ["self"]) fun _ _ _ _ _ _ us hl => match us, hl with | [_], _ => rfl⟩
  have F_Ledger_of_row := fun_mk (st := s_Ledger_of_row) l_Ledger_of_row c_Ledger_of_row k_Ledger_of_row
  have D_Ledger_of_row : Mth K c_Ledger "of_row" "Ledger.of_row" s_Ledger_of_row ["self", "row"] := ⟨_, _, F_Ledger_of_row, ⟨a_Ledger_of_row, i_Ledger_of_row, k_Ledger_of_row⟩, F_Ledger_of_row.binds (ps := ["self", "row"]) fun _ _ _ _ _ _ us hl => match us, hl with | [_, _], _ => rfl⟩
  have F_Ledger_of_pair := fun_mk (st := s_Ledger_of_pair) l_Ledger_of_pair c_Ledger_of_pair k_Ledger_of_pair
  have D_Ledger_of_pair : Mth K c_Ledger "of_pair" "Ledger.of_pair" s_Ledger_of_pair ["self", "one", "other"] := ⟨_, _, F_Ledger_of_pair, ⟨a_Ledger_of_pair, i_Ledger_of_pair, k_Ledger_of_pair⟩, F_Ledger_of_pair.binds (ps := ["self", "one", "other"]) fun _ _ _ _ _ _ us hl => match us, hl with | [_, _, _], _ => rfl⟩
  have F_Ledger_what := fun_mk (st := s_Ledger_what) l_Ledger_what c_Ledger_what k_Ledger_what
  have D_Ledger_what : Mth K c_Ledger "what" "Ledger.what" s_Ledger_what ["self", "number"] := ⟨_, _, F_Ledger_what, ⟨a_Ledger_what, i_Ledger_what, k_Ledger_what⟩, F_Ledger_what.binds (ps := ["self", "number"]) fun _ _ _ _ _ _ us hl => match us, hl with | [_, _], _ => rfl⟩
  have F_Ledger_many := fun_mk (st := s_Ledger_many) l_Ledger_many c_Ledger_many k_Ledger_many
  have D_Ledger_many : Mth K c_Ledger "many" "Ledger.many" s_Ledger_many ["self"] := ⟨_, _, F_Ledger_many, ⟨a_Ledger_many, i_Ledger_many, k_Ledger_many⟩, F_Ledger_many.binds (ps := ["self"]) fun _ _ _ _ _ _ us hl => match us, hl with | [_], _ => rfl⟩
  have F_Ledger__gave_out := fun_mk (st := s_Ledger__gave_out) l_Ledger__gave_out c_Ledger__gave_out k_Ledger__gave_out
  have D_Ledger__gave_out : Mth K c_Ledger "_gave_out" "Ledger._gave_out" s_Ledger__gave_out ["self", "thing"] := ⟨_, _, F_Ledger__gave_out, ⟨a_Ledger__gave_out, i_Ledger__gave_out, k_Ledger__gave_out⟩, F_Ledger__gave_out.binds (ps := ["self", "thing"]) fun _ _ _ _ _ _ us hl => match us, hl with | [_, _], _ => rfl⟩
  have F_Ledger__sum_of := fun_mk (st := s_Ledger__sum_of) l_Ledger__sum_of c_Ledger__sum_of k_Ledger__sum_of
  have D_Ledger__sum_of : Mth K c_Ledger "_sum_of" "Ledger._sum_of" s_Ledger__sum_of ["self", "thing"] := ⟨_, _, F_Ledger__sum_of, ⟨a_Ledger__sum_of, i_Ledger__sum_of, k_Ledger__sum_of⟩, F_Ledger__sum_of.binds (ps := ["self", "thing"]) fun _ _ _ _ _ _ us hl => match us, hl with | [_, _], _ => rfl⟩
  have T_Ledger : TLed K mg c_Ledger := ⟨⟨pg_Ledger, hd_Ledger, po_Ledger, sa_Ledger⟩, n_Ledger__sums, n_Ledger__told, PySem.W.mg_of X G aC_Ledger⟩
  have X_TwinError : ExT K mg "TwinError" c_TwinError := ⟨PySem.W.mg_of X G aE_TwinError, qE_TwinError, kE_TwinError, bE_TwinError, tE_TwinError⟩
  have X_NoRow : ExT K mg "NoRow" c_NoRow := ⟨PySem.W.mg_of X G aE_NoRow, qE_NoRow, kE_NoRow, bE_NoRow, tE_NoRow⟩
  have XC_NoRow : ExcC K c_NoRow := ⟨hgE_NoRow, hkE_NoRow, bE_NoRow, dE_NoRow, haE_NoRow, hnE_NoRow, htE_NoRow, hmE_NoRow⟩
  have X_NoSum : ExT K mg "NoSum" c_NoSum := ⟨PySem.W.mg_of X G aE_NoSum, qE_NoSum, kE_NoSum, bE_NoSum, tE_NoSum⟩
  have XC_NoSum : ExcC K c_NoSum := ⟨hgE_NoSum, hkE_NoSum, bE_NoSum, dE_NoSum, haE_NoSum, hnE_NoSum, htE_NoSum, hmE_NoSum⟩
  have X_NoPlace : ExT K mg "NoPlace" c_NoPlace := ⟨PySem.W.mg_of X G aE_NoPlace, qE_NoPlace, kE_NoPlace, bE_NoPlace, tE_NoPlace⟩
  have X_NoBlock : ExT K mg "NoBlock" c_NoBlock := ⟨PySem.W.mg_of X G aE_NoBlock, qE_NoBlock, kE_NoBlock, bE_NoBlock, tE_NoBlock⟩
  have X_Full : ExT K mg "Full" c_Full := ⟨PySem.W.mg_of X G aE_Full, qE_Full, kE_Full, bE_Full, tE_Full⟩
  have X_Strange : ExT K mg "Strange" c_Strange := ⟨PySem.W.mg_of X G aE_Strange, qE_Strange, kE_Strange, bE_Strange, tE_Strange⟩
  have V : Gb mg := ⟨⟨_, PySem.W.mg_of X G v_SIGNS⟩, ⟨_, PySem.W.mg_of X G v_LONGEST_ROW⟩⟩
  have B : Bi mg := ⟨PySem.W.mg_none_of X G z_len, PySem.W.mg_none_of X G z_range, PySem.W.mg_none_of X G z_isinstance, PySem.W.mg_none_of X G z_int, PySem.W.mg_none_of X G z_bool, PySem.W.mg_none_of X G z_list, PySem.W.mg_none_of X G z_tuple, PySem.W.mg_none_of X G z_str, PySem.W.mg_none_of X G z_all, PySem.W.mg_none_of X G z_min, PySem.W.mg_none_of X G z_ValueError⟩
  refine ⟨PySem.W.fnOf "law" "law" (defArgs s_law) (defBody s_law) (defScope s_law) .none kV_law dc_law pm_law an_law cd_law ct_law, fun s v => .of_eq rfl, fun base _ _ => ?_⟩
  have C_is_whole := ok_is_whole (P := l.prog) (w := w) (base := base) D_is_whole B
  have C_is_row := ok_is_row (P := l.prog) (w := w) (base := base) D_is_row B V
  have M_init := ok_init (P := l.prog) (w := w) (base := base) D_Ledger___init__ T_Ledger
  have M_sum := ok_sum (P := l.prog) (w := w) (base := base) D_Ledger__sum_of T_Ledger B
  have M_many := ok_many (P := l.prog) (w := w) (base := base) D_Ledger_many T_Ledger B
  have M_gave := ok_gave D_Ledger__gave_out T_Ledger B C_is_whole
  have C_check_row := ok_check_row D_check_row X_NoRow C_is_row
  have M_row := ok_of_row D_Ledger_of_row T_Ledger C_check_row M_sum
  have M_pair := ok_of_pair D_Ledger_of_pair T_Ledger B X_NoSum M_gave M_sum
  have M_what := ok_what D_Ledger_what T_Ledger B X_NoSum M_gave
  have N_Ledger := M_init.toN mk_Ledger kc_Ledger
  have C_mix := ok_mix (P := l.prog) (w := w) (base := base) D_law_mix
  have C_room := ok_room (P := l.prog) (w := w) (base := base) D_law_room B
  have C_whole := ok_law_whole (P := l.prog) (w := w) (base := base) D_law_whole B
  have C_text := ok_text D_law_text B C_mix
  have C_near := ok_near (P := l.prog) (w := w) (base := base) D_law_near B
  have C_thing := ok_thing D_law_thing B C_mix C_near C_text
  have C_bad := ok_bad (P := l.prog) (w := w) (base := base) D_law_bad B
  have kR : KD K c_NoRow c_Full c_NoBlock c_NoPlace c_Strange c_NoRow c_NoSum true false := ⟨XC_NoRow, r_F, r_B, r_P, r_T, r_R, r_S, r_V⟩
  have kS : KD K c_NoSum c_Full c_NoBlock c_NoPlace c_Strange c_NoRow c_NoSum false true := ⟨XC_NoSum, s_F, s_B, s_P, s_T, s_R, s_S, s_V⟩
  have E_class := ok_class (P := l.prog) (w := w) (base := base) F_law_class B X_Full X_NoBlock X_NoPlace X_Strange X_NoRow X_NoSum kR kS
  have eR := PySem.W.exm_ref bE_TwinError dE_TwinError tE_TwinError u_R
  have eS := PySem.W.exm_ref bE_TwinError dE_TwinError tE_TwinError u_S
  have C_asked := ok_asked D_law_asked T_Ledger B X_TwinError eR eS M_row M_pair E_class m_law_class k_law_class b_law_class
  have C_what := ok_law_what D_law_what T_Ledger B X_TwinError eS M_what E_class m_law_class k_law_class b_law_class
  have C_same := ok_same D_law_same T_Ledger B C_mix C_whole C_what M_many M_what
  exact ok_law F_law B T_Ledger N_Ledger C_mix C_room C_whole C_thing C_bad C_asked C_same


end My
open PySem PySem.W PyProof.Rows
set_option maxRecDepth 100000 in
set_option maxHeartbeats 0 in
theorem PySem.Challenge.cw_twinsum_k02_ledger_gives_holds : PySem.Challenge.rw_twinsum_k02_ledger_gives.Holds := by
  w_on; o_law; k_head; (case hw => w_witness2)
  k_fill
  refine L2.walk_of (l := PySem.Challenge.rw_twinsum_k02_ledger_gives) (n := 63) (k := 7) (x := "_law_script") (CX := fun _ => L2.CX0) (sp := fun w => My.spLaw _) rfl (by decide) rfl ⟨rfl, by decide, by decide⟩ (fun w h Y => PySem.W.kIn_of Y) ?F (fun _ _ a ns hl _ hS => ⟨a, ns, rfl, hS, hl, fun _ => rfl⟩) (fun _ _ _ _ _ h => h)
  case F =>
    intro w mg fa h KX G hmg
    refine' My.all_mk KX G hmg ?aC_Ledger ?aE_TwinError ?aE_NoRow ?aE_NoSum ?aE_NoPlace ?aE_NoBlock ?aE_Full ?aE_Strange ?pg_Ledger ?hd_Ledger ?po_Ledger ?sa_Ledger ?mk_Ledger ?kc_Ledger ?n_Ledger__sums ?n_Ledger__told ?a_Ledger___init__ ?i_Ledger___init__ ?l_Ledger___init__ ?c_Ledger___init__ ?k_Ledger___init__ ?a_Ledger_of_row ?i_Ledger_of_row ?l_Ledger_of_row ?c_Ledger_of_row ?k_Ledger_of_row ?a_Ledger_of_pair ?i_Ledger_of_pair ?l_Ledger_of_pair ?c_Ledger_of_pair ?k_Ledger_of_pair ?a_Ledger_what ?i_Ledger_what ?l_Ledger_what ?c_Ledger_what ?k_Ledger_what ?a_Ledger_many ?i_Ledger_many ?l_Ledger_many ?c_Ledger_many ?k_Ledger_many ?a_Ledger__gave_out ?i_Ledger__gave_out ?l_Ledger__gave_out ?c_Ledger__gave_out ?k_Ledger__gave_out ?a_Ledger__sum_of ?i_Ledger__sum_of ?l_Ledger__sum_of ?c_Ledger__sum_of ?k_Ledger__sum_of ?qE_TwinError ?kE_TwinError ?bE_TwinError ?tE_TwinError ?dE_TwinError ?qE_NoRow ?kE_NoRow ?bE_NoRow ?tE_NoRow ?dE_NoRow ?hgE_NoRow ?hkE_NoRow ?haE_NoRow ?hnE_NoRow ?htE_NoRow ?hmE_NoRow ?qE_NoSum ?kE_NoSum ?bE_NoSum ?tE_NoSum ?dE_NoSum ?hgE_NoSum ?hkE_NoSum ?haE_NoSum ?hnE_NoSum ?htE_NoSum ?hmE_NoSum ?qE_NoPlace ?kE_NoPlace ?bE_NoPlace ?tE_NoPlace ?dE_NoPlace ?qE_NoBlock ?kE_NoBlock ?bE_NoBlock ?tE_NoBlock ?dE_NoBlock ?qE_Full ?kE_Full ?bE_Full ?tE_Full ?dE_Full ?qE_Strange ?kE_Strange ?bE_Strange ?tE_Strange ?dE_Strange ?v_SIGNS ?v_LONGEST_ROW ?r_F ?r_B ?r_P ?r_T ?r_R ?r_S ?r_V ?s_F ?s_B ?s_P ?s_T ?s_R ?s_S ?s_V ?u_R ?u_S ?a_is_whole ?l_is_whole ?c_is_whole ?k_is_whole ?a_is_row ?l_is_row ?c_is_row ?k_is_row ?a_check_row ?l_check_row ?c_check_row ?k_check_row ?a_law_whole ?l_law_whole ?c_law_whole ?k_law_whole ?a_law_mix ?l_law_mix ?c_law_mix ?k_law_mix ?a_law_text ?l_law_text ?c_law_text ?k_law_text ?a_law_near ?l_law_near ?c_law_near ?k_law_near ?a_law_room ?l_law_room ?c_law_room ?k_law_room ?a_law_class ?l_law_class ?c_law_class ?k_law_class ?a_law_asked ?l_law_asked ?c_law_asked ?k_law_asked ?a_law_bad ?l_law_bad ?c_law_bad ?k_law_bad ?a_law_thing ?l_law_thing ?c_law_thing ?k_law_thing ?a_law_what ?l_law_what ?c_law_what ?k_law_what ?a_law_same ?l_law_same ?c_law_same ?k_law_same ?a_law ?l_law ?c_law ?k_law ?z_len ?z_range ?z_isinstance ?z_int ?z_bool ?z_list ?z_tuple ?z_str ?z_all ?z_min ?z_ValueError
    (case aC_Ledger => first | k_is | fail "fact aC_Ledger")
    (case aE_TwinError => first | k_is | fail "fact aE_TwinError")
    (case aE_NoRow => first | k_is | fail "fact aE_NoRow")
    (case aE_NoSum => first | k_is | fail "fact aE_NoSum")
    (case aE_NoPlace => first | k_is | fail "fact aE_NoPlace")
    (case aE_NoBlock => first | k_is | fail "fact aE_NoBlock")
    (case aE_Full => first | k_is | fail "fact aE_Full")
    (case aE_Strange => first | k_is | fail "fact aE_Strange")
    (case pg_Ledger => first | k_is | fail "fact pg_Ledger")
    (case hd_Ledger => first | k_is | fail "fact hd_Ledger")
    (case po_Ledger => first | k_is | fail "fact po_Ledger")
    (case sa_Ledger => first | k_is | fail "fact sa_Ledger")
    (case mk_Ledger => first | k_is | fail "fact mk_Ledger")
    (case kc_Ledger => first | k_is | fail "fact kc_Ledger")
    (case n_Ledger__sums => first | k_is | fail "fact n_Ledger__sums")
    (case n_Ledger__told => first | k_is | fail "fact n_Ledger__told")
    (case a_Ledger___init__ => first | k_is | fail "fact a_Ledger___init__")
    (case i_Ledger___init__ => first | k_is | fail "fact i_Ledger___init__")
    (case l_Ledger___init__ => first | k_is | fail "fact l_Ledger___init__")
    (case c_Ledger___init__ => first | k_is | fail "fact c_Ledger___init__")
    (case k_Ledger___init__ => first | k_is | fail "fact k_Ledger___init__")
    (case a_Ledger_of_row => first | k_is | fail "fact a_Ledger_of_row")
    (case i_Ledger_of_row => first | k_is | fail "fact i_Ledger_of_row")
    (case l_Ledger_of_row => first | k_is | fail "fact l_Ledger_of_row")
    (case c_Ledger_of_row => first | k_is | fail "fact c_Ledger_of_row")
    (case k_Ledger_of_row => first | k_is | fail "fact k_Ledger_of_row")
    (case a_Ledger_of_pair => first | k_is | fail "fact a_Ledger_of_pair")
    (case i_Ledger_of_pair => first | k_is | fail "fact i_Ledger_of_pair")
    (case l_Ledger_of_pair => first | k_is | fail "fact l_Ledger_of_pair")
    (case c_Ledger_of_pair => first | k_is | fail "fact c_Ledger_of_pair")
    (case k_Ledger_of_pair => first | k_is | fail "fact k_Ledger_of_pair")
    (case a_Ledger_what => first | k_is | fail "fact a_Ledger_what")
    (case i_Ledger_what => first | k_is | fail "fact i_Ledger_what")
    (case l_Ledger_what => first | k_is | fail "fact l_Ledger_what")
    (case c_Ledger_what => first | k_is | fail "fact c_Ledger_what")
    (case k_Ledger_what => first | k_is | fail "fact k_Ledger_what")
    (case a_Ledger_many => first | k_is | fail "fact a_Ledger_many")
    (case i_Ledger_many => first | k_is | fail "fact i_Ledger_many")
    (case l_Ledger_many => first | k_is | fail "fact l_Ledger_many")
    (case c_Ledger_many => first | k_is | fail "fact c_Ledger_many")
    (case k_Ledger_many => first | k_is | fail "fact k_Ledger_many")
    (case a_Ledger__gave_out => first | k_is | fail "fact a_Ledger__gave_out")
    (case i_Ledger__gave_out => first | k_is | fail "fact i_Ledger__gave_out")
    (case l_Ledger__gave_out => first | k_is | fail "fact l_Ledger__gave_out")
    (case c_Ledger__gave_out => first | k_is | fail "fact c_Ledger__gave_out")
    (case k_Ledger__gave_out => first | k_is | fail "fact k_Ledger__gave_out")
    (case a_Ledger__sum_of => first | k_is | fail "fact a_Ledger__sum_of")
    (case i_Ledger__sum_of => first | k_is | fail "fact i_Ledger__sum_of")
    (case l_Ledger__sum_of => first | k_is | fail "fact l_Ledger__sum_of")
    (case c_Ledger__sum_of => first | k_is | fail "fact c_Ledger__sum_of")
    (case k_Ledger__sum_of => first | k_is | fail "fact k_Ledger__sum_of")
    (case qE_TwinError => first | k_exc | fail "fact qE_TwinError")
    (case kE_TwinError => first | k_is | fail "fact kE_TwinError")
    (case bE_TwinError => first | k_is | fail "fact bE_TwinError")
    (case tE_TwinError => first | k_is | fail "fact tE_TwinError")
    (case dE_TwinError => first | k_is | fail "fact dE_TwinError")
    (case qE_NoRow => first | k_exc | fail "fact qE_NoRow")
    (case kE_NoRow => first | k_is | fail "fact kE_NoRow")
    (case bE_NoRow => first | k_is | fail "fact bE_NoRow")
    (case tE_NoRow => first | k_is | fail "fact tE_NoRow")
    (case dE_NoRow => first | k_is | fail "fact dE_NoRow")
    (case hgE_NoRow => first | k_is | fail "fact hgE_NoRow")
    (case hkE_NoRow => first | k_is | fail "fact hkE_NoRow")
    (case haE_NoRow => first | k_is | fail "fact haE_NoRow")
    (case hnE_NoRow => first | k_is | fail "fact hnE_NoRow")
    (case htE_NoRow => first | k_is | fail "fact htE_NoRow")
    (case hmE_NoRow => first | k_is | fail "fact hmE_NoRow")
    (case qE_NoSum => first | k_exc | fail "fact qE_NoSum")
    (case kE_NoSum => first | k_is | fail "fact kE_NoSum")
    (case bE_NoSum => first | k_is | fail "fact bE_NoSum")
    (case tE_NoSum => first | k_is | fail "fact tE_NoSum")
    (case dE_NoSum => first | k_is | fail "fact dE_NoSum")
    (case hgE_NoSum => first | k_is | fail "fact hgE_NoSum")
    (case hkE_NoSum => first | k_is | fail "fact hkE_NoSum")
    (case haE_NoSum => first | k_is | fail "fact haE_NoSum")
    (case hnE_NoSum => first | k_is | fail "fact hnE_NoSum")
    (case htE_NoSum => first | k_is | fail "fact htE_NoSum")
    (case hmE_NoSum => first | k_is | fail "fact hmE_NoSum")
    (case qE_NoPlace => first | k_exc | fail "fact qE_NoPlace")
    (case kE_NoPlace => first | k_is | fail "fact kE_NoPlace")
    (case bE_NoPlace => first | k_is | fail "fact bE_NoPlace")
    (case tE_NoPlace => first | k_is | fail "fact tE_NoPlace")
    (case dE_NoPlace => first | k_is | fail "fact dE_NoPlace")
    (case qE_NoBlock => first | k_exc | fail "fact qE_NoBlock")
    (case kE_NoBlock => first | k_is | fail "fact kE_NoBlock")
    (case bE_NoBlock => first | k_is | fail "fact bE_NoBlock")
    (case tE_NoBlock => first | k_is | fail "fact tE_NoBlock")
    (case dE_NoBlock => first | k_is | fail "fact dE_NoBlock")
    (case qE_Full => first | k_exc | fail "fact qE_Full")
    (case kE_Full => first | k_is | fail "fact kE_Full")
    (case bE_Full => first | k_is | fail "fact bE_Full")
    (case tE_Full => first | k_is | fail "fact tE_Full")
    (case dE_Full => first | k_is | fail "fact dE_Full")
    (case qE_Strange => first | k_exc | fail "fact qE_Strange")
    (case kE_Strange => first | k_is | fail "fact kE_Strange")
    (case bE_Strange => first | k_is | fail "fact bE_Strange")
    (case tE_Strange => first | k_is | fail "fact tE_Strange")
    (case dE_Strange => first | k_is | fail "fact dE_Strange")
    (case v_SIGNS => first | k_is | fail "fact v_SIGNS")
    (case v_LONGEST_ROW => first | k_is | fail "fact v_LONGEST_ROW")
    (case r_F => first | (first | k_is | rfl) | fail "fact r_F")
    (case r_B => first | (first | k_is | rfl) | fail "fact r_B")
    (case r_P => first | (first | k_is | rfl) | fail "fact r_P")
    (case r_T => first | (first | k_is | rfl) | fail "fact r_T")
    (case r_R => first | (first | k_is | rfl) | fail "fact r_R")
    (case r_S => first | (first | k_is | rfl) | fail "fact r_S")
    (case r_V => first | (first | k_is | rfl) | fail "fact r_V")
    (case s_F => first | (first | k_is | rfl) | fail "fact s_F")
    (case s_B => first | (first | k_is | rfl) | fail "fact s_B")
    (case s_P => first | (first | k_is | rfl) | fail "fact s_P")
    (case s_T => first | (first | k_is | rfl) | fail "fact s_T")
    (case s_R => first | (first | k_is | rfl) | fail "fact s_R")
    (case s_S => first | (first | k_is | rfl) | fail "fact s_S")
    (case s_V => first | (first | k_is | rfl) | fail "fact s_V")
    (case u_R => first | (first | k_is | rfl) | fail "fact u_R")
    (case u_S => first | (first | k_is | rfl) | fail "fact u_S")
    (case a_is_whole => first | k_is | fail "fact a_is_whole")
    (case l_is_whole => first | k_is | fail "fact l_is_whole")
    (case c_is_whole => first | k_is | fail "fact c_is_whole")
    (case k_is_whole => first | k_is | fail "fact k_is_whole")
    (case a_is_row => first | k_is | fail "fact a_is_row")
    (case l_is_row => first | k_is | fail "fact l_is_row")
    (case c_is_row => first | k_is | fail "fact c_is_row")
    (case k_is_row => first | k_is | fail "fact k_is_row")
    (case a_check_row => first | k_is | fail "fact a_check_row")
    (case l_check_row => first | k_is | fail "fact l_check_row")
    (case c_check_row => first | k_is | fail "fact c_check_row")
    (case k_check_row => first | k_is | fail "fact k_check_row")
    (case a_law_whole => first | k_is | fail "fact a_law_whole")
    (case l_law_whole => first | k_is | fail "fact l_law_whole")
    (case c_law_whole => first | k_is | fail "fact c_law_whole")
    (case k_law_whole => first | k_is | fail "fact k_law_whole")
    (case a_law_mix => first | k_is | fail "fact a_law_mix")
    (case l_law_mix => first | k_is | fail "fact l_law_mix")
    (case c_law_mix => first | k_is | fail "fact c_law_mix")
    (case k_law_mix => first | k_is | fail "fact k_law_mix")
    (case a_law_text => first | k_is | fail "fact a_law_text")
    (case l_law_text => first | k_is | fail "fact l_law_text")
    (case c_law_text => first | k_is | fail "fact c_law_text")
    (case k_law_text => first | k_is | fail "fact k_law_text")
    (case a_law_near => first | k_is | fail "fact a_law_near")
    (case l_law_near => first | k_is | fail "fact l_law_near")
    (case c_law_near => first | k_is | fail "fact c_law_near")
    (case k_law_near => first | k_is | fail "fact k_law_near")
    (case a_law_room => first | k_is | fail "fact a_law_room")
    (case l_law_room => first | k_is | fail "fact l_law_room")
    (case c_law_room => first | k_is | fail "fact c_law_room")
    (case k_law_room => first | k_is | fail "fact k_law_room")
    (case a_law_class => first | k_is | fail "fact a_law_class")
    (case l_law_class => first | k_is | fail "fact l_law_class")
    (case c_law_class => first | k_is | fail "fact c_law_class")
    (case k_law_class => first | k_is | fail "fact k_law_class")
    (case a_law_asked => first | k_is | fail "fact a_law_asked")
    (case l_law_asked => first | k_is | fail "fact l_law_asked")
    (case c_law_asked => first | k_is | fail "fact c_law_asked")
    (case k_law_asked => first | k_is | fail "fact k_law_asked")
    (case a_law_bad => first | k_is | fail "fact a_law_bad")
    (case l_law_bad => first | k_is | fail "fact l_law_bad")
    (case c_law_bad => first | k_is | fail "fact c_law_bad")
    (case k_law_bad => first | k_is | fail "fact k_law_bad")
    (case a_law_thing => first | k_is | fail "fact a_law_thing")
    (case l_law_thing => first | k_is | fail "fact l_law_thing")
    (case c_law_thing => first | k_is | fail "fact c_law_thing")
    (case k_law_thing => first | k_is | fail "fact k_law_thing")
    (case a_law_what => first | k_is | fail "fact a_law_what")
    (case l_law_what => first | k_is | fail "fact l_law_what")
    (case c_law_what => first | k_is | fail "fact c_law_what")
    (case k_law_what => first | k_is | fail "fact k_law_what")
    (case a_law_same => first | k_is | fail "fact a_law_same")
    (case l_law_same => first | k_is | fail "fact l_law_same")
    (case c_law_same => first | k_is | fail "fact c_law_same")
    (case k_law_same => first | k_is | fail "fact k_law_same")
    (case a_law => first | k_is | fail "fact a_law")
    (case l_law => first | k_is | fail "fact l_law")
    (case c_law => first | k_is | fail "fact c_law")
    (case k_law => first | k_is | fail "fact k_law")
    (case z_len => first | k_is | fail "fact z_len")
    (case z_range => first | k_is | fail "fact z_range")
    (case z_isinstance => first | k_is | fail "fact z_isinstance")
    (case z_int => first | k_is | fail "fact z_int")
    (case z_bool => first | k_is | fail "fact z_bool")
    (case z_list => first | k_is | fail "fact z_list")
    (case z_tuple => first | k_is | fail "fact z_tuple")
    (case z_str => first | k_is | fail "fact z_str")
    (case z_all => first | k_is | fail "fact z_all")
    (case z_min => first | k_is | fail "fact z_min")
    (case z_ValueError => first | k_is | fail "fact z_ValueError")

