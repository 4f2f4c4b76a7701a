import PyProof.Rows.All
import Wide.All
import OpenK.AllK
import Wide.FinOn
import PySem.Challenge.RW_twinsum_k08_whole_all_by_looks
import HandS.ForMost
import HandS.WideBits
import HandS.RevRange
import HandS.IsInst
import HandS.Evl
import HandS.Exc
import HandS.ExcOwn
import HandS.ExcIs
import HandS.WordsExc
import HandS.TryOnly
import HandS.TryMany
import HandS.HotCalls
import HandS.Walk
import HandS.Deep
import HandS.Conv
import HandS.SortInts
import HandS.TupSets
import KE.KDictSum
import KE.KDictKeyed
import KE.KeyNested
set_option Elab.async false
set_option linter.all false
set_option maxRecDepth 100000
set_option maxHeartbeats 4000000
set_option pp.deepTerms false
set_option pp.maxSteps 2500











namespace My
open PySem PySem.Spec PyProof.Rows L2
/-! ### digits, sizes, parts -/
def dig (n : Nat) : Nat := if n = 0 then 0 else n.log2 + 1
theorem dig_zero : dig 0 = 0 := rfl
theorem dig_half {n : Nat} (h : 0 < n) : dig n = dig (n / 2) + 1 := by
  unfold dig
  rw [if_neg (by omega)]
  by_cases h2 : n / 2 = 0
  · rw [if_pos h2]
    have : n = 1 := by omega
    subst this
    rfl
  · rw [if_neg h2, Nat.log2_def, if_pos (by omega)]
theorem dig_lt (n : Nat) : n < 2 ^ dig n := by
  unfold dig
  by_cases h : n = 0
  · rw [if_pos h, h]
    decide
  · rw [if_neg h]
    exact Nat.lt_log2_self
theorem dig_le {n m : Nat} (h : n < 2 ^ m) : dig n ≤ m := by
  unfold dig
  by_cases h0 : n = 0
  · rw [if_pos h0]
    exact Nat.zero_le _
  · rw [if_neg h0]
    exact (Nat.log2_lt h0).mpr h
theorem dig_bits (n : Nat) : Builtin.Int.intBits (n : Int) = dig n := by
  unfold Builtin.Int.intBits dig
  by_cases h : n = 0
  · subst h
    rfl
  · rw [if_neg h, if_neg]
    · rfl
    · intro e
      have := eq_of_beq e
      omega
theorem dig_small {n : Nat} (h : n ≤ 2000) : dig n ≤ 11 := dig_le (by omega)
def partsG (n : Nat) : Nat → Nat → List (Nat × Nat)
  | 0, _ => []
  | h + 1, s => if s + 2 ^ h ≤ n then (h, s / 2 ^ h) :: partsG n h (s + 2 ^ h) else partsG n h s
def parts (n : Nat) : List (Nat × Nat) := partsG n (dig n) 0
theorem parts_more (n : Nat) : partsG n (dig n + 1) 0 = parts n := by
  show (if 0 + 2 ^ dig n ≤ n then _ else _) = _
  rw [if_neg (by have := dig_lt n; omega)]
  rfl
/-- the parts stand one behind the other, of lesser and lesser height -/
def partsOk (n : Nat) : Nat → Nat → List (Nat × Nat) → Prop
  | _, s, [] => s = n
  | h, s, (g, j) :: r => g < h ∧ j * 2 ^ g = s ∧ partsOk n g (s + 2 ^ g) r
theorem partsOk_mono {n : Nat} : ∀ {h h' s : Nat} {l : List (Nat × Nat)}, h ≤ h' → partsOk n h s l → partsOk n h' s l
  | _, _, _, [], _, p => p
  | _, _, _, (_, _) :: _, hh, p => ⟨Nat.lt_of_lt_of_le p.1 hh, p.2⟩
theorem partsG_ok (n : Nat) : ∀ (h s : Nat), 2 ^ h ∣ s → s ≤ n → n < s + 2 ^ h → partsOk n h s (partsG n h s)
  | 0, s, _, h1, h2 => by
    show s = n
    have : 2 ^ 0 = 1 := rfl
    omega
  | h + 1, s, hd, h1, h2 => by
    have e : 2 ^ (h + 1) = 2 ^ h + 2 ^ h := by rw [Nat.pow_succ]; omega
    have hd' : 2 ^ h ∣ s := Nat.dvd_trans ⟨2, Nat.pow_succ 2 h⟩ hd
    unfold partsG
    by_cases hc : s + 2 ^ h ≤ n
    · rw [if_pos hc]
      refine ⟨Nat.lt_succ_self h, Nat.div_mul_cancel hd', ?_⟩
      exact partsG_ok n h (s + 2 ^ h) (Nat.dvd_add hd' (Nat.dvd_refl _)) hc (by omega)
    · rw [if_neg hc]
      exact partsOk_mono (Nat.le_succ h) (partsG_ok n h s hd' h1 (by omega))
theorem parts_ok (n : Nat) : partsOk n (dig n) 0 (parts n) := partsG_ok n (dig n) 0 (Nat.dvd_zero _) (Nat.zero_le _) (by have := dig_lt n; omega)
theorem partsG_len (n : Nat) : ∀ (h s : Nat), (partsG n h s).length ≤ h
  | 0, _ => Nat.le_refl 0
  | h + 1, s => by
    unfold partsG
    by_cases hc : s + 2 ^ h ≤ n
    · rw [if_pos hc]
      exact Nat.succ_le_succ (partsG_len n h _)
    · rw [if_neg hc]
      exact Nat.le_succ_of_le (partsG_len n h s)
theorem parts_len (n : Nat) : (parts n).length ≤ dig n := partsG_len n (dig n) 0
def pairD (q : Nat × Nat) : PyData := .tuple [.int (q.1 : Int), .int (q.2 : Int)]
theorem all_shaped {m : Nat} : ∀ (ds : List PyData), (∀ d ∈ ds, d.canLay0 = true ∧ d.depth ≤ m) → PyData.canLayAll0 ds = true ∧ PyData.depthAll ds ≤ m
  | [], _ => ⟨by simp [PyData.canLayAll0], by simp [PyData.depthAll]⟩
  | d :: ds, h => by
    have h1 := h d List.mem_cons_self
    have h2 := all_shaped ds fun x hx => h x (List.mem_cons_of_mem _ hx)
    refine ⟨by simp [PyData.canLayAll0, h1.1, h2.1], ?_⟩
    show max d.depth (PyData.depthAll ds) ≤ m
    omega
theorem shaped_list {ds : List PyData} (h : ∀ d ∈ ds, d.canLay0 = true ∧ d.depth ≤ 63) : SeqAt.shaped (.list ds) = true := by
  obtain ⟨h1, h2⟩ := all_shaped ds h
  unfold SeqAt.shaped
  rw [Bool.and_eq_true]
  refine ⟨by simp [PyData.canLay0, h1], decide_eq_true ?_⟩
  show PyData.depthAll ds + 1 ≤ 64
  omega
theorem shaped_tup {ds : List PyData} (h : ∀ d ∈ ds, d.canLay0 = true ∧ d.depth ≤ 63) : SeqAt.shaped (.tuple ds) = true := by
  obtain ⟨h1, h2⟩ := all_shaped ds h
  unfold SeqAt.shaped
  rw [Bool.and_eq_true]
  refine ⟨by simp [PyData.canLay0, h1], decide_eq_true ?_⟩
  show PyData.depthAll ds + 1 ≤ 64
  omega
theorem pairD_ok (q : Nat × Nat) : (pairD q).canLay0 = true ∧ (pairD q).depth ≤ 63 := ⟨by simp [pairD, PyData.canLay0, PyData.canLayAll0], by simp [pairD, PyData.depth, PyData.depthAll]⟩
theorem pairs_shaped (ps : List (Nat × Nat)) : SeqAt.shaped (.list (ps.map pairD)) = true := shaped_list fun d hd => by
  obtain ⟨q, _, rfl⟩ := List.mem_map.mp hd
  exact pairD_ok q
end My

namespace My
open PySem PySem.Spec PyProof.Rows L2
/-! ### dicts whose keys are texts and pairs of ints together -/
inductive Th where
  | row (x : Str)
  | pair (i j : Int)
deriving DecidableEq
def nk : Th → NestedKey
  | .row x => .text x
  | .pair i j => .tup [.num i, .num j]
theorem nk_beq (a b : Th) : NestedKey.beq (nk a) (nk b) = decide (a = b) := by
  cases a with
  | row x =>
    cases b with
    | row y => simp [nk, NestedKey.beq]
    | pair i j => simp [nk, NestedKey.beq]
  | pair i j =>
    cases b with
    | row y => simp [nk, NestedKey.beq]
    | pair k l => simp [nk, NestedKey.beq, NestedKey.beqAll]
theorem nk_deep (a : Th) : (nk a).depth ≤ 1 := by
  cases a <;> simp [nk, NestedKey.depth, NestedKey.depthAll]
theorem nk_inj {h : Heap} {a b : Th} {u : Value} (x : NestedIs h (nk a) u) (y : NestedIs h (nk b) u) : a = b := by
  have e := NestedIs.inj _ _ _ x y
  have e2 := nk_beq a b
  rw [e, NestedKey.beq_self] at e2
  exact of_decide_eq_true e2.symm
abbrev ME := Th × Value × Value
def ent (w : World) (x : ME) : DictEntry := ⟨(nk x.1).hash w, x.2.1, x.2.2⟩
/-- what the walk over the places with this hash keeps in mind -/
def Left (E : List ME) (k : Th) (rest : List Nat) (hit : Option Nat) : Prop :=
  rest.Nodup ∧ ((hit = none ∧ ∀ (j : Nat) (y : Value × Value), E[j]? = some (k, y) → j ∈ rest) ∨ ∃ (j : Nat) (y : Value × Value), hit = some j ∧ E[j]? = some (k, y) ∧ j ∉ rest)
theorem one_place {E : List ME} {k : Th} (hn : (E.map (·.1)).Nodup) {i j : Nat} {y z : Value × Value} (hi : E[i]? = some (k, y)) (hj : E[j]? = some (k, z)) : i = j := by
  have a : (E.map (·.1))[i]? = some k := by rw [List.getElem?_map, hi]; rfl
  have b : (E.map (·.1))[j]? = some k := by rw [List.getElem?_map, hj]; rfl
  exact (List.getElem?_inj (List.getElem?_eq_some_iff.mp a).1 hn).mp (a.trans b.symm)
section
variable {prog : Program} {w : World} {A : Around} {X : Value → Shared → Prop} {s : Shared}
theorem ask_mix {k k' : Th} {u v : Value} {Q : Bool → Shared → Prop} (hu : A.units + 8 < cLine) (hk' : NestedIs s.heap (nk k') v) (hk : NestedIs s.heap (nk k) u) (h : Q (decide (k' = k)) s) : wpAny (model prog w) A (eqBool v u) Q X s := by
  refine eqAt_key (nk k') (nk k) A s v u hk' hk ?_ prog w X Q ?_
  · have := nk_deep k
    omega
  · rw [nk_beq]
    exact h
theorem quiet_mix {k : Th} {u : Value} {st : List Value} {Q : Bool → Shared → Prop} (hk : NestedIs s.heap (nk k) u) (hs : ∀ v ∈ st, ∃ k', NestedIs s.heap (nk k') v) (h : Q false s) : wpAny (model prog w) A (tableMayTell u st) Q X s := by
  have q : ∀ (k' : Th) (v : Value) (R : Bool → Shared → Prop), NestedIs s.heap (nk k') v → R true s → wpAny (model prog w) A (eqIsQuiet 8 v) R X s := fun k' v R x y => quiet_key (nk k') v 8 s x (by have := nk_deep k'; omega) A X R y
  unfold tableMayTell
  split
  · exact wpAny_pure h
  · refine wpAny_bind (q k u _ hk ?_)
    simp only [Bool.not_true, Bool.false_eq_true, if_false]
    refine wpAny_bind (wpAny_forIn_list _ (fun l r z => z = s ∧ r = (none, ()) ∧ ∀ v ∈ l, ∃ k', NestedIs s.heap (nk k') v) _ ?_ ?_ _ _ ⟨rfl, rfl, hs⟩)
    · rintro v l r z ⟨rfl, rfl, hl⟩
      obtain ⟨k', hv⟩ := hl v List.mem_cons_self
      refine wpAny_bind (q k' v _ hv ?_)
      simp only [Bool.not_true, Bool.false_eq_true, if_false]
      exact wpAny_pure ⟨rfl, rfl, fun v' hv' => hl v' (List.mem_cons_of_mem _ hv')⟩
    · rintro r z ⟨rfl, rfl, _⟩
      exact wpAny_pure h
theorem ite_any {α : Type} {c : Prop} [Decidable c] {m n : Sem α} {M : Model} {Q : α → Shared → Prop} (h1 : c → wpAny M A m Q X s) (h2 : ¬ c → wpAny M A n Q X s) : wpAny M A (if c then m else n) Q X s := by
  by_cases h : c
  · rw [if_pos h]
    exact h1 h
  · rw [if_neg h]
    exact h2 h
theorem find_mix {d : Addr} {o : Obj} {es : Array DictEntry} {ep : Nat} {E : List ME} {k : Th} {u : Value} {Q : Option Nat → Shared → Prop} (hu : A.units + 8 < cLine) (hk : NestedIs s.heap (nk k) u) (ho : s.heap.get? d = some o) (hd : o.data = .dict es ep)
    (he : es.toList = E.map (ent w)) (his : ∀ x ∈ E, NestedIs s.heap (nk x.1) x.2.1) (hn : (E.map (·.1)).Nodup) (h0 : (∀ (j : Nat) (y : Value × Value), E[j]? ≠ some (k, y)) → Q none s) (h1 : ∀ (j : Nat) (y : Value × Value), E[j]? = some (k, y) → Q (some j) s) :
    wpAny (model prog w) A (dictFind d u ((nk k).hash w)) Q X s := by
  have hget : ∀ j : Nat, es[j]? = (E[j]?).map (ent w) := fun j => by rw [← Array.getElem?_toList, he, List.getElem?_map]
  have hsz : es.size = E.length := by rw [← Array.length_toList, he, List.length_map]
  generalize hpl : placesWithHash es.size (fun i => es[i]?.map (·.hash)) ((nk k).hash w) = pl
  have hplN : pl.Nodup := by
    rw [← hpl]
    exact List.Nodup.sublist List.filter_sublist List.nodup_range
  have hplI : ∀ (j : Nat) (y : Value × Value), E[j]? = some (k, y) → j ∈ pl := fun j y hj => by
    rw [← hpl]
    refine List.mem_filter.mpr ⟨List.mem_range.mpr ?_, ?_⟩
    · rw [hsz]
      exact (List.getElem?_eq_some_iff.mp hj).1
    · show (es[j]?.map (·.hash) == some ((nk k).hash w)) = true
      rw [hget j, hj]
      simp [ent]
  have hst : ∀ v ∈ pl.filterMap (fun i => es[i]?.map (·.key)), ∃ k', NestedIs s.heap (nk k') v := fun v hv => by
    obtain ⟨i, _, hi⟩ := List.mem_filterMap.mp hv
    rw [hget i] at hi
    cases hx : E[i]? with
    | none => rw [hx] at hi; cases hi
    | some x =>
      rw [hx] at hi
      have e : x.2.1 = v := Option.some.inj hi
      exact ⟨x.1, e ▸ his x (List.mem_of_getElem? hx)⟩
  -- one place is looked at
  have next : ∀ {i : Nat} {rest : List Nat} {x : ME}, E[i]? = some x → x.1 ≠ k → (∀ (j : Nat) (y : Value × Value), E[j]? = some (k, y) → j ∈ i :: rest) → ∀ (j : Nat) (y : Value × Value), E[j]? = some (k, y) → j ∈ rest := fun {i rest x} hx ne hl j y hj => by
    rcases List.mem_cons.mp (hl j y hj) with e | e
    · subst e
      rw [hx] at hj
      exact absurd (congrArg (·.1) (Option.some.inj hj)) ne
    · exact e
  have ku : (∃ x t, k = .row x ∧ u = .str x t) ∨ ∃ i j a, k = .pair i j ∧ u = .ref a := by
    cases k with
    | row x => dsimp only [nk] at hk; cases hk with | text _ t => exact .inl ⟨x, t, rfl, rfl⟩
    | pair i j => dsimp only [nk] at hk; cases hk with | @tup a _ _ _ _ _ _ _ _ => exact .inr ⟨i, j, a, rfl, rfl⟩
  have hwalk : ∀ (i : Nat), i ∈ pl → ∃ x, E[i]? = some x ∧ (nk x.1).hash w = (nk k).hash w := fun i hi => by
    rw [← hpl] at hi
    have h2 : (es[i]?.map (·.hash) == some ((nk k).hash w)) = true := (List.mem_filter.mp hi).2
    rw [hget i] at h2
    cases hx : E[i]? with
    | none => rw [hx] at h2; simp at h2
    | some x =>
      rw [hx] at h2
      exact ⟨x, rfl, by simpa [ent] using h2⟩
  unfold dictFind
  try with_reducible refine wpAny_holding ?_
  refine wpAny_bind (wpAny_dictEntries ho hd ?_)
  dsimp only
  rw [hpl]
  rcases ku with ⟨x, t, ek, rfl⟩ | ⟨i, j, a, ek, rfl⟩
  all_goals dsimp only
  refine ite_any (fun hall => ?_) (fun _ => ?_)
  · subst ek
    unfold foundByValue
    cases hf : es.findIdx? (fun e => e.key.isStr x) with
    | none =>
      refine wpAny_pure (h0 fun j y hj => ?_)
      have h2 := his _ (List.mem_of_getElem? hj)
      have e1 : es[j]? = some (ent w (.row x, y)) := by rw [hget j, hj]; rfl
      have h3 := Array.findIdx?_eq_none_iff.mp hf _ (Array.mem_of_getElem? e1)
      obtain ⟨u', v'⟩ := y
      dsimp only [nk] at h2
      cases h2
      simp [ent, Value.isStr] at h3
    | some i =>
      obtain ⟨hlt, hi, _⟩ := Array.findIdx?_eq_some_iff_getElem.mp hf
      have e1 : es[i]? = some es[i] := Array.getElem?_eq_getElem hlt
      have e2 := hget i
      rw [e1] at e2
      cases hx : E[i]? with
      | none => rw [hx] at e2; cases e2
      | some y =>
        rw [hx] at e2
        have e3 : es[i] = ent w y := Option.some.inj e2
        have hy := his y (List.mem_of_getElem? hx)
        have ey : y.1 = .row x := by
          rw [e3] at hi
          obtain ⟨k', u', v'⟩ := y
          cases u' <;> simp [ent, Value.isStr] at hi
          subst hi
          exact nk_inj hy (.text _ _)
        have hx' : E[i]? = some (.row x, y.2) := by rw [hx, ← ey]
        simp only [e1]
        refine wpAny_bind (wpAny_dictEpoch ho hd (wpAny_bind (ask_mix (k' := y.1) (k := .row x) hu (by rw [e3]; exact hy) hk (wpAny_bind (wpAny_dictEpoch ho hd ?_)))))
        rw [decide_eq_true ey, if_neg (by simp), if_pos rfl]
        exact wpAny_bind (wpAny_rule (wpAny_pure (h1 _ _ hx')))
  refine ite_any (fun hcv => ?_) (fun _ => ?_)
  · unfold dictWalkPlain
    refine wpAny_bind (wpAny_forIn_list _ (fun rest b z => z = s ∧ b = (none, ()) ∧ (∀ i ∈ rest, i ∈ pl) ∧ ∀ (j : Nat) (y : Value × Value), E[j]? = some (k, y) → j ∈ rest) _ ?_ ?_ _ _ ⟨rfl, rfl, fun _ h => h, hplI⟩)
    · rintro i rest b z ⟨rfl, rfl, hsub, hl⟩
      obtain ⟨y, hy, hh⟩ := hwalk i (hsub i List.mem_cons_self)
      have e1 : es[i]? = some (ent w y) := by rw [hget i, hy]; rfl
      rw [e1]
      dsimp only
      rw [if_pos (show ((ent w y).hash == (nk k).hash w) = true from beq_iff_eq.mpr hh)]
      refine wpAny_bind (wpAny_dictEpoch ho hd (wpAny_bind (ask_mix (k' := y.1) hu (his y (List.mem_of_getElem? hy)) hk (wpAny_bind (wpAny_dictEpoch ho hd ?_)))))
      rw [if_neg (by simp)]
      by_cases hyk : y.1 = k
      · rw [decide_eq_true hyk, if_pos rfl]
        exact wpAny_bind (wpAny_rule (wpAny_pure (wpAny_pure (h1 i y.2 (by rw [hy, ← hyk])))))
      · rw [decide_eq_false hyk, if_neg Bool.false_ne_true]
        exact wpAny_bind (wpAny_rule (wpAny_pure ⟨rfl, rfl, fun j hj => hsub j (List.mem_cons_of_mem _ hj), next hy hyk hl⟩))
    · rintro b z ⟨rfl, rfl, _, hl⟩
      exact wpAny_pure (h0 fun j y hj => absurd (hl j y hj) (by simp))
  rotate_left
  rw [if_neg (show ¬ ((Value.ref a :: pl.filterMap (fun i => es[i]?.map (·.key))).all carriedByValue) = true by simp [carriedByValue])]
  rw [if_neg (show ¬ (es.any fun e => e.key == Value.ref a && e.hash != (nk k).hash w) = true from fun z => by
    rw [← Array.any_toList, he] at z
    obtain ⟨e, hin, hc⟩ := List.any_eq_true.mp z
    obtain ⟨y, hy, rfl⟩ := List.mem_map.mp hin
    simp only [ent, Bool.and_eq_true, beq_iff_eq, bne_iff_ne, ne_eq] at hc
    have h2 := his y hy
    rw [hc.1] at h2
    exact hc.2 (by rw [nk_inj h2 hk]))]
  all_goals
    refine ite_any (fun _ => ?_) (fun _ => ?_)
    all_goals
      first
      | refine wpAny_bind (wpAny_pure ?_)
      | refine wpAny_bind (quiet_mix hk hst ?_)
      rw [if_neg (by simp)]
      refine wpAny_bind (wpAny_forIn_list _ (fun rest b z => z = s ∧ ∃ hit, b = (none, hit) ∧ (∀ i ∈ rest, i ∈ pl) ∧ Left E k rest hit) _ ?_ ?_ _ _ ⟨rfl, none, rfl, fun _ h => h, hplN, .inl ⟨rfl, hplI⟩⟩)
      · rintro i rest b z ⟨rfl, hit, rfl, hsub, hnd, hl⟩
        obtain ⟨y, hy, hh⟩ := hwalk i (hsub i List.mem_cons_self)
        have e1 : es[i]? = some (ent w y) := by rw [hget i, hy]; rfl
        have hsub' : ∀ j ∈ rest, j ∈ pl := fun j hj => hsub j (List.mem_cons_of_mem _ hj)
        rw [e1]
        dsimp only
        rw [if_pos (show ((ent w y).hash == (nk k).hash w) = true from beq_iff_eq.mpr hh)]
        refine wpAny_bind (wpAny_dictEpoch ho hd (wpAny_bind (ask_mix (k' := y.1) hu (his y (List.mem_of_getElem? hy)) hk (wpAny_bind (wpAny_dictEpoch ho hd ?_)))))
        rw [if_neg (by simp)]
        by_cases hyk : y.1 = k
        · rw [decide_eq_true hyk, if_pos rfl]
          have hx : E[i]? = some (k, y.2) := by rw [hy, ← hyk]
          have hni : i ∉ rest := (List.nodup_cons.mp hnd).1
          rcases hl with ⟨rfl, _⟩ | ⟨j, z2, rfl, hj, hnj⟩
          · rw [if_neg (by simp)]
            refine wpAny_bind (wpAny_rule ?_)
            refine ite_any (fun _ => ?_) (fun _ => ?_)
            · exact wpAny_pure (wpAny_pure (h1 _ _ hx))
            · exact wpAny_pure ⟨rfl, some i, rfl, hsub', (List.nodup_cons.mp hnd).2, .inr ⟨i, y.2, rfl, hx, hni⟩⟩
          · exact absurd (one_place hn hj hx ▸ List.mem_cons_self) hnj
        · rw [decide_eq_false hyk, if_neg Bool.false_ne_true]
          refine wpAny_bind (wpAny_rule ?_)
          rw [if_neg (by simp)]
          refine wpAny_pure ⟨rfl, hit, rfl, hsub', (List.nodup_cons.mp hnd).2, ?_⟩
          rcases hl with ⟨h2, hl⟩ | ⟨j, z2, h2, hj, hnj⟩
          · exact .inl ⟨h2, next hy hyk hl⟩
          · exact .inr ⟨j, z2, h2, hj, fun z => hnj (List.mem_cons_of_mem _ z)⟩
      · rintro b z ⟨rfl, hit, rfl, _, _, hl⟩
        rcases hl with ⟨rfl, hl⟩ | ⟨j, z2, rfl, hj, _⟩
        · exact wpAny_pure (h0 fun j y hj => absurd (hl j y hj) (by simp))
        · exact wpAny_pure (h1 _ _ hj)
end
end My

namespace My
open PySem PySem.Spec PyProof.Rows L2
def at? (E : List ME) (k : Th) : Option Value := (E.find? fun x => decide (x.1 = k)).map (·.2.2)
theorem at_none {E : List ME} {k : Th} (h : ∀ (j : Nat) (y : Value × Value), E[j]? ≠ some (k, y)) : at? E k = none := by
  unfold at?
  rw [List.find?_eq_none.mpr, Option.map_none]
  intro x hx hk
  obtain ⟨j, hj⟩ := List.mem_iff_getElem?.mp hx
  exact h j x.2 (by rw [hj, ← of_decide_eq_true hk])
theorem at_some {E : List ME} {k : Th} (hn : (E.map (·.1)).Nodup) {j : Nat} {y : Value × Value} (h : E[j]? = some (k, y)) : at? E k = some y.2 := by
  unfold at?
  cases hf : E.find? (fun x => decide (x.1 = k)) with
  | none =>
    have := List.find?_eq_none.mp hf _ (List.mem_of_getElem? h)
    simp at this
  | some x =>
    have h1 : x.1 = k := by simpa using List.find?_some hf
    obtain ⟨i, hi⟩ := List.mem_iff_getElem?.mp (List.mem_of_find?_eq_some hf)
    have hi' : E[i]? = some (k, x.2) := by rw [hi, ← h1]
    have e := one_place hn hi' h
    subst e
    rw [hi'] at h
    cases h
    rfl
/-- the object at d alone: a dict with these entries -/
def Raw (w : World) (d : Addr) (E : List ME) (h : Heap) : Prop := ∃ o es ep, h.get? d = some o ∧ o.ExactDict ∧ o.data = .dict es ep ∧ es.toList = E.map (ent w)
theorem Raw.type {w : World} {d : Addr} {E : List ME} {s : Shared} (r : Raw w d E s.heap) : s.TypeIs (.ref d) "dict" := let ⟨o, _, _, ho, hc, _⟩ := r; ⟨o, ho, hc.1⟩
section
variable {prog : Program} {w : World} {A : Around} {X : Value → Shared → Prop} {s : Shared} {d : Addr} {E : List ME} {k : Th} {u : Value}
theorem hash_mix {Q : Int → Shared → Prop} (hu : A.units + 8 < cLine) (hk : NestedIs s.heap (nk k) u) (q : Q ((nk k).hash w) { s with toks := s.toks + (nk k).draws }) : wpAny (model prog w) A (pyHash u) Q X s :=
  pyHash_key (nk k) u A s Q hk (by have := nk_deep k; omega) q
theorem get_mix {Q : Option Value → Shared → Prop} (hu : A.units + 8 < cLine) (hk : NestedIs s.heap (nk k) u) (r : Raw w d E s.heap) (his : ∀ x ∈ E, NestedIs s.heap (nk x.1) x.2.1) (hn : (E.map (·.1)).Nodup)
    (q : Q (at? E k) { s with toks := s.toks + (nk k).draws }) : wpAny (model prog w) A (dictGet d u) Q X s := by
  obtain ⟨o, es, ep, ho, _, hd, he⟩ := r
  unfold dictGet
  try with_reducible refine wpAny_holding ?_
  refine wpAny_bind (hash_mix hu hk (wpAny_bind (find_mix (s := { s with toks := s.toks + (nk k).draws }) hu hk ho hd he his hn (fun h0 => ?_) fun j y hj => ?_)))
  · rw [at_none h0] at q
    exact wpAny_pure q
  · rw [at_some hn hj] at q
    refine wpAny_bind (wpAny_dictEntries (s := { s with toks := s.toks + (nk k).draws }) ho hd ?_)
    have e1 : es[j]? = some (ent w (k, y)) := by
      rw [← Array.getElem?_toList, he, List.getElem?_map, hj]
      rfl
    rw [e1]
    exact wpAny_pure q
theorem has_mix {Q : Bool → Shared → Prop} (hu : A.units + 9 < cLine) (hk : NestedIs s.heap (nk k) u) (hs : (d == sysModules) = false) (r : Raw w d E s.heap) (his : ∀ x ∈ E, NestedIs s.heap (nk x.1) x.2.1) (hn : (E.map (·.1)).Nodup)
    (q : Q (at? E k).isSome { s with toks := s.toks + (nk k).draws }) : wpAny (model prog w) A (contains (.ref d) u) Q X s := by
  refine wpAny_contains_slot r.type PySem.F.slot_dict_contains ?_
  refine wpAny_call_entry PySem.F.slot_dict_contains r.type PySem.F.entry_dict_contains ?_ (PySem.F.args_dict_contains_2 _ _)
  show wpAny _ _ (dictGet d u >>= _) _ _ s
  refine wpAny_bind (get_mix (by show A.units + 1 + 8 < cLine; omega) hk r his hn ?_)
  cases hf : at? E k with
  | some v =>
    rw [hf] at q
    exact wpAny_pure ⟨_, rfl, wpAny_truthy_bool q⟩
  | none =>
    rw [hf] at q
    show wpAny _ _ (Builtin.Dict.pendingKey? d u >>= _) _ _ _
    exact wpAny_bind (wpAny_pendingKey_other hs (wpAny_pure ⟨_, rfl, wpAny_truthy_bool q⟩))
theorem item_mix {v : Value} {Q : Value → Shared → Prop} (hu : A.units + 9 < cLine) (hk : NestedIs s.heap (nk k) u) (r : Raw w d E s.heap) (his : ∀ x ∈ E, NestedIs s.heap (nk x.1) x.2.1) (hn : (E.map (·.1)).Nodup) (hv : at? E k = some v)
    (q : Q v { s with toks := s.toks + (nk k).draws }) : wpAny (model prog w) A (getItem (.ref d) u) Q X s := by
  unfold getItem
  try with_reducible refine wpAny_holding ?_
  refine wpAny_bind (wpAny_sequenceKey r.type (by decide) ?_)
  refine wpAny_bind (wpAny_callSpecial?_slot (name := Str.ofString "__getitem__") r.type PySem.F.slot_dict_getitem (wpAny_call_entry PySem.F.slot_dict_getitem r.type entry_dict_getitem ?_ (args_dict_getitem _ _)))
  show wpAny _ _ (dictGet d u >>= _) _ _ s
  refine wpAny_bind (get_mix (by show A.units + 1 + 8 < cLine; omega) hk r his hn ?_)
  rw [hv]
  exact wpAny_pure ⟨v, rfl, wpAny_pure q⟩
theorem put_mix {v : Value} {Q : Unit → Shared → Prop} (hu : A.units + 9 < cLine) (hk : NestedIs s.heap (nk k) u) (r : Raw w d E s.heap) (his : ∀ x ∈ E, NestedIs s.heap (nk x.1) x.2.1) (hn : (E.map (·.1)).Nodup) (hv : k ∉ E.map (·.1)) (hz : E.length ≤ sizeLine)
    (q : ∀ h', Raw w d (E ++ [(k, u, v)]) h' → Heap.SameBut d s.heap h' → Q () { s with heap := h', toks := s.toks + (nk k).draws }) : wpAny (model prog w) A (setItem (.ref d) u v) Q X s := by
  have ty := r.type
  obtain ⟨o, es, ep, ho, hc, hd, he⟩ := r
  unfold setItem
  try with_reducible refine wpAny_holding ?_
  refine wpAny_bind (wpAny_sequenceKey ty (by decide) ?_)
  refine wpAny_bind (wpAny_callSpecial?_slot (name := Str.ofString "__setitem__") ty slot_dict_setitem (wpAny_call_entry slot_dict_setitem ty entry_dict_setitem ?_ (args_dict_setitem _ _ _)))
  show wpAny _ _ (Builtin.Dict.notOrdered "__setitem__" ⟨[.ref d, u, v], []⟩ >>= _) _ _ s
  refine wpAny_bind (wpAny_notOrdered_dict ty ?_)
  show wpAny _ _ (dictSet d u v >>= _) _ _ s
  refine wpAny_bind ?_
  unfold dictSet
  try with_reducible refine wpAny_holding ?_
  refine wpAny_bind (hash_mix (by show A.units + 1 + 8 < cLine; omega) hk ?_)
  unfold dictSetHashed
  try with_reducible refine wpAny_holding ?_
  refine wpAny_bind (find_mix (s := { s with toks := s.toks + (nk k).draws }) (by show A.units + 1 + 8 < cLine; omega) hk ho hd he his hn (fun h0 => ?_) fun j y hj => ?_)
  · have ez : es.size = E.length := by rw [← Array.length_toList, he, List.length_map]
    refine wpAny_bind (wpAny_rule (wpAny_updateDictKeys (hz := by omega) (s := { s with toks := s.toks + (nk k).draws }) ho hd ?_))
    refine wpAny_pure ⟨.none, rfl, wpAny_pure (q _ ⟨_, _, ep + 1, Heap.get?_update_self _ ho (Obj.isFreed_of_dict (Obj.data_mapDictKeys hd _)), hc.mapDictKeys _, Obj.data_mapDictKeys hd _, ?_⟩ (Heap.SameBut.update ..))⟩
    rw [Array.toList_push, he, List.map_append]
    rfl
  · exact absurd (List.mem_map.mpr ⟨_, List.mem_of_getElem? hj, rfl⟩) hv
end
/-! ### the same over the abstract heap -/
def KeyV (H : Hp) : Th → Value → Prop
  | .row x, u => ∃ t, u = .str x t
  | .pair i j, u => ∃ b, u = .ref b ∧ H b = some (.tup [.int i, .int j])
/-- the value y is the key k -/
def IsTh (H : Hp) : Th → V → Prop
  | .row x, y => y = .str x
  | .pair i j, y => ∃ b, y = .ref b ∧ H b = some (.tup [.int i, .int j])
/-- at d stands a dict with these keys and values -/
def DM (w : World) (H : Hp) (d : Addr) (L : List (Th × V)) : Prop :=
  (d == sysModules) = false ∧ L.length ≤ sizeLine ∧ (L.map (·.1)).Nodup ∧ ∃ E : List ME, H d = some (.ext (Raw w d E)) ∧ Paired (fun (x : Th × V) (e : ME) => e.1 = x.1 ∧ KeyV H x.1 e.2.1 ∧ RelV x.2 e.2.2) L E
theorem KeyV.keep {H H' : Hp} (t : ∀ b xs, H b = some (.tup xs) → H' b = some (.tup xs)) : ∀ {k : Th} {u : Value}, KeyV H k u → KeyV H' k u
  | .row _, _, h => h
  | .pair _ _, _, h => let ⟨b, e, z⟩ := h; ⟨b, e, t _ _ z⟩
theorem IsTh.keep {H H' : Hp} (t : ∀ b xs, H b = some (.tup xs) → H' b = some (.tup xs)) : ∀ {k : Th} {u : V}, IsTh H k u → IsTh H' k u
  | .row _, _, h => h
  | .pair _ _, _, h => let ⟨b, e, z⟩ := h; ⟨b, e, t _ _ z⟩
theorem DM.keep {w : World} {H H' : Hp} {d : Addr} {L : List (Th × V)} (h : DM w H d L) (hd : H' d = H d) (t : ∀ b xs, H b = some (.tup xs) → H' b = some (.tup xs)) : DM w H' d L := by
  obtain ⟨a, b, c, E, e, p⟩ := h
  exact ⟨a, b, c, E, hd.trans e, Paired.mapP p fun x y z => ⟨z.1, z.2.1.keep t, z.2.2⟩⟩
def look (L : List (Th × V)) (k : Th) : Option V := (L.find? fun x => decide (x.1 = k)).map (·.2)
theorem keys_eq {H : Hp} {L : List (Th × V)} {E : List ME} (p : Paired (fun (x : Th × V) (e : ME) => e.1 = x.1 ∧ KeyV H x.1 e.2.1 ∧ RelV x.2 e.2.2) L E) : E.map (·.1) = L.map (·.1) := by
  induction p with
  | nil => rfl
  | cons h _ ih => rw [List.map_cons, List.map_cons, ih, h.1]
theorem look_at {H : Hp} {L : List (Th × V)} {E : List ME} (k : Th) (p : Paired (fun (x : Th × V) (e : ME) => e.1 = x.1 ∧ KeyV H x.1 e.2.1 ∧ RelV x.2 e.2.2) L E) : RelO (look L k) (at? E k) := by
  unfold look at?
  induction p with
  | nil => exact True.intro
  | @cons x e l m h _ ih =>
    rw [List.find?_cons, List.find?_cons, h.1]
    by_cases hx : x.1 = k
    · rw [decide_eq_true hx]
      exact h.2.2
    · rw [decide_eq_false hx]
      exact ih
theorem relO_some {a : Option V} {b : Option Value} (h : RelO a b) : a.isSome = b.isSome := by
  cases a <;> cases b <;> first | rfl | exact absurd h id
section
variable {X : Cx} {pins : List (Addr × Obj)} {σ : L2.St} {H : Hp} {s : Shared} {d : Addr} {L : List (Th × V)} {k : Th} {y v : V} {u r : Value}
theorem keyV_is (I : Inv X pins σ H s) : ∀ {k : Th} {u : Value}, KeyV H k u → NestedIs s.heap (nk k) u
  | .row x, _, ⟨t, e⟩ => e ▸ .text x t
  | .pair i j, _, ⟨b, e, z⟩ => by
    obtain ⟨_, its, rv, o, h1, h2, n, h3⟩ := (show ObjOk X.prog X.w H s.heap b (.tup [.int i, .int j]) from I.hok b _ z)
    rw [e]
    refine .tup h1 h2 h3 ?_
    cases rv with
    | cons r1 rv =>
      cases rv with
      | cons r2 rv =>
        cases rv
        obtain ⟨t1, rfl⟩ := r1
        obtain ⟨t2, rfl⟩ := r2
        exact .cons (.int i t1) (.cons (.int j t2) .nil)
theorem isTh_key (h : IsTh H k y) (ry : RelV y u) : KeyV H k u := by
  cases k with
  | row x =>
    have e : y = .str x := h
    subst e
    exact ry
  | pair i j =>
    obtain ⟨b, rfl, z⟩ := h
    exact ⟨b, ry, z⟩
theorem dm_of (I : Inv X pins σ H s) (h : DM X.w H d L) : ∃ E : List ME, Raw X.w d E s.heap ∧ (∀ x ∈ E, NestedIs s.heap (nk x.1) x.2.1) ∧ (E.map (·.1)).Nodup ∧ E.length = L.length ∧ E.map (·.1) = L.map (·.1) ∧ (∀ k, RelO (look L k) (at? E k)) ∧
    Paired (fun (x : Th × V) (e : ME) => e.1 = x.1 ∧ KeyV H x.1 e.2.1 ∧ RelV x.2 e.2.2) L E := by
  obtain ⟨_, _, c, E, e, p⟩ := h
  have ek := keys_eq p
  refine ⟨E, (show Raw X.w d E s.heap from (I.hok d _ e).1), fun x hx => ?_, by rw [ek]; exact c, (Paired.length p).symm, ek, fun k => look_at k p, p⟩
  have all : ∀ {l : List (Th × V)} {m : List ME}, Paired (fun (x : Th × V) (e : ME) => e.1 = x.1 ∧ KeyV H x.1 e.2.1 ∧ RelV x.2 e.2.2) l m → ∀ x ∈ m, NestedIs s.heap (nk x.1) x.2.1 := by
    intro l m q
    induction q with
    | nil => exact fun x hx => nomatch hx
    | cons hq _ ih =>
      intro x hx
      rcases List.mem_cons.mp hx with e | hx
      · rw [e, hq.1]
        exact keyV_is I hq.2.1
      · exact ih x hx
  exact all p x hx
theorem raw_ok {P : Program} {w : World} {H : Hp} {h : Heap} {E : List ME} (r : Raw w d E h) : ObjOk P w H h d (.ext (Raw w d E)) := by
  have ⟨o, _, _, ho, _⟩ := r
  exact ⟨r, ⟨o, ho⟩, fun h1 h2 ⟨o', es, ep, ho', q⟩ kp => ⟨o', es, ep, kp _ ho', q⟩⟩
end
/-! ### rules -/
section
variable {X : Cx} {o i e value : Expr} {pos pos' : Pos} {td ty tv : TE}
/-- {} that will hold such keys -/
def tNewM (w : World) : TE := fun _ H Q => ∀ p, H p = none → DM w (upd H p (.ext (Raw w p []))) p [] → Q (.ref p) (upd H p (.ext (Raw w p [])))
theorem pe_newM : PE X (.Dict [] [] pos) (tNewM X.w) := ⟨fun pins s σ H Q I h => by
  have hn : H s.heap.objs.size = none := I.hok.fresh (Nat.le_refl _)
  have hb := I.big
  refine wpAny_Dict_empty ⟨.ref s.heap.objs.size, upd H s.heap.objs.size (.ext (Raw X.w s.heap.objs.size [])), I.laid (t' := s.toks) (fun _ _ q => Heap.get?_push_of_some _ q) (Nat.le_refl _) (raw_ok ?_), rfl, h _ hn ?_⟩
  · exact ⟨_, #[], 0, Heap.get?_push_size _ rfl, ⟨rfl, rfl, rfl⟩, rfl, rfl⟩
  · refine ⟨?_, Nat.zero_le _, List.nodup_nil, [], upd_same, .nil⟩
    exact beq_eq_false_iff_ne.mpr fun z => by rw [z] at hb; exact absurd hb (Nat.lt_irrefl _)⟩
/-- k not in d -/
def tNotInM (w : World) (ty td : TE) : TE := fun σ H Q => ty σ H fun y H1 => td σ H1 fun x H2 => ∃ a L k, x = .ref a ∧ DM w H2 a L ∧ IsTh H2 k y ∧ Q (.bl (!(look L k).isSome)) H2
theorem pc_notInM (hu : X.A.units + 9 < cLine) (hi : PE X i ty) (ho : PE X o td) : PC X .NotIn i o (tNotInM X.w ty td) := by
  refine ⟨fun pins s σ H Q I h => ?_⟩
  refine thn (hi.run pins s σ H _ I h) fun iv s1 ⟨y, H1, I1, ry, q1⟩ => thn (ho.run pins s1 σ H1 _ I1 q1) fun u s2 ⟨x, H2, I2, rx, a, L, k, ex, hd, hk, q2⟩ => ?_
  subst ex
  obtain rfl : u = Value.ref a := rx
  obtain ⟨E, r, his, hn, _, _, hl, _⟩ := dm_of I2 hd
  show wpAny _ _ (do return Value.bool (!(← contains (.ref a) iv))) _ _ s2
  refine wpAny_bind (has_mix hu (keyV_is I2 (isTh_key hk ry)) hd.1 r his hn (wpAny_pure ?_))
  rw [← relO_some (hl k)]
  exact ⟨.bl (!(look L k).isSome), H2, I2.tok _, rfl, q2⟩
/-- d[k], there -/
def tGetM (w : World) (td ty : TE) : TE := fun σ H Q => td σ H fun x H1 => ty σ H1 fun y H2 => ∃ a L k v, x = .ref a ∧ DM w H2 a L ∧ IsTh H2 k y ∧ look L k = some v ∧ Q v H2
theorem pe_getM (hu : X.A.units + 9 < cLine) (ho : PE X o td) (hi : PE X i ty) (hs : NoSl i) : PE X (.Subscript o i pos) (tGetM X.w td ty) := by
  refine ⟨fun pins s σ H Q I h => ?_⟩
  refine subD_of PySem.F.slot_dict_getitem.lookup hs (thn (ho.run pins s σ H _ I h) fun u s1 ⟨x, H1, I1, rx, q1⟩ => thn (hi.run pins s1 σ H1 _ I1 q1) fun iv s2 ⟨y, H2, I2, ry, a, L, k, v, ex, hd, hk, hv, q2⟩ => ?_)
  subst ex
  obtain rfl : u = Value.ref a := rx
  obtain ⟨E, r, his, hn, _, _, hl, _⟩ := dm_of I2 hd
  have z := hl k
  rw [hv] at z
  cases hw : at? E k with
  | none => rw [hw] at z; exact absurd z id
  | some w' =>
    rw [hw] at z
    exact ⟨r.type, item_mix hu (keyV_is I2 (isTh_key hk ry)) r his hn hw ⟨v, H2, I2.tok _, z, q2⟩⟩
/-- d[k] = v, k not there yet -/
def tPutM (w : World) (td ty tv : TE) : TS := fun D σ H => tv σ H fun v H1 => td σ H1 fun x H2 => ty σ H2 fun y H3 => ∃ a L k, x = .ref a ∧ DM w H3 a L ∧ IsTh H3 k y ∧ look L k = none ∧ L.length < sizeLine ∧
  ∀ H4, (∃ E, H4 = upd H3 a (.ext (Raw w a E))) → DM w H4 a (L ++ [(k, v)]) → D.nx σ H4
theorem ps_putM (hu : X.A.units + 9 < cLine) (ho : PE X o td) (hi : PE X i ty) (hv : PE X value tv) (hs : swapsWith value (some (.Subscript o i pos')) pos.line X.env = pure false) : PS X (.Assign [.Subscript o i pos'] value pos) (tPutM X.w td ty tv) := by
  refine ⟨fun pins s σ H D I h => ?_⟩
  refine wpAny_Assign_Subscript (thn (hv.run pins s σ H _ I h) fun rv s1 ⟨v, H1, I1, rvv, q1⟩ => thn (ho.run pins s1 σ H1 _ I1 q1) fun u s2 ⟨x, H2, I2, rx, q2⟩ => thn (hi.run pins s2 σ H2 _ I2 q2) fun iv s3 ⟨y, H3, I3, ry, a, L, k, ex, hd, hk, hno, hz, q3⟩ => ?_) hs
  subst ex
  obtain rfl : u = Value.ref a := rx
  obtain ⟨E, r, his, hn, hlen, hkeys, hl, p⟩ := dm_of I3 hd
  obtain ⟨d1, d2, d3, E0, d4, d5⟩ := hd
  have hkv := isTh_key hk ry
  have hnk : k ∉ L.map (·.1) := fun z => by
    obtain ⟨x, hx, ek⟩ := List.mem_map.mp z
    unfold look at hno
    have := List.find?_eq_none.mp (Option.map_eq_none_iff.mp hno) x hx
    simp [ek] at this
  refine put_mix hu (keyV_is I3 hkv) r his hn (by rw [hkeys]; exact hnk) (by omega) fun h' r' sb => ?_
  have he : ∃ q, h'.get? a = some q := let ⟨o', _, _, ho', _⟩ := r'; ⟨o', ho'⟩
  have tk : ∀ b xs, H3 b = some (.tup xs) → (upd H3 a (.ext (Raw X.w a (E ++ [(k, iv, rv)])))) b = some (.tup xs) := fun b xs z => by
    rw [upd_ne (ne_of z d4 (fun z => nomatch z))]
    exact z
  refine ⟨σ, upd H3 a (.ext (Raw X.w a (E ++ [(k, iv, rv)]))), d_write I3 (by rw [d4]; exact True.intro) sb he (raw_ok r'), q3 _ ⟨_, rfl⟩ ⟨d1, ?_, ?_, _, upd_same, ?_⟩⟩
  · rw [List.length_append]
    exact hz
  · rw [List.map_append, List.nodup_append]
    refine ⟨d3, by simp, fun a ha b hb => ?_⟩
    simp only [List.map_cons, List.map_nil, List.mem_singleton] at hb
    subst hb
    exact fun z => hnk (z ▸ ha)
  · exact Paired.snoc (Paired.mapP p fun x e z => ⟨z.1, z.2.1.keep tk, z.2.2⟩) ⟨rfl, hkv.keep tk, rvv⟩
end
end My

namespace My
open PySem PySem.Spec PyProof.Rows L2
/-! ### a def as it stands, and as it may be called -/
def Dfn (K : PySem.W.Frag) (mg : Str → Option Value) (x : Str) (st : Stmt) (ps : List Str) : Prop :=
  ∃ (f : Addr) (fd : FuncData), Fun K x x st f fd ∧ mg x = some (.ref f) ∧ Binds K fd ps []
structure COk (P : Program) (w : World) (K : PySem.W.Frag) (mg : Str → Option Value) (base : Heap) (CX : CXT) (x : Str) (k : Nat) (ps : List Str) (sp : Sp) : Prop where
  ex : ∃ (f : Addr) (fd : FuncData), FnOk P w K mg base CX k f fd ps sp ∧ mg x = some (.ref f) ∧ PySem.W.keepIn K (.ref f) = true ∧ Binds K fd ps []
section
variable {P : Program} {w : World} {K : PySem.W.Frag} {mg : Str → Option Value} {base : Heap}
theorem c_mk {x : Str} {st : Stmt} {N ps : List Str} {k : Nat} {sp : Sp} (D : Dfn K mg x st ps) (S : FnScope N ps (defScope st)) (len : ∀ vs H Q E, sp vs H Q E → vs.length = ps.length)
    (hbody : ∀ (f : Addr) (cdv : Value) (A : Around) (outer : List Env) (s : Shared) (H : Hp) (vs : List V) (Q : VK) (E : XK), Room k (A.deeper (envOfC x (defScope st) s.heap.objs.size f cdv)) → sp vs H Q E →
      ∃ t, PSs (cxOf CX0 P w K mg base N x (defScope st) f cdv A outer s H E).nox (defBody st) t ∧ t { nx := fun _ H' => Q .non H', rt := Q } (start N vs) H) : COk P w K mg base CX0 x (k + 1) ps sp := by
  obtain ⟨f, fd, F, m, b⟩ := D
  exact ⟨f, fd, F.ok S len fun cdv A outer s H vs Q E hr h => hbody f cdv A outer s H vs Q E hr h, m, F.kp, b⟩
theorem COk.imp {x : Str} {ps : List Str} {k : Nat} {sp sp' : Sp} (C : COk P w K mg base CX0 x k ps sp) (h : ∀ vs H Q E, sp' vs H Q E → sp vs H Q E) : COk P w K mg base CX0 x k ps sp' := by
  obtain ⟨f, fd, F, m, kp, b⟩ := C.ex
  exact ⟨f, fd, F.imp h, m, kp, b⟩
theorem COk.mono {x : Str} {ps : List Str} {j k : Nat} {sp : Sp} (C : COk P w K mg base CX0 x j ps sp) (h : j ≤ k) : COk P w K mg base CX0 x k ps sp := by
  obtain ⟨f, fd, F, m, kp, b⟩ := C.ex
  exact ⟨f, fd, F.mono h, m, kp, b⟩
end
section
variable {X : Cx}
theorem pe_c {x : Str} {k k' : Nat} {ps : List Str} {sp : Sp} {p pos : Pos} {e : Expr} {es : List Expr} {t : TA} (C : COk X.prog X.w X.K X.mg X.base CX0 x k ps sp) (hr : Room k' X.A) (hg : Gl X x) (ha : PA X (e :: es) t) (hk : k ≤ k' := by first | decide | omega)
    (hdb : (x == ("__debug__" : Str)) = false := by decide) (he : starEach (e :: es) X.env = (false, eval e X.env) :: starEach es X.env := by rfl) (hpl : (backTo pos (starEach es X.env)).any (·.1) = false := by rfl) :
    PE X (.Call (.Name x p) (e :: es) [] pos) (tCall sp [] E0 t) := by
  obtain ⟨f, fd, F, m, kp, b⟩ := C.ex
  exact pe_call F (hr.mono hk) hg m kp b .nil pass0 ha hdb he hpl
theorem pe_c0 {x : Str} {k k' : Nat} {ps : List Str} {sp : Sp} {p pos : Pos} (C : COk X.prog X.w X.K X.mg X.base CX0 x k ps sp) (hr : Room k' X.A) (hg : Gl X x) (hk : k ≤ k' := by decide)
    (hdb : (x == ("__debug__" : Str)) = false := by decide) : PE X (.Call (.Name x p) [] [] pos) (tCall sp [] E0 tNil) := by
  obtain ⟨f, fd, F, m, kp, b⟩ := C.ex
  exact pe_call0 F (hr.mono hk) hg m kp b .nil pass0 hdb
end

/-! ### methods, defs that may raise -/
def Mth (K : PySem.W.Frag) (C : Addr) (m qual : Str) (st : Stmt) (ps : List Str) : Prop := ∃ (f : Addr) (fd : FuncData), Fun K m qual st f fd ∧ Meth K C m f ∧ Binds K fd ps []
structure MOk (P : Program) (w : World) (K : PySem.W.Frag) (mg : Str → Option Value) (base : Heap) (CX : CXT) (C : Addr) (m : Str) (k : Nat) (ps : List Str) (sp : Sp) : Prop where
  ex : ∃ (f : Addr) (fd : FuncData), FnOk P w K mg base CX k f fd ps sp ∧ Meth K C m f ∧ Binds K fd ps []
section
variable {P : Program} {w : World} {K : PySem.W.Frag} {mg : Str → Option Value} {base : Heap} {x m qual : Str} {st : Stmt} {N ps : List Str} {k : Nat} {sp : Sp} {C : Addr}
theorem m_mk (D : Mth K C m qual st ps) (S : FnScope N ps (defScope st)) (len : ∀ vs H Q E, sp vs H Q E → vs.length = ps.length)
    (hbody : ∀ (f : Addr) (cdv : Value) (A : Around) (outer : List Env) (s : Shared) (H : Hp) (vs : List V) (Q : VK) (E : XK), Room k (A.deeper (envOfC qual (defScope st) s.heap.objs.size f cdv)) → sp vs H Q E →
      ∃ t, PSs (cxOf CX0 P w K mg base N qual (defScope st) f cdv A outer s H E).nox (defBody st) t ∧ t { nx := fun _ H' => Q .non H', rt := Q } (start N vs) H) : MOk P w K mg base CX0 C m (k + 1) ps sp := by
  obtain ⟨f, fd, F, h1, h2⟩ := D
  exact ⟨f, fd, F.ok S len fun cdv A outer s H vs Q E hr h => hbody f cdv A outer s H vs Q E hr h, h1, h2⟩
theorem m_mkX (D : Mth K C m qual st ps) (S : FnScope N ps (defScope st)) (len : ∀ vs H Q E, sp vs H Q E → vs.length = ps.length)
    (hbody : ∀ (f : Addr) (cdv : Value) (A : Around) (outer : List Env) (s : Shared) (H : Hp) (vs : List V) (Q : VK) (E : XK), Room k (A.deeper (envOfC qual (defScope st) s.heap.objs.size f cdv)) → sp vs H Q E →
      ∃ t, PSs (cxOf (L2.CX P w) P w K mg base N qual (defScope st) f cdv A outer s H E) (defBody st) t ∧ t { nx := fun _ H' => Q .non H', rt := Q } (start N vs) H) : MOk P w K mg base (L2.CX P w) C m (k + 1) ps sp := by
  obtain ⟨f, fd, F, h1, h2⟩ := D
  exact ⟨f, fd, F.okX S len fun cdv A outer s H vs Q E hr h => hbody f cdv A outer s H vs Q E hr h, h1, h2⟩
theorem c_mkX (D : Dfn K mg x st ps) (S : FnScope N ps (defScope st)) (len : ∀ vs H Q E, sp vs H Q E → vs.length = ps.length)
    (hbody : ∀ (f : Addr) (cdv : Value) (A : Around) (outer : List Env) (s : Shared) (H : Hp) (vs : List V) (Q : VK) (E : XK), Room k (A.deeper (envOfC x (defScope st) s.heap.objs.size f cdv)) → sp vs H Q E →
      ∃ t, PSs (cxOf (L2.CX P w) P w K mg base N x (defScope st) f cdv A outer s H E) (defBody st) t ∧ t { nx := fun _ H' => Q .non H', rt := Q } (start N vs) H) : COk P w K mg base (L2.CX P w) x (k + 1) ps sp := by
  obtain ⟨f, fd, F, h1, h2⟩ := D
  exact ⟨f, fd, F.okX S len fun cdv A outer s H vs Q E hr h => hbody f cdv A outer s H vs Q E hr h, h1, F.kp, h2⟩
end
/-- what a call in a try may let out: wished for at any slots -/
def wishLen (n : Nat) (W : WX) : XK := fun cls d H => ∀ σ : L2.St, σ.length = n → W cls d σ H
theorem passLen {X : Cx} {W : WX} (n : Nat) (tk : Takes X W) (hn : X.N.length = n) : Passes (L2.CX X.prog X.w) X (wishLen n W) := fun _ σ _ _ e s' I c =>
  tk e s' (XE.of_call I (fun _ _ _ h => h σ (I.len.trans hn)) c)
/-- what a call in a def that may raise lets out: the def's own -/
theorem passUp {X : Cx} {E : XK} (tk : Takes X (fun cls d _ H => E cls d H)) : Passes (L2.CX X.prog X.w) X E := passes_call tk fun _ _ _ _ h => h
/-! ### own exceptions -/
structure ExT (K : PySem.W.Frag) (mg : Str → Option Value) (x : Str) (C : Addr) : Prop where
  g : mg x = some (.ref C)
  q : PySem.W.excIn K C [.type "ValueError", .type "Exception", .type "BaseException", .type "object"] "ValueError.__new__" = true
  k : PySem.W.keepIn K (.ref C) = true
  b : PySem.W.subIn K (.ref C) (.type "BaseException") = some true
  t : PySem.W.typeIn K (.ref C) = some (.type "type")
/-- raise X('..') -/
theorem ps_own {X : Cx} {W : WX} {x m : Str} {C : Addr} {j : Nat} {p p2 pos pos2 : Pos} (T : ExT X.K X.mg x C) (hc : X.calm = true) (tk : Takes X W) (hg : Gl X x) (hdb : (x == ("__debug__" : Str)) = false := by decide) :
    PS X (.Raise (some (.Call (.Name x p) [.Constant (.str m) j p2] [] pos)) none pos2) (fun _ σ H => W (.ref C) none σ H) := ps_raise hc tk (pmk_own PySem.F.excBase_ValueError T.q T.g T.k (raises_own T.b T.t) hg hdb)
/-! ### a def called in an except suite with the exception that is held -/
structure FnE (P : Program) (w : World) (K : PySem.W.Frag) (mg : Str → Option Value) (base : Heap) (k : Nat) (f : Addr) (fd : FuncData) (ps : List Str) (sp : Addr × Obj → List V → Hp → VK → Prop) : Prop where
  len : ∀ p vs H Q, sp p vs H Q → vs.length = ps.length
  run : ∀ (A : Around) (outer : List Env) (s : Shared) (H : Hp) (args : Args) (us : List Value) (vs : List V) (Q : VK) (p : Addr × Obj), L2H.RoomH k A → L2H.PinOk outer H s p → Env0 P w K mg base A outer s H → BindsTo s fd args (ps.zip us) → Vals vs us →
    sp p vs H Q → codeAny (model P w) A (.call (.ref f) args) (CR CX0 outer P w H s Q E0) s
theorem fe_mk {P : Program} {w : World} {K : PySem.W.Frag} {mg : Str → Option Value} {base : Heap} {x : Str} {st : Stmt} {N ps : List Str} {k : Nat} {f : Addr} {fd : FuncData} {sp : Addr × Obj → List V → Hp → VK → Prop} (F : Fun K x x st f fd) (S : FnScope N ps (defScope st))
    (len : ∀ p vs H Q, sp p vs H Q → vs.length = ps.length)
    (hbody : ∀ (cdv : Value) (A : Around) (outer : List Env) (s : Shared) (H : Hp) (vs : List V) (Q : VK) (p : Addr × Obj), L2H.RoomH k (A.deeper (envOfC x (defScope st) s.heap.objs.size f cdv)) → sp p vs H Q →
      ∃ t, PSs (L2H.cxH CX0 P w K mg base N x (defScope st) f cdv A outer s H E0 p) (defBody st) t ∧ t { nx := fun _ H' => Q .non H', rt := Q } (start N vs) H) :
    FnE P w K mg base (k + 1) f fd ps sp := by
  obtain ⟨oc, od, kV, doc, pm, an, cdv, ct, osl, rfl, lk, hcd⟩ := F.ex
  refine ⟨len, fun A outer s H args us vs Q p hr hpin e0 hb r hsp => ?_⟩
  have hl := len _ _ _ _ hsp
  have KX : K.In s.heap := e0.mod.kin.keeps fun b o e => (e0.bs b o e).1
  have lim : s.heap.NoLimit := e0.mod.nolimit.keeps fun b o e => (e0.bs b o e).1
  have kinds : ∀ y ∈ ps.zip us, (defScope st).names.lookup y.1 = some .local ∨ ((defScope st).names.lookup y.1 = some .cell ∧ ((cellsFrom (s.heap.objs.size + 1) (defScope st).names []).lookup y.1).isSome = true) := by
    rintro ⟨n, v⟩ hy
    rcases S.par n (List.of_mem_zip hy).1 with q | q
    · exact .inl q
    · exact .inr ⟨q, PySem.W.cellsFrom_some _ _ _ (.inl q)⟩
  refine codeAny_call_function hr.depth (KX _ _ lk) rfl S.co S.gen rfl (PySem.W.codeRec_of KX hcd) (hb _ _ _ _ ?_)
  refine wpAny_newFunctionEnv_cells S.kind kinds fun env he s1 z => ?_
  subst he
  refine ⟨lim.keeps z.toInCall.keep, codeAny_func ?_⟩
  obtain ⟨t, ht, hq⟩ := hbody cdv A outer s H vs Q p (hr.deeper _) hsp
  have I := L2H.inv_startH (CX := CX0) (E := E0) (P := P) (w := w) (K := K) (mg := mg) (base := base) (qual := x) (f := f) (cd := cdv) S hpin e0 hl r z
  refine wpAny_mono (ht.run [] s1 (start N vs) H _ I hq) (fun fl s' hs => ?_) fun e s' hs => hs
  cases fl with
  | ret u => exact let ⟨v, _, H', J, rv, q⟩ := hs; ⟨v, H', J.os, J.bare, J.base, J.hok, rv, q⟩
  | next => exact let ⟨_, H', J, q⟩ := hs; ⟨V.non, H', J.os, J.bare, J.base, J.hok, rfl, q⟩
  | brk => exact let ⟨_, _, _, q⟩ := hs; False.elim q
  | cont => exact let ⟨_, _, _, q⟩ := hs; False.elim q
theorem roomSuite {k j : Nat} {A : Around} {h : Option Value} (r : Room k A) (hj : j ≤ k) : L2H.RoomH j (A.mark h) := L2H.RoomH.mono (show L2H.RoomH k (A.mark h) from ⟨r.dp, r.un⟩) hj
def tCallE (sp : Addr × Obj → List V → Hp → VK → Prop) (a : Addr) (cls : Value) (d : Option Addr) (t : TA) : TE := fun σ H Q => t σ H fun vs H1 => ∀ oe : Obj, Zc cls d oe → (∃ fv, oe.data = .fields fv) → sp (a, oe) vs H1 Q
theorem pe_ce {X : Cx} {x : Str} {k : Nat} {f : Addr} {fd : FuncData} {ps : List Str} {sp : Addr × Obj → List V → Hp → VK → Prop} {q pos : Pos} {e : Expr} {es : List Expr} {t : TA} {a : Addr} {oe : Obj} {cls : Value} {d : Option Addr} (hz : Zc cls d oe) (hf : ∃ fv, oe.data = .fields fv) (F : FnE X.prog X.w X.K X.mg X.base k f fd ps sp) (hr : L2H.RoomH k X.A) (hp : (a, oe) ∈ X.pn)
    (hg : Gl X x) (hm : X.mg x = some (.ref f)) (hk : PySem.W.keepIn X.K (.ref f) = true) (hb : Binds X.K fd ps []) (ha : PA X (e :: es) t) (hdb : (x == ("__debug__" : Str)) = false := by decide)
    (he : starEach (e :: es) X.env = (false, eval e X.env) :: starEach es X.env := by rfl) (hpl : (backTo pos (starEach es X.env)).any (·.1) = false := by rfl) :
    PE X (.Call (.Name x q) (e :: es) [] pos) (tCallE sp a cls d t) := by
  refine ⟨fun pins s σ H Q I h => ?_⟩
  refine wpAny_Call_Name_kw (ld_glob I hg hm ?_ hdb)
  refine PySem.W.callWith_K (h₀ := X.base) I.ok.mod.kin hk (thn (ha.run pos pins s σ H _ I h) fun us s1 ⟨vs, H1, J, r, q0⟩ => ⟨J.kIn, ?_⟩) he hpl
  have q1 := q0 oe hz hf
  have hl : us.length = ps.length := by rw [← r.length]; exact F.len _ _ _ _ q1
  have b := hb s1 us J.kIn (by rw [List.append_nil]; exact hl)
  rw [List.append_nil] at b
  have P1 := J.pin (a, oe) (List.mem_append_left _ hp)
  have hpin : L2H.PinOk X.stack H1 s1 (a, oe) := ⟨P1.1, P1.2.1, fun hm => (List.mem_cons.mp (J.stkSub a hm)).elim P1.2.2.1 P1.2.2.2.1, P1.2.2.2.2⟩
  refine wpAny_call (codeAny_mono (F.run X.A X.stack s1 H1 ⟨us, []⟩ us vs Q (a, oe) hr hpin J.env0 b r q1) fun r s' hq => ?_)
  cases r with
  | error e => exact False.elim hq
  | ok fl =>
    cases fl with
    | ret u => exact J.after hq
    | next => exact False.elim hq
    | brk => exact False.elim hq
    | cont => exact False.elim hq
/-- isinstance(e, c), e the exception that the context pins -/
theorem call_isP {X : Cx} {a D : Addr} {oe : Obj} (C : ExcC X.K D) (hp : (a, oe) ∈ X.pn) (hz : Zc (.ref D) none oe) (hf : ∃ vs, oe.data = .fields vs) : CallR X (.builtin "isinstance") (rIsE X.K D a) := by
  intro pins s σ H xs us Q I r h
  obtain ⟨c, cv, b, rfl, hcv, e, q⟩ := h
  obtain ⟨u1, u2, rfl, r1, r2⟩ := vals2 r
  cases r1
  have ec := hcv _ r2
  subst ec
  obtain ⟨hget, _⟩ := I.pin (a, oe) (List.mem_append_left _ hp)
  obtain ⟨vs, hv⟩ := hf
  have J : PySem.W.InstAt s.heap a oe D none := by
    obtain ⟨oc, od, oda, osl⟩ := oe
    obtain ⟨h1, h2⟩ := hz
    dsimp only at h1 h2 hv
    subst h1 h2 hv
    exact ⟨hget, rfl, rfl, trivial⟩
  exact PySem.W.kia_one (PySem.W.handS_kitx_exc C.hg C.hk C.hs C.hd C.ha C.hn C.ht C.hm) I.kIn J e (fun z => nomatch z) fun tk => ⟨.bl b, H, I.kept (t' := tk) fun _ _ z => z, rfl, q⟩
section
variable {X : Cx}
/-- a call of a def that may raise -/
theorem pe_cx {x : Str} {k k' : Nat} {ps : List Str} {sp : Sp} {p pos : Pos} {e : Expr} {es : List Expr} {t : TA} {E : XK} (C : COk X.prog X.w X.K X.mg X.base (L2.CX X.prog X.w) x k ps sp) (hx : Passes (L2.CX X.prog X.w) X E) (hr : Room k' X.A) (hg : Gl X x) (ha : PA X (e :: es) t) (hk : k ≤ k' := by first | decide | omega)
    (hdb : (x == ("__debug__" : Str)) = false := by decide) (he : starEach (e :: es) X.env = (false, eval e X.env) :: starEach es X.env := by rfl) (hpl : (backTo pos (starEach es X.env)).any (·.1) = false := by rfl) :
    PE X (.Call (.Name x p) (e :: es) [] pos) (tCall sp [] E t) := by
  obtain ⟨f, fd, F, m, kp, b⟩ := C.ex
  exact pe_call F (hr.mono hk) hg m kp b .nil hx ha hdb he hpl
end

/-! ### the text -/
def topS (i : Nat) : Stmt := PySem.Challenge.pw_twinsum_k08_whole_all_by_looks.main.body.getD i (.Pass ⟨0, 0, 0, 0⟩)
abbrev s_wall : Stmt := topS 0
theorem sc_wall : FnScope ["k"] ["k"] (defScope s_wall) := ⟨rfl, rfl, rfl, by decide +kernel, rfl, by decide +kernel, by decide +kernel⟩
abbrev s_digits : Stmt := topS 2
theorem sc_digits : FnScope ["count"] ["count"] (defScope s_digits) := ⟨rfl, rfl, rfl, by decide +kernel, rfl, by decide +kernel, by decide +kernel⟩
abbrev s_parted : Stmt := topS 3
theorem sc_parted : FnScope ["count", "parts", "start", "height", "size"] ["count"] (defScope s_parted) := ⟨rfl, rfl, rfl, by decide +kernel, rfl, by decide +kernel, by decide +kernel⟩
abbrev s_blocks_at : Stmt := topS 4
theorem sc_blocks_at : FnScope ["count", "place", "heights", "height"] ["count", "place"] (defScope s_blocks_at) := ⟨rfl, rfl, rfl, by decide +kernel, rfl, by decide +kernel, by decide +kernel⟩
abbrev s_Looking___init__ : Stmt := inClass (topS 14) 0
theorem sc_Looking___init__ : FnScope ["self", "one", "other"] ["self", "one", "other"] (defScope s_Looking___init__) := ⟨rfl, rfl, rfl, by decide +kernel, rfl, by decide +kernel, by decide +kernel⟩
abbrev s_Looking_alike : Stmt := inClass (topS 14) 1
theorem sc_Looking_alike : FnScope ["self", "height", "number", "same"] ["self", "height", "number"] (defScope s_Looking_alike) := ⟨rfl, rfl, rfl, by decide +kernel, rfl, by decide +kernel, by decide +kernel⟩
abbrev s_Looking_first_in : Stmt := inClass (topS 14) 2
theorem sc_Looking_first_in : FnScope ["self", "height", "number", "below"] ["self", "height", "number"] (defScope s_Looking_first_in) := ⟨rfl, rfl, rfl, by decide +kernel, rfl, by decide +kernel, by decide +kernel⟩
abbrev s_Looking_all_in : Stmt := inClass (topS 14) 3
theorem sc_Looking_all_in : FnScope ["self", "height", "number", "left", "right", "places"] ["self", "height", "number"] (defScope s_Looking_all_in) := ⟨rfl, rfl, rfl, by decide +kernel, rfl, by decide +kernel, by decide +kernel⟩
abbrev s_first_unlike : Stmt := topS 15
theorem sc_first_unlike : FnScope ["one", "other", "looking", "lesser", "height", "number"] ["one", "other"] (defScope s_first_unlike) := ⟨rfl, rfl, rfl, by decide +kernel, rfl, by decide +kernel, by decide +kernel⟩
abbrev s_all_unlike : Stmt := topS 16
theorem sc_all_unlike : FnScope ["one", "other", "looking", "places", "height", "number"] ["one", "other"] (defScope s_all_unlike) := ⟨rfl, rfl, rfl, by decide +kernel, rfl, by decide +kernel, by decide +kernel⟩
abbrev s_is_whole : Stmt := topS 20
theorem sc_is_whole : FnScope ["thing"] ["thing"] (defScope s_is_whole) := ⟨rfl, rfl, rfl, by decide +kernel, rfl, by decide +kernel, by decide +kernel⟩
abbrev s_is_row : Stmt := topS 21
theorem sc_is_row : FnScope ["thing", "sign"] ["thing"] (defScope s_is_row) := ⟨rfl, rfl, rfl, by decide +kernel, rfl, by decide +kernel, by decide +kernel⟩
abbrev s_check_row : Stmt := topS 22
theorem sc_check_row : FnScope ["thing"] ["thing"] (defScope s_check_row) := ⟨rfl, rfl, rfl, by decide +kernel, rfl, by decide +kernel, by decide +kernel⟩
abbrev s_check_place : Stmt := topS 23
theorem sc_check_place : FnScope ["thing", "count"] ["thing", "count"] (defScope s_check_place) := ⟨rfl, rfl, rfl, by decide +kernel, rfl, by decide +kernel, by decide +kernel⟩
abbrev s_Book___init__ : Stmt := inClass (topS 26) 0
theorem sc_Book___init__ : FnScope ["self", "ledger", "rows", "row"] ["self", "ledger", "rows"] (defScope s_Book___init__) := ⟨rfl, rfl, rfl, by decide +kernel, rfl, by decide +kernel, by decide +kernel⟩
abbrev s_Book_put : Stmt := inClass (topS 26) 1
theorem sc_Book_put : FnScope ["self", "place", "row"] ["self", "place", "row"] (defScope s_Book_put) := ⟨rfl, rfl, rfl, by decide +kernel, rfl, by decide +kernel, by decide +kernel⟩
abbrev s_Book_add : Stmt := inClass (topS 26) 2
theorem sc_Book_add : FnScope ["self", "row"] ["self", "row"] (defScope s_Book_add) := ⟨rfl, rfl, rfl, by decide +kernel, rfl, by decide +kernel, by decide +kernel⟩
abbrev s_Book_cut : Stmt := inClass (topS 26) 3
theorem sc_Book_cut : FnScope ["self", "gone", "block"] ["self"] (defScope s_Book_cut) := ⟨rfl, rfl, rfl, by decide +kernel, rfl, by decide +kernel, by decide +kernel⟩
abbrev s_Book_count : Stmt := inClass (topS 26) 4
theorem sc_Book_count : FnScope ["self"] ["self"] (defScope s_Book_count) := ⟨rfl, rfl, rfl, by decide +kernel, rfl, by decide +kernel, by decide +kernel⟩
abbrev s_Book_row : Stmt := inClass (topS 26) 5
theorem sc_Book_row : FnScope ["self", "place"] ["self", "place"] (defScope s_Book_row) := ⟨rfl, rfl, rfl, by decide +kernel, rfl, by decide +kernel, by decide +kernel⟩
abbrev s_Book_rows : Stmt := inClass (topS 26) 6
theorem sc_Book_rows : FnScope ["self"] ["self"] (defScope s_Book_rows) := ⟨rfl, rfl, rfl, by decide +kernel, rfl, by decide +kernel, by decide +kernel⟩
abbrev s_Book_sum_of : Stmt := inClass (topS 26) 7
theorem sc_Book_sum_of : FnScope ["self", "height", "number"] ["self", "height", "number"] (defScope s_Book_sum_of) := ⟨rfl, rfl, rfl, by decide +kernel, rfl, by decide +kernel, by decide +kernel⟩
abbrev s_Book__sum_up : Stmt := inClass (topS 26) 8
theorem sc_Book__sum_up : FnScope ["self", "place", "blocks", "height", "number"] ["self", "place"] (defScope s_Book__sum_up) := ⟨rfl, rfl, rfl, by decide +kernel, rfl, by decide +kernel, by decide +kernel⟩
abbrev s_Book__asked : Stmt := inClass (topS 26) 9
theorem sc_Book__asked : FnScope ["self", "height", "number", "left", "right"] ["self", "height", "number"] (defScope s_Book__asked) := ⟨rfl, rfl, rfl, by decide +kernel, rfl, by decide +kernel, by decide +kernel⟩
abbrev s_Ledger___init__ : Stmt := inClass (topS 28) 0
theorem sc_Ledger___init__ : FnScope ["self"] ["self"] (defScope s_Ledger___init__) := ⟨rfl, rfl, rfl, by decide +kernel, rfl, by decide +kernel, by decide +kernel⟩
abbrev s_Ledger_of_row : Stmt := inClass (topS 28) 1
theorem sc_Ledger_of_row : FnScope ["self", "row"] ["self", "row"] (defScope s_Ledger_of_row) := ⟨rfl, rfl, rfl, by decide +kernel, rfl, by decide +kernel, by decide +kernel⟩
abbrev s_Ledger_of_pair : Stmt := inClass (topS 28) 2
theorem sc_Ledger_of_pair : FnScope ["self", "one", "other"] ["self", "one", "other"] (defScope s_Ledger_of_pair) := ⟨rfl, rfl, rfl, by decide +kernel, rfl, by decide +kernel, by decide +kernel⟩
abbrev s_Ledger_what : Stmt := inClass (topS 28) 3
theorem sc_Ledger_what : FnScope ["self", "number"] ["self", "number"] (defScope s_Ledger_what) := ⟨rfl, rfl, rfl, by decide +kernel, rfl, by decide +kernel, by decide +kernel⟩
abbrev s_Ledger_many : Stmt := inClass (topS 28) 4
theorem sc_Ledger_many : FnScope ["self"] ["self"] (defScope s_Ledger_many) := ⟨rfl, rfl, rfl, by decide +kernel, rfl, by decide +kernel, by decide +kernel⟩
abbrev s_Ledger__gave_out : Stmt := inClass (topS 28) 5
theorem sc_Ledger__gave_out : FnScope ["self", "thing"] ["self", "thing"] (defScope s_Ledger__gave_out) := ⟨rfl, rfl, rfl, by decide +kernel, rfl, by decide +kernel, by decide +kernel⟩
abbrev s_Ledger__sum_of : Stmt := inClass (topS 28) 6
theorem sc_Ledger__sum_of : FnScope ["self", "thing"] ["self", "thing"] (defScope s_Ledger__sum_of) := ⟨rfl, rfl, rfl, by decide +kernel, rfl, by decide +kernel, by decide +kernel⟩
abbrev s_law_cell_at : Stmt := topS 30
theorem sc_law_cell_at : FnScope ["_law_script", "_law_k"] ["_law_script", "_law_k"] (defScope s_law_cell_at) := ⟨rfl, rfl, rfl, by decide +kernel, rfl, by decide +kernel, by decide +kernel⟩
abbrev s_law_whole : Stmt := topS 31
theorem sc_law_whole : FnScope ["_law_found"] ["_law_found"] (defScope s_law_whole) := ⟨rfl, rfl, rfl, by decide +kernel, rfl, by decide +kernel, by decide +kernel⟩
abbrev s_law_mix : Stmt := topS 32
theorem sc_law_mix : FnScope ["_law_number", "_law_k", "_law_more"] ["_law_number", "_law_k"] (defScope s_law_mix) := ⟨rfl, rfl, rfl, by decide +kernel, rfl, by decide +kernel, by decide +kernel⟩
abbrev s_law_text : Stmt := topS 33
theorem sc_law_text : FnScope ["_law_cell", "_law_signs", "_law_many", "_law_text_here", "_law_k"] ["_law_cell"] (defScope s_law_text) := ⟨rfl, rfl, rfl, by decide +kernel, rfl, by decide +kernel, by decide +kernel⟩
abbrev s_law_near : Stmt := topS 34
theorem sc_law_near : FnScope ["_law_text_here", "_law_cell", "_law_at", "_law_sign"] ["_law_text_here", "_law_cell"] (defScope s_law_near) := ⟨rfl, rfl, rfl, by decide +kernel, rfl, by decide +kernel, by decide +kernel⟩
abbrev s_law_rows : Stmt := topS 35
theorem sc_law_rows : FnScope ["_law_cell", "_law_more", "_law_many", "_law_kinds", "_law_rows_here", "_law_k"] ["_law_cell", "_law_more"] (defScope s_law_rows) := ⟨rfl, rfl, rfl, by decide +kernel, rfl, by decide +kernel, by decide +kernel⟩
abbrev s_law_twin : Stmt := topS 36
theorem sc_law_twin : FnScope ["_law_rows_here", "_law_cell", "_law_other", "_law_k", "_law_at", "_law_way"] ["_law_rows_here", "_law_cell"] (defScope s_law_twin) := ⟨rfl, rfl, rfl, by decide +kernel, rfl, by decide +kernel, by decide +kernel⟩
abbrev s_law_books : Stmt := topS 37
theorem sc_law_books : FnScope ["_law_script", "_law_ledger", "_law_rows_here", "_law_other", "_law_books_here", "_law_kept", "_law_cell", "_law_turn"] ["_law_script"] (defScope s_law_books) := ⟨rfl, rfl, rfl, by decide +kernel, rfl, by decide +kernel, by decide +kernel⟩
abbrev s_law_change : Stmt := topS 38
theorem sc_law_change : FnScope ["_law_book", "_law_rows_here", "_law_others", "_law_cell", "_law_kind", "_law_text_here", "_law_place"] ["_law_book", "_law_rows_here", "_law_others", "_law_cell"] (defScope s_law_change) := ⟨rfl, rfl, rfl, by decide +kernel, rfl, by decide +kernel, by decide +kernel⟩
abbrev s_law_digits : Stmt := topS 39
theorem sc_law_digits : FnScope ["_law_count", "_law_found"] ["_law_count"] (defScope s_law_digits) := ⟨rfl, rfl, rfl, by decide +kernel, rfl, by decide +kernel, by decide +kernel⟩
abbrev s_law_size : Stmt := topS 40
theorem sc_law_size : FnScope ["_law_height", "_law_size_here", "_law_turn"] ["_law_height"] (defScope s_law_size) := ⟨rfl, rfl, rfl, by decide +kernel, rfl, by decide +kernel, by decide +kernel⟩
abbrev s_law_parted : Stmt := topS 41
theorem sc_law_parted : FnScope ["_law_count", "_law_found", "_law_place", "_law_height"] ["_law_count"] (defScope s_law_parted) := ⟨rfl, rfl, rfl, by decide +kernel, rfl, by decide +kernel, by decide +kernel⟩
abbrev s_law_room : Stmt := topS 42
theorem sc_law_room : FnScope ["_law_script", "_law_small", "_law_great"] ["_law_script", "_law_small", "_law_great"] (defScope s_law_room) := ⟨rfl, rfl, rfl, by decide +kernel, rfl, by decide +kernel, by decide +kernel⟩
abbrev s_law_true : Stmt := topS 43
theorem sc_law_true : FnScope ["_law_rows_here", "_law_other", "_law_looks", "_law_height", "_law_number", "_law_alike", "_law_size_here", "_law_first", "_law_there"] ["_law_rows_here", "_law_other", "_law_looks"] (defScope s_law_true) := ⟨rfl, rfl, rfl, by decide +kernel, rfl, by decide +kernel, by decide +kernel⟩
abbrev s_law : Stmt := topS 44
theorem sc_law : FnScope ["_law_script", "_law_books_here", "_law_kept", "_law_rows_here", "_law_other", "_law_lesser", "_law_place", "_law_due", "_law_places", "_law_looks", "_law_many", "_law_covered", "_law_height", "_law_number", "_law_alike", "_law_size_here", "_law_first", "_law_look"] ["_law_script"] (defScope s_law) := ⟨rfl, rfl, rfl, by decide +kernel, rfl, by decide +kernel, by decide +kernel⟩
structure Bi (mg : Str → Option Value) : Prop where
  len : mg "len" = none
  range : mg "range" = none
  reversed : mg "reversed" = none
  isinstance : mg "isinstance" = none
  int : mg "int" = none
  bool : mg "bool" = none
  list : mg "list" = none
  tuple : mg "tuple" = none
  str : mg "str" = none
  set : mg "set" = none
  all : mg "all" = none
  min : mg "min" = none
  max : mg "max" = none
  sorted : mg "sorted" = none
  ValueError : mg "ValueError" = none
  enumerate : mg "enumerate" = none
structure Gb (mg : Str → Option Value) : Prop where
  SIGNS : ∃ t, mg "SIGNS" = some (.str (Str.ofString "abcdefghijklmnopqrstuvwxyz0123456789 ") t)
  LONGEST_ROW : ∃ t, mg "LONGEST_ROW" = some (.int 40 t)
  MOST_ROWS : ∃ t, mg "MOST_ROWS" = some (.int 1024 t)

/-! ### the ledger -/
theorem hu9 {A : Around} {k : Nat} (hr : Room k A) : A.units + 9 < cLine := by
  have := hr.un
  omega
/-- what may be handed in -/
inductive AnyV (H : Hp) : V → Prop
  | int (i : Int) : AnyV H (.int i)
  | bl (b : Bool) : AnyV H (.bl b)
  | str (x : Str) : x.length ≤ sizeLine → AnyV H (.str x)
  | non : AnyV H .non
  | tup {t : Addr} {xs : List V} : H t = some (.tup xs) → AnyV H (.ref t)
theorem AnyV.keep {H H' : Hp} {v : V} (t : ∀ b xs, H b = some (.tup xs) → H' b = some (.tup xs)) (h : AnyV H v) : AnyV H' v := by
  cases h with
  | int i => exact .int i
  | bl b => exact .bl b
  | str x h => exact .str x h
  | non => exact .non
  | tup h => exact .tup (t _ _ h)
def tyName : V → String
  | .int _ => "int"
  | .bl _ => "bool"
  | .str _ => "str"
  | .non => "NoneType"
  | _ => "tuple"
theorem AnyV.tyX {K : PySem.W.Frag} {H : Hp} {v : V} (h : AnyV H v) : TyX K H v (.type (tyName v)) := by
  cases h with
  | int i => exact .base (.int i)
  | bl b => exact .base (.bl b)
  | str x h => exact .base (.str x)
  | non => exact .base .non
  | tup h => exact .base (.tup h)
def wholeV : V → Bool
  | .int _ => true
  | _ => false
def intB : V → Bool
  | .int _ => true
  | .bl _ => true
  | _ => false
def boolB : V → Bool
  | .bl _ => true
  | _ => false
def strB : V → Bool
  | .str _ => true
  | _ => false
def tupB : V → Bool
  | .ref _ => true
  | _ => false
theorem kit_int {H : Hp} {v : V} (h : AnyV H v) : kitB (tyName v) "int" = some (intB v) := by
  cases h <;> simp only [tyName, intB] <;> decide +kernel
theorem kit_bool {H : Hp} {v : V} (h : AnyV H v) : kitB (tyName v) "bool" = some (boolB v) := by
  cases h <;> simp only [tyName, boolB] <;> decide +kernel
theorem kit_str {H : Hp} {v : V} (h : AnyV H v) : kitB (tyName v) "str" = some (strB v) := by
  cases h <;> simp only [tyName, strB] <;> decide +kernel
theorem kit_tup {H : Hp} {v : V} (h : AnyV H v) : kitB (tyName v) "tuple" = some (tupB v) := by
  cases h <;> simp only [tyName, tupB] <;> decide +kernel
theorem kit_list {H : Hp} {v : V} (h : AnyV H v) : kitB (tyName v) "list" = some false := by
  cases h <;> simp only [tyName] <;> decide +kernel
theorem whole_eq {H : Hp} {v : V} (h : AnyV H v) : (intB v && !boolB v) = wholeV v := by
  cases h <;> rfl
def signS : Str := Str.ofString "abcdefghijklmnopqrstuvwxyz0123456789 "
/-- is it a row -/
def rowStr (x : Str) : Bool := decide (x.length ≤ 40) && x.cps.toList.all fun c => decide (c ∈ signS.cps.toList)
def rowV : V → Bool
  | .str x => rowStr x
  | _ => false
def spIsWhole : Sp := fun vs H Q _ => ∃ v, vs = [v] ∧ AnyV H v ∧ Q (.bl (wholeV v)) H
def spIsRow : Sp := fun vs H Q _ => ∃ v, vs = [v] ∧ AnyV H v ∧ ∀ H', Same H H' → Q (.bl (rowV v)) H'
def spCheckRow (cR : Addr) : Sp := fun vs H Q E => ∃ v, vs = [v] ∧ AnyV H v ∧ (rowV v = true → ∀ H', Same H H' → Q .non H') ∧ (rowV v = false → ∀ H', Same H H' → E (.ref cR) none H')
section
variable {P : Program} {w : World} {K : PySem.W.Frag} {mg : Str → Option Value} {base : Heap} {cR : Addr}
theorem ok_is_whole (D : Dfn K mg "is_whole" s_is_whole ["thing"]) (B : Bi mg) : COk P w K mg base CX0 "is_whole" 1 ["thing"] spIsWhole := by
  refine c_mk D sc_is_whole (fun vs H Q E h => ?_) (fun f cdv A outer s H vs Q E hr h => ?_)
  · obtain ⟨v, rfl, _⟩ := h
    rfl
  · obtain ⟨v, rfl, hv, q⟩ := h
    refine ⟨_, (pss_one (ps_ret (pe_and (pe_callB (id := "isinstance") call_isi (by rfl) B.isinstance (by decide +kernel) (pa_cons (pv 0) (pa_cons (pe_bltn (v := .ty "int") (u := .type "int") (by rfl) B.int (by decide +kernel) rfl) pa_nil))) (pe_one (pe_not (pe_callB (id := "isinstance") call_isi (by rfl) B.isinstance (by decide +kernel) (pa_cons (pv 0) (pa_cons (pe_bltn (v := .ty "bool") (u := .type "bool") (by rfl) B.bool (by decide +kernel) rfl) pa_nil)))))))), ?_⟩
    refine ⟨_, rfl, v, .ty "int", _, _, intB v, rfl, .ty "int", hv.tyX, kit_ty (kit_int hv), intB v, rfl, ?_⟩
    rw [← whole_eq hv] at q
    cases hi : intB v with
    | false =>
      rw [hi] at q
      exact iteF q
    | true =>
      rw [hi] at q
      refine iteT ?_
      refine ⟨_, rfl, v, .ty "bool", _, _, boolB v, rfl, .ty "bool", hv.tyX, kit_ty (kit_bool hv), boolB v, rfl, ?_⟩
      exact q
theorem yes_of {σ : L2.St} {H : Hp} {Q : Bool → Hp → Prop} (h : Q true H) : tYes σ H Q := h
theorem take_all {α : Type} {p : α → Bool} {l : List α} {i : Nat} {x : α} (h : l[i]? = some x) : (l.take (i + 1)).map p = (l.take i).map p ++ [p x] := by
  rw [List.take_add_one, h, List.map_append]
  rfl
theorem ok_is_row (D : Dfn K mg "is_row" s_is_row ["thing"]) (B : Bi mg) (M : Gb mg) : COk P w K mg base CX0 "is_row" 1 ["thing"] spIsRow := by
  obtain ⟨tS, mSIGNS⟩ := M.SIGNS
  obtain ⟨tL, mLONGEST_ROW⟩ := M.LONGEST_ROW
  refine c_mk D sc_is_row (fun vs H Q E h => ?_) (fun f cdv A outer s H vs Q E hr h => ?_)
  · obtain ⟨v, rfl, _⟩ := h
    rfl
  · obtain ⟨v, rfl, hv, q⟩ := h
    refine ⟨_, (pss_cons (ps_if ((pw_or (pt_not (pt_val (pe_callB (id := "isinstance") call_isi (by rfl) B.isinstance (by decide +kernel) (pa_cons (pv 0) (pa_cons (pe_bltn (v := .ty "str") (u := .type "str") (by rfl) B.str (by decide +kernel) rfl) pa_nil))))) (pw_or1 (pt_cmpR op_gt (pe_callB (id := "len") call_len_str (by rfl) B.len (by decide +kernel) (pa_cons (pv 0) pa_nil)) (pe_glob (v := .int 40) (by rfl) mLONGEST_ROW ⟨_, rfl⟩) (nomark _))))).pt (pss_one (ps_ret pe_bl)) pss_nil)
      (pss_one (ps_ret (pe_callB (id := "all") (cr_all rfl) (by rfl) B.all (by decide +kernel) (pa_cons (pe_lc (own := [("sign", 1)]) (g := gName 1) rfl sc_is_row.nd (pi_str (pv 0)) (blkOk_by (N := ["thing", "sign"]) (sc := defScope s_is_row) (by decide +kernel)) (fun _ _ _ _ _ => pg_name (i := 1) sc_is_row.nd rfl (Or.inl rfl)) (fun _ _ _ _ _ => pts_nil) (fun _ _ _ _ _ => (pe_cmpR op_in_sign (pv 1) (pe_glob (v := .str (Str.ofString "abcdefghijklmnopqrstuvwxyz0123456789 ")) (by rfl) mSIGNS ⟨_, rfl⟩) (by with_unfolding_all rfl)))) pa_nil))))), ?_⟩
    refine ⟨_, rfl, v, .ty "str", _, _, strB v, rfl, .ty "str", hv.tyX, kit_ty (kit_str hv), strB v, rfl, ?_⟩
    cases hv with
    | str x hx =>
      refine iteF ?_
      refine ⟨_, rfl, x, rfl, hx, (x.length : Int), 40, rfl, rfl, _, rfl, ite2 (fun e => ?_) (fun e => ?_)⟩
      · have h1 : ¬ x.length ≤ 40 := by
          have := of_decide_eq_true e
          omega
        have e2 : rowV (.str x) = false := by
          show (decide (x.length ≤ 40) && _) = false
          rw [decide_eq_false h1]
          rfl
        rw [e2] at q
        exact q H fun _ _ h => h
      · have h1 : x.length ≤ 40 := by
          have : ¬ (40 : Int) < (x.length : Int) := fun z => e (decide_eq_true z)
          omega
        have e2 : rowV (.str x) = (x.cps.toList.all fun c => decide (c ∈ signS.cps.toList)) := by
          show (decide (x.length ≤ 40) && _) = _
          rw [decide_eq_true h1]
          rfl
        refine ⟨_, rfl, x, rfl, fun Dl hD => ?_⟩
        refine lc_it (walk_str (z := x)) (fun i H' => Same H H' ∧ H' Dl = some (.lst (((x.cps.toList.take i).map fun c => decide (c ∈ signS.cps.toList)).map V.bl))) ⟨?_, upd_same⟩ (fun _ _ _ _ => trivial) ?_ ?_
        · intro b o e
          rw [upd_ne (ne_of_none e hD)]
          exact e
        · rintro i _ H' _ hi ⟨sm, hl⟩ ⟨rfl, c, hc, rfl⟩
          refine ⟨rfl, ?_⟩
          refine yes_of ?_
          refine iteT ?_
          refine ⟨_, rfl, c, signS, rfl, rfl, _, hl, ?_, ?_, ?_⟩
          · rw [List.length_map, List.length_map, List.length_take]
            have : x.length = x.cps.toList.length := by simp [Str.length]
            exact Nat.lt_of_le_of_lt (Nat.min_le_left _ _) (Nat.lt_of_lt_of_le (show i < 100 by
              have h3 : i < x.cps.size := hi
              have h4 : x.length = x.cps.size := rfl
              omega) (by decide))
          · intro b o e
            have nb : b ≠ Dl := ne_of_none e hD
            rw [upd_ne nb]
            exact sm b o e
          · have hc' : x.cps.toList[i]? = some c := by rw [Array.getElem?_toList]; exact hc
            rw [upd_same, take_all hc', List.map_append]
            rfl
        · rintro H' ⟨sm, hl⟩
          have e3 : x.cps.toList.take x.cps.size = x.cps.toList := List.take_of_length_le (by simp)
          rw [e3] at hl
          refine ⟨Dl, _, rfl, SqL.of hl, ?_⟩
          rw [List.all_map]
          rw [e2] at q
          exact q H' sm
    | int i => exact iteT (q H fun _ _ h => h)
    | bl i => exact iteT (q H fun _ _ h => h)
    | non => exact iteT (q H fun _ _ h => h)
    | tup ht => exact iteT (q H fun _ _ h => h)
theorem ok_check_row (D : Dfn K mg "check_row" s_check_row ["thing"]) (X_NoRow : ExT K mg "NoRow" cR) (C_is_row : COk P w K mg base CX0 "is_row" 1 ["thing"] spIsRow) : COk P w K mg base (L2.CX P w) "check_row" 2 ["thing"] (spCheckRow cR) := by
  refine c_mkX D sc_check_row (fun vs H Q E h => ?_) (fun f cdv A outer s H vs Q E hr h => ?_)
  · obtain ⟨v, rfl, _⟩ := h
    rfl
  · obtain ⟨v, rfl, hv, q1, q2⟩ := h
    refine ⟨_, (pss_one (ps_if (pt_not (pt_val (pe_c C_is_row hr (by rfl) (pa_cons (pv 0) pa_nil)))) (pss_one (ps_own X_NoRow rfl (takes_of rfl rfl rfl rfl) (by rfl))) pss_nil)), ?_⟩
    refine ⟨_, rfl, v, rfl, hv, fun H' sm => ⟨_, rfl, ?_⟩⟩
    cases hb : rowV v with
    | false => exact iteT (q2 hb H' sm)
    | true => exact iteF (q1 hb H' sm)
end

/-! ### the ledger's object -/
def numb (L : List Th) : List (Th × V) := L.zipIdx.map fun x => (x.1, V.int ((x.2 : Nat) : Int))
theorem numb_keys (L : List Th) : (numb L).map (·.1) = L := by
  unfold numb
  rw [List.map_map]
  exact List.zipIdx_map_fst 0 L
theorem numb_len (L : List Th) : (numb L).length = L.length := by
  unfold numb
  rw [List.length_map, List.length_zipIdx]
theorem numb_snoc (L : List Th) (t : Th) : numb (L ++ [t]) = numb L ++ [(t, .int (L.length : Int))] := by
  unfold numb
  rw [List.zipIdx_append, List.map_append]
  simp
theorem look_numb (L : List Th) (t : Th) : look (numb L) t = if t ∈ L then some (.int ((L.idxOf t : Nat) : Int)) else none := by
  have go : ∀ (l : List Th) (n : Nat), look ((l.zipIdx n).map fun x => (x.1, V.int ((x.2 : Nat) : Int))) t = if t ∈ l then some (.int ((n + l.idxOf t : Nat) : Int)) else none := by
    intro l
    induction l with
    | nil => intro n; rfl
    | cons a l ih =>
      intro n
      rw [List.zipIdx_cons, List.map_cons]
      unfold look at ih ⊢
      rw [List.find?_cons]
      by_cases h : a = t
      · subst h
        rw [decide_eq_true rfl, if_pos List.mem_cons_self, List.idxOf_cons_self]
        rfl
      · rw [decide_eq_false h]
        show Option.map _ (List.find? _ _) = _
        rw [ih (n + 1)]
        have e1 : t ∈ a :: l ↔ t ∈ l := by
          rw [List.mem_cons]
          exact ⟨fun z => z.elim (fun z => absurd z.symm h) id, .inr⟩
        have e2 : (a :: l).idxOf t = l.idxOf t + 1 := by
          rw [List.idxOf_cons, show (a == t) = false from beq_false_of_ne h]
          rfl
        by_cases hm : t ∈ l
        · rw [if_pos hm, if_pos (e1.mpr hm), e2, show n + 1 + l.idxOf t = n + (l.idxOf t + 1) by omega]
        · rw [if_neg hm, if_neg fun z => hm (e1.mp z)]
  have h := go L 0
  rw [Nat.zero_add] at h
  exact h
/-- what is given out behind asking for t -/
def give (L : List Th) (t : Th) : List Th := if t ∈ L then L else L ++ [t]
/-- its number -/
def numOf (L : List Th) (t : Th) : Nat := (give L t).idxOf t
theorem give_mem (L : List Th) (t : Th) : t ∈ give L t := by
  unfold give
  by_cases h : t ∈ L
  · rw [if_pos h]
    exact h
  · rw [if_neg h]
    simp
theorem give_len (L : List Th) (t : Th) : (give L t).length ≤ L.length + 1 := by
  unfold give
  by_cases h : t ∈ L
  · rw [if_pos h]
    omega
  · rw [if_neg h, List.length_append]
    exact Nat.le_refl _
theorem numOf_new {L : List Th} {t : Th} (h : t ∉ L) : numOf L t = L.length := by
  unfold numOf give
  rw [if_neg h, List.idxOf_append, if_neg h]
  simp
theorem numOf_old {L : List Th} {t : Th} (h : t ∈ L) : numOf L t = L.idxOf t := by
  unfold numOf give
  rw [if_pos h]
/-- nothing but the objects at d and l has changed -/
def Keep (H H' : Hp) (d l : Addr) : Prop := ∀ b o, H b = some o → b ≠ d → b ≠ l → H' b = some o
theorem Keep.refl (H : Hp) (d l : Addr) : Keep H H d l := fun _ _ h _ _ => h
theorem Keep.trans {H H1 H2 : Hp} {d l : Addr} (a : Keep H H1 d l) (b : Keep H1 H2 d l) : Keep H H2 d l := fun c o h h1 h2 => b c o (a c o h h1 h2) h1 h2
theorem Same.keep {H H' : Hp} (s : Same H H') (d l : Addr) : Keep H H' d l := fun b o h _ _ => s b o h
/-- a ledger stands at p, its dict at d, its list at l; it gave out the sums of L -/
structure LedAt (w : World) (C : Addr) (H : Hp) (p d l : Addr) (L : List Th) : Prop where
  ob : ∃ (dx : Addr) (fs : List (Str × V)), H p = some (.ins C dx fs) ∧ fs.lookup ("_sums" : Str) = some (V.ref d) ∧ fs.lookup ("_told" : Str) = some (V.ref l) ∧ ∀ m : Str, m ≠ "_sums" → m ≠ "_told" → fs.lookup m = none
  dm : DM w H d (numb L)
  tl : ∃ vs, H l = some (.lst vs) ∧ Paired (IsTh H) L vs
section
variable {w : World} {C : Addr} {H H' : Hp} {p d l : Addr} {L : List Th}
theorem LedAt.nd (h : LedAt w C H p d l L) : L.Nodup := by
  have := h.dm.2.2.1
  rw [numb_keys] at this
  exact this
theorem LedAt.dl (h : LedAt w C H p d l L) : d ≠ l := by
  obtain ⟨_, _, _, E, e, _⟩ := h.dm
  obtain ⟨vs, e2, _⟩ := h.tl
  exact ne_of e e2 (by intro z; cases z)
theorem LedAt.pd (h : LedAt w C H p d l L) : p ≠ d := by
  obtain ⟨_, _, _, E, e, _⟩ := h.dm
  obtain ⟨_, _, e2, _⟩ := h.ob
  exact ne_of e2 e (by intro z; cases z)
theorem LedAt.pl (h : LedAt w C H p d l L) : p ≠ l := by
  obtain ⟨vs, e, _⟩ := h.tl
  obtain ⟨_, _, e2, _⟩ := h.ob
  exact ne_of e2 e (by intro z; cases z)
/-- the tuples stay where d and l alone change -/
theorem Keep.tups (k : Keep H H' d l) {o u : HO} (hd : H d = some o) (ho : ∀ xs, o ≠ .tup xs) (hl : H l = some u) (hu : ∀ xs, u ≠ .tup xs) : ∀ b xs, H b = some (.tup xs) → H' b = some (.tup xs) := fun b xs e =>
  k b _ e (ne_of e hd fun z => ho xs z.symm) (ne_of e hl fun z => hu xs z.symm)
theorem LedAt.tups (h : LedAt w C H p d l L) (k : Keep H H' d l) : ∀ b xs, H b = some (.tup xs) → H' b = some (.tup xs) := by
  obtain ⟨_, _, _, E, e, _⟩ := h.dm
  obtain ⟨vs, e2, _⟩ := h.tl
  exact k.tups e (fun _ z => nomatch z) e2 (fun _ z => nomatch z)
/-- it stands as it was where none of it has changed -/
theorem LedAt.same (h : LedAt w C H p d l L) (s : Same H H') : LedAt w C H' p d l L := by
  obtain ⟨⟨dx, fs, h1, h2⟩, hd, vs, h3, h4⟩ := h
  have ⟨_, _, _, E, e, _⟩ := hd
  have t : ∀ b xs, H b = some (.tup xs) → H' b = some (.tup xs) := fun b xs z => s b _ z
  exact ⟨⟨dx, fs, s _ _ h1, h2⟩, hd.keep ((s _ _ e).trans e.symm) t, vs, s _ _ h3, Paired.mapP h4 fun _ _ z => z.keep t⟩
/-- the same where another ledger's dict and list have changed -/
theorem LedAt.other {d' l' : Addr} (h : LedAt w C H p d l L) (k : Keep H H' d' l') (h1 : d ≠ d') (h2 : d ≠ l') (h3 : l ≠ d') (h4 : l ≠ l') (h5 : p ≠ d') (h6 : p ≠ l') (t : ∀ b xs, H b = some (.tup xs) → H' b = some (.tup xs)) : LedAt w C H' p d l L := by
  obtain ⟨⟨dx, fs, e1, e2⟩, hd, vs, e3, e4⟩ := h
  have ⟨_, _, _, E, e, _⟩ := hd
  exact ⟨⟨dx, fs, k _ _ e1 h5 h6, e2⟩, hd.keep ((k _ _ e h1 h2).trans e.symm) t, vs, k _ _ e3 h3 h4, Paired.mapP e4 fun _ _ z => z.keep t⟩
end
theorem pair_at {α β : Type} {F : α → β → Prop} {xs : List α} {ys : List β} (h : Paired F xs ys) {i : Nat} {x : α} (hx : xs[i]? = some x) : ∃ y, ys[i]? = some y ∧ F x y := by
  induction h generalizing i with
  | nil => simp at hx
  | @cons a b l m hf _ ih =>
    cases i with
    | zero =>
      have e : a = x := Option.some.inj hx
      exact ⟨b, rfl, e ▸ hf⟩
    | succ i => exact ih hx
/-- the class as the top has made it -/
structure TLed (K : PySem.W.Frag) (mg : Str → Option Value) (C : Addr) : Prop where
  cl : Cls K C
  nS : NoAttr K C "_sums"
  nT : NoAttr K C "_told"
  g : mg "Ledger" = some (.ref C)
/-! ### its promises -/
def spInit (w : World) (C : Addr) : Sp := fun vs H Q _ => ∃ (p dx : Addr), vs = [.ref p] ∧ H p = some (.ins C dx []) ∧ ∀ (d l : Addr) (H' : Hp), H d = none → H l = none → LedAt w C H' p d l [] → (∀ b o, H b = some o → b ≠ p → H' b = some o) → Q .non H'
def spSum (w : World) (C : Addr) : Sp := fun vs H Q _ => ∃ (p d l : Addr) (L : List Th) (t : Th) (y : V), vs = [.ref p, y] ∧ LedAt w C H p d l L ∧ IsTh H t y ∧ L.length < 1000000 ∧
  ∀ H', Keep H H' d l → LedAt w C H' p d l (give L t) → Q (.int ((numOf L t : Nat) : Int)) H'
/-- which number it is, if it is one that was given out -/
def gaveV (L : List Th) : V → Option Nat
  | .int i => if 0 ≤ i ∧ i < L.length then some i.toNat else none
  | _ => none
def spGave (w : World) (C : Addr) : Sp := fun vs H Q _ => ∃ (p d l : Addr) (L : List Th) (y : V), vs = [.ref p, y] ∧ LedAt w C H p d l L ∧ AnyV H y ∧ L.length < 1000000 ∧ Q (.bl (gaveV L y).isSome) H
def spMany (w : World) (C : Addr) : Sp := fun vs H Q _ => ∃ (p d l : Addr) (L : List Th), vs = [.ref p] ∧ LedAt w C H p d l L ∧ Q (.int (L.length : Int)) H
def spOfRow (w : World) (C cR : Addr) : Sp := fun vs H Q E => ∃ (p d l : Addr) (L : List Th) (y : V), vs = [.ref p, y] ∧ LedAt w C H p d l L ∧ AnyV H y ∧ L.length < 1000000 ∧
  (∀ x, y = .str x → rowStr x = true → ∀ H', Keep H H' d l → LedAt w C H' p d l (give L (.row x)) → Q (.int ((numOf L (.row x) : Nat) : Int)) H') ∧ (rowV y = false → ∀ H', Same H H' → E (.ref cR) none H')
def spOfPair (w : World) (C cS : Addr) : Sp := fun vs H Q E => ∃ (p d l : Addr) (L : List Th) (y z : V), vs = [.ref p, y, z] ∧ LedAt w C H p d l L ∧ AnyV H y ∧ AnyV H z ∧ L.length < 1000000 ∧
  (∀ i j : Nat, gaveV L y = some i → gaveV L z = some j → ∀ H', Keep H H' d l → LedAt w C H' p d l (give L (.pair i j)) → Q (.int ((numOf L (.pair i j) : Nat) : Int)) H') ∧ ((gaveV L y = none ∨ gaveV L z = none) → E (.ref cS) none H)
def spWhat (w : World) (C cS : Addr) : Sp := fun vs H Q E => ∃ (p d l : Addr) (L : List Th) (y : V), vs = [.ref p, y] ∧ LedAt w C H p d l L ∧ AnyV H y ∧ L.length < 1000000 ∧
  (∀ i t v, gaveV L y = some i → L[i]? = some t → IsTh H t v → Q v H) ∧ (gaveV L y = none → E (.ref cS) none H)
theorem gave_out {L : List Th} {i : Int} (h : ¬ (0 ≤ i ∧ i < (L.length : Int))) : gaveV L (.int i) = none := if_neg h
theorem gave_some {L : List Th} {y : V} {i : Nat} (h : gaveV L y = some i) : y = .int (i : Int) ∧ i < L.length := by
  unfold gaveV at h
  split at h
  · split at h
    · rename_i j hj
      have e := Option.some.inj h
      constructor
      · rw [← e, Int.toNat_of_nonneg hj.1]
      · omega
    · cases h
  · cases h
section
variable {P : Program} {w : World} {K : PySem.W.Frag} {mg : Str → Option Value} {base : Heap} {C cR cS : Addr}
theorem ok_init (D : Mth K C "__init__" "Ledger.__init__" s_Ledger___init__ ["self"]) (T_Ledger : TLed K mg C) : MOk P w K mg base CX0 C "__init__" 1 ["self"] (spInit w C) := by
  refine m_mk D sc_Ledger___init__ (fun vs H Q E h => ?_) (fun f cdv A outer s H vs Q E hr h => ?_)
  · obtain ⟨p, dx, rfl, _⟩ := h
    rfl
  · obtain ⟨p, dx, rfl, hp, q⟩ := h
    refine ⟨_, (pss_cons (ps_fld (pv 0) pe_newM rfl)
      (pss_one (ps_fld (pv 0) (pe_lst pa_nil) rfl))), ?_⟩
    refine fun d hd hdm => ?_
    have npd : p ≠ d := ne_of_none hp hd
    refine ⟨_, rfl, p, C, dx, [], rfl, (by rw [upd_ne npd]; exact hp), T_Ledger.cl, T_Ledger.nS, (by show 0 < 1000; decide), ?_⟩
    refine ⟨Nat.zero_le _, fun l hl => ?_⟩
    have npl : p ≠ l := by
      intro z
      rw [← z, upd_same] at hl
      cases hl
    have ndl : d ≠ l := by
      intro z
      rw [← z, upd_ne npd.symm, upd_same] at hl
      cases hl
    refine ⟨_, rfl, p, C, dx, _, rfl, (by rw [upd_ne npl, upd_same]), T_Ledger.cl, T_Ledger.nT, (by show 1 < 1000; decide), ?_⟩
    refine q d l _ hd ?_ ⟨⟨dx, _, upd_same, ?_, ?_, ?_⟩, ?_, [], ?_, .nil⟩ ?_
    · rw [upd_ne npl.symm, upd_ne ndl.symm] at hl
      exact hl
    · rw [lookup_putF, if_neg (by decide +kernel), lookup_putF, if_pos rfl]
    · rw [lookup_putF, if_pos rfl]
    · intro m h1 h2
      rw [lookup_putF, if_neg h2, lookup_putF, if_neg h1]
      rfl
    · refine hdm.keep ?_ fun b xs e => ?_
      · rw [upd_ne npd.symm, upd_ne ndl, upd_ne npd.symm]
      · have h1 : b ≠ d := by
          intro z
          rw [z, upd_same] at e
          cases e
        rw [upd_ne h1] at e
        have h2 : b ≠ p := ne_of e hp (by intro z; cases z)
        have h3 : b ≠ l := by
          intro z
          rw [← z, upd_ne h2, upd_ne h1] at hl
          rw [e] at hl
          cases hl
        rw [upd_ne h2, upd_ne h3, upd_ne h2, upd_ne h1]
        exact e
    · rw [upd_ne npl.symm, upd_same]
    · intro b o e hb
      have h1 : b ≠ d := ne_of_none e hd
      have h3 : b ≠ l := by
        intro z
        rw [← z, upd_ne hb, upd_ne h1] at hl
        rw [e] at hl
        cases hl
      rw [upd_ne hb, upd_ne h3, upd_ne hb, upd_ne h1]
      exact e
theorem ok_sum (D : Mth K C "_sum_of" "Ledger._sum_of" s_Ledger__sum_of ["self", "thing"]) (T_Ledger : TLed K mg C) (B : Bi mg) : MOk P w K mg base CX0 C "_sum_of" 1 ["self", "thing"] (spSum w C) := by
  refine m_mk D sc_Ledger__sum_of (fun vs H Q E h => ?_) (fun f cdv A outer s H vs Q E hr h => ?_)
  · obtain ⟨p, d, l, L, t, y, rfl, _⟩ := h
    rfl
  · obtain ⟨p, d, l, L, t, y, rfl, hL, ht, hlen, q⟩ := h
    refine ⟨_, (pss_cons (ps_if (pt_cmp (pc_notInM (hu9 hr) (pv 1) (pe_fld (pv 0) rfl))) (pss_cons (ps_putM (hu9 hr) (pe_fld (pv 0) rfl) (pv 1) (pe_callB (id := "len") call_len_seq (by rfl) B.len (by decide +kernel) (pa_cons (pe_fld (pv 0) rfl) pa_nil)) rfl)
      (pss_one (ps_expr (pe_bm PySem.F.plainAttrs_list PySem.F.slot_list_append PySem.F.type_list_append mt_append (pe_fld (pv 0) rfl) (pa_cons (pv 1) pa_nil))))) pss_nil)
      (pss_one (ps_ret (pe_getM (hu9 hr) (pe_fld (pv 0) rfl) (pv 1) (fun _ _ => rfl))))), ?_⟩
    obtain ⟨dx, fs, hp, hfS, hfT, hno⟩ := hL.ob
    obtain ⟨vs, hl, hvs⟩ := hL.tl
    have hlv : vs.length = L.length := (Paired.length hvs).symm
    refine ⟨_, rfl, _, rfl, p, C, dx, fs, _, rfl, hp, T_Ledger.cl, T_Ledger.nS, hfS, d, numb L, t, rfl, hL.dm, ht, _, rfl, ?_⟩
    rw [look_numb]
    by_cases hm : t ∈ L
    · rw [if_pos hm]
      refine iteF ?_
      refine ⟨_, rfl, p, C, dx, fs, _, rfl, hp, T_Ledger.cl, T_Ledger.nS, hfS, _, rfl, d, numb L, t, .int ((L.idxOf t : Nat) : Int), rfl, hL.dm, ht, ?_, ?_⟩
      · rw [look_numb, if_pos hm]
      · have e := q H (Keep.refl H d l)
        unfold give at e
        rw [if_pos hm, numOf_old hm] at e
        exact e hL
    · rw [if_neg hm]
      refine iteT ?_
      -- self._sums[thing] = len(self._told)
      refine ⟨_, rfl, p, C, dx, fs, _, rfl, hp, T_Ledger.cl, T_Ledger.nT, hfT, l, vs, rfl, .inl (SqL.of hl), ?_⟩
      refine ⟨_, rfl, p, C, dx, fs, _, rfl, hp, T_Ledger.cl, T_Ledger.nS, hfS, _, rfl, d, numb L, t, rfl, hL.dm, ht, ?_, ?_, fun H4 hE hdm => ?_⟩
      · rw [look_numb, if_neg hm]
      · rw [numb_len]
        exact Nat.lt_of_lt_of_le hlen (by decide)
      obtain ⟨E4, rfl⟩ := hE
      have npd := hL.pd
      have npl := hL.pl
      have ndl := hL.dl
      have hp4 : ∀ o, (upd H d o) p = some (.ins C dx fs) := fun o => by rw [upd_ne npd]; exact hp
      have hl4 : ∀ o, (upd H d o) l = some (.lst vs) := fun o => by rw [upd_ne ndl.symm]; exact hl
      rw [hlv, ← numb_snoc] at hdm
      -- self._told.append(thing)
      refine ⟨_, rfl, p, C, dx, fs, _, rfl, hp4 _, T_Ledger.cl, T_Ledger.nT, hfT, .inl ⟨rfl, _, SqL.of (hl4 _)⟩, _, rfl, l, vs, y, rfl, rfl, hl4 _, ?_, ?_⟩
      · rw [hlv]
        exact Nat.lt_of_lt_of_le hlen (by decide)
      -- return self._sums[thing]
      have hk : ∀ b o, H b = some o → b ≠ d → b ≠ l → (upd (upd H d (.ext (Raw w d E4))) l (.lst (vs ++ [y]))) b = some o := fun b o e h1 h2 => by
        rw [upd_ne h2, upd_ne h1]
        exact e
      have tk := hL.tups hk
      have tk4 : ∀ b xs, (upd H d (.ext (Raw w d E4))) b = some (.tup xs) → (upd (upd H d (.ext (Raw w d E4))) l (.lst (vs ++ [y]))) b = some (.tup xs) := fun b xs e => by
        rw [upd_ne (ne_of e (hl4 _) (by intro z; cases z))]
        exact e
      have hdm5 := hdm.keep (H' := upd (upd H d (.ext (Raw w d E4))) l (.lst (vs ++ [y]))) (upd_ne ndl) tk4
      have hp5 : (upd (upd H d (.ext (Raw w d E4))) l (.lst (vs ++ [y]))) p = some (.ins C dx fs) := by
        rw [upd_ne npl]
        exact hp4 _
      have ht5 := ht.keep tk
      refine ⟨_, rfl, p, C, dx, fs, _, rfl, hp5, T_Ledger.cl, T_Ledger.nS, hfS, _, rfl, d, numb (L ++ [t]), t, .int ((numOf L t : Nat) : Int), rfl, hdm5, ht5, ?_, ?_⟩
      · rw [look_numb, if_pos (by simp)]
        unfold numOf give
        rw [if_neg hm]
      · refine q _ hk ?_
        unfold give
        rw [if_neg hm]
        exact ⟨⟨dx, fs, hp5, hfS, hfT, hno⟩, hdm5, _, upd_same, Paired.snoc (Paired.mapP hvs fun _ _ z => z.keep tk) ht5⟩
theorem ok_many (D : Mth K C "many" "Ledger.many" s_Ledger_many ["self"]) (T_Ledger : TLed K mg C) (B : Bi mg) : MOk P w K mg base CX0 C "many" 1 ["self"] (spMany w C) := by
  refine m_mk D sc_Ledger_many (fun vs H Q E h => ?_) (fun f cdv A outer s H vs Q E hr h => ?_)
  · obtain ⟨p, d, l, L, rfl, _⟩ := h
    rfl
  · obtain ⟨p, d, l, L, rfl, hL, q⟩ := h
    refine ⟨_, (pss_one (ps_ret (pe_callB (id := "len") call_len_seq (by rfl) B.len (by decide +kernel) (pa_cons (pe_fld (pv 0) rfl) pa_nil)))), ?_⟩
    obtain ⟨dx, fs, hp, hfS, hfT, hno⟩ := hL.ob
    obtain ⟨vs, hl, hvs⟩ := hL.tl
    refine ⟨_, rfl, p, C, dx, fs, _, rfl, hp, T_Ledger.cl, T_Ledger.nT, hfT, l, vs, rfl, .inl (SqL.of hl), ?_⟩
    rw [← Paired.length hvs]
    exact q
theorem ok_gave (D : Mth K C "_gave_out" "Ledger._gave_out" s_Ledger__gave_out ["self", "thing"]) (T_Ledger : TLed K mg C) (B : Bi mg) (C_is_whole : COk P w K mg base CX0 "is_whole" 1 ["thing"] spIsWhole) : MOk P w K mg base CX0 C "_gave_out" 2 ["self", "thing"] (spGave w C) := by
  refine m_mk D sc_Ledger__gave_out (fun vs H Q E h => ?_) (fun f cdv A outer s H vs Q E hr h => ?_)
  · obtain ⟨p, d, l, L, y, rfl, _⟩ := h
    rfl
  · obtain ⟨p, d, l, L, y, rfl, hL, hy, hlen, q⟩ := h
    refine ⟨_, (pss_one (ps_ret (pe_and (pe_c C_is_whole hr (by rfl) (pa_cons (pv 1) pa_nil)) (pe_one (pe_chain op_le op_lt pe_int (pv 1) (pe_callB (id := "len") call_len_seq (by rfl) B.len (by decide +kernel) (pa_cons (pe_fld (pv 0) rfl) pa_nil))))))), ?_⟩
    obtain ⟨dx, fs, hp, hfS, hfT, hno⟩ := hL.ob
    obtain ⟨vs, hl, hvs⟩ := hL.tl
    refine ⟨_, rfl, y, rfl, hy, wholeV y, rfl, ?_⟩
    cases hy with
    | int i =>
      refine iteT ?_
      refine ⟨_, rfl, 0, i, rfl, rfl, _, rfl, ite2 (fun e => ?_) (fun e => ?_)⟩
      · have h0 := of_decide_eq_true e
        refine ⟨_, rfl, p, C, dx, fs, _, rfl, hp, T_Ledger.cl, T_Ledger.nT, hfT, l, vs, rfl, .inl (SqL.of hl), i, _, rfl, rfl, ?_⟩
        rw [← Paired.length hvs]
        by_cases h1 : i < (L.length : Int)
        · have e1 : gaveV L (.int i) = some i.toNat := if_pos ⟨h0, h1⟩
          rw [e1] at q
          show Q (.bl (decide (i < (L.length : Int)))) H
          rw [decide_eq_true h1]
          exact q
        · have e1 : gaveV L (.int i) = none := if_neg fun z => h1 z.2
          rw [e1] at q
          show Q (.bl (decide (i < (L.length : Int)))) H
          rw [decide_eq_false h1]
          exact q
      · have h0 : ¬ 0 ≤ i := fun z => e (decide_eq_true z)
        have e1 : gaveV L (.int i) = none := if_neg fun z => h0 z.1
        rw [e1] at q
        exact q
    | bl b => exact iteF q
    | str x hx => exact iteF q
    | non => exact iteF q
    | tup ht => exact iteF q
theorem ok_of_row (D : Mth K C "of_row" "Ledger.of_row" s_Ledger_of_row ["self", "row"]) (T_Ledger : TLed K mg C) (C_check_row : COk P w K mg base (L2.CX P w) "check_row" 2 ["thing"] (spCheckRow cR)) (M_Ledger__sum_of : MOk P w K mg base CX0 C "_sum_of" 1 ["self", "thing"] (spSum w C)) :
    MOk P w K mg base (L2.CX P w) C "of_row" 3 ["self", "row"] (spOfRow w C cR) := by
  obtain ⟨f_Ledger__sum_of, d_Ledger__sum_of, G_Ledger__sum_of, m_Ledger__sum_of, b_Ledger__sum_of⟩ := M_Ledger__sum_of.ex
  refine m_mkX D sc_Ledger_of_row (fun vs H Q E h => ?_) (fun f cdv A outer s H vs Q E hr h => ?_)
  · obtain ⟨p, d, l, L, y, rfl, _⟩ := h
    rfl
  · obtain ⟨p, d, l, L, y, rfl, hL, hy, hlen, q1, q2⟩ := h
    refine ⟨_, (pss_cons (ps_expr (pe_cx C_check_row (passUp (takes_of rfl rfl rfl rfl)) hr (by rfl) (pa_cons (pv 1) pa_nil)))
      (pss_one (ps_ret (pe_meth (pv 0) T_Ledger.cl m_Ledger__sum_of G_Ledger__sum_of (hr.mono (by decide)) b_Ledger__sum_of .nil pass0 (pa_cons (pv 1) pa_nil))))), ?_⟩
    refine ⟨_, rfl, y, rfl, hy, fun hb H' sm => ?_, fun hb H' sm => q2 hb H' sm⟩
    cases hy with
    | str x hx =>
      have hL' := hL.same sm
      obtain ⟨dx, fs, hp, hfS, hfT, hno⟩ := hL'.ob
      refine ⟨_, rfl, p, dx, fs, rfl, hp, hno _ (by decide +kernel) (by decide +kernel), _, rfl, p, d, l, L, .row x, _, rfl, hL', rfl, hlen, fun H2 kp hL2 => ?_⟩
      exact q1 x rfl hb H2 (fun b o e h1 h2 => kp b o (sm b o e) h1 h2) hL2
    | int i => cases hb
    | bl b => cases hb
    | non => cases hb
    | tup ht => cases hb
theorem ok_of_pair (D : Mth K C "of_pair" "Ledger.of_pair" s_Ledger_of_pair ["self", "one", "other"]) (T_Ledger : TLed K mg C) (B : Bi mg) (X_NoSum : ExT K mg "NoSum" cS) (M_Ledger__gave_out : MOk P w K mg base CX0 C "_gave_out" 2 ["self", "thing"] (spGave w C))
    (M_Ledger__sum_of : MOk P w K mg base CX0 C "_sum_of" 1 ["self", "thing"] (spSum w C)) : MOk P w K mg base (L2.CX P w) C "of_pair" 3 ["self", "one", "other"] (spOfPair w C cS) := by
  obtain ⟨f_Ledger__gave_out, d_Ledger__gave_out, G_Ledger__gave_out, m_Ledger__gave_out, b_Ledger__gave_out⟩ := M_Ledger__gave_out.ex
  obtain ⟨f_Ledger__sum_of, d_Ledger__sum_of, G_Ledger__sum_of, m_Ledger__sum_of, b_Ledger__sum_of⟩ := M_Ledger__sum_of.ex
  refine m_mkX D sc_Ledger_of_pair (fun vs H Q E h => ?_) (fun f cdv A outer s H vs Q E hr h => ?_)
  · obtain ⟨p, d, l, L, y, z, rfl, _⟩ := h
    rfl
  · obtain ⟨p, d, l, L, y, z, rfl, hL, hy, hz, hlen, q1, q2⟩ := h
    refine ⟨_, (pss_cons (ps_if ((pw_or (pt_not (pt_val (pe_meth (pv 0) T_Ledger.cl m_Ledger__gave_out G_Ledger__gave_out (hr.mono (by decide)) b_Ledger__gave_out .nil pass0 (pa_cons (pv 1) pa_nil)))) (pw_or1 (pt_not (pt_val (pe_meth (pv 0) T_Ledger.cl m_Ledger__gave_out G_Ledger__gave_out (hr.mono (by decide)) b_Ledger__gave_out .nil pass0 (pa_cons (pv 2) pa_nil))))))).pt (pss_one (ps_own X_NoSum rfl (takes_of rfl rfl rfl rfl) (by rfl))) pss_nil)
      (pss_one (ps_ret (pe_meth (pv 0) T_Ledger.cl m_Ledger__sum_of G_Ledger__sum_of (hr.mono (by decide)) b_Ledger__sum_of .nil pass0 (pa_cons (pe_tup (pa_cons (pv 1) (pa_cons (pv 2) pa_nil))) pa_nil))))), ?_⟩
    obtain ⟨dx, fs, hp, hfS, hfT, hno⟩ := hL.ob
    refine ⟨_, rfl, p, dx, fs, rfl, hp, hno _ (by decide +kernel) (by decide +kernel), _, rfl, p, d, l, L, y, rfl, hL, hy, hlen, _, rfl, ?_⟩
    cases g1 : gaveV L y with
    | none => exact iteT (q2 (.inl g1))
    | some i =>
      refine iteF ?_
      refine ⟨_, rfl, p, dx, fs, rfl, hp, hno _ (by decide +kernel) (by decide +kernel), _, rfl, p, d, l, L, z, rfl, hL, hz, hlen, _, rfl, ?_⟩
      cases g2 : gaveV L z with
      | none => exact iteT (q2 (.inr g2))
      | some j =>
        refine iteF ?_
        obtain ⟨rfl, hi⟩ := gave_some g1
        obtain ⟨rfl, hj⟩ := gave_some g2
        refine ⟨_, rfl, p, dx, fs, rfl, hp, hno _ (by decide +kernel) (by decide +kernel), _, rfl, _, rfl, (by show 2 ≤ sizeLine; decide), fun t ht => ?_⟩
        have sm : Same H (upd H t (.tup [.int (i : Int), .int (j : Int)])) := fun b o e => by
          rw [upd_ne (ne_of_none e ht)]
          exact e
        refine ⟨p, d, l, L, .pair i j, .ref t, rfl, hL.same sm, ⟨t, rfl, upd_same⟩, hlen, fun H2 kp hL2 => ?_⟩
        exact q1 i j g1 g2 H2 (fun b o e h1 h2 => kp b o (sm b o e) h1 h2) hL2
end

/-! ### texts that are rows -/
/-- at most n signs, all of them signs of rows -/
def okS (n : Nat) (x : Str) : Prop := x.length ≤ n ∧ ∀ c ∈ x.cps.toList, c ∈ signS.cps.toList
theorem len_list (x : Str) : x.length = x.cps.toList.length := by simp [Str.length]
theorem okS_row {x : Str} (h : okS 40 x) : rowStr x = true := by
  unfold rowStr
  rw [decide_eq_true h.1, Bool.true_and, List.all_eq_true]
  exact fun c hc => decide_eq_true (h.2 c hc)
theorem row_okS {x : Str} (h : rowStr x = true) : okS 40 x := by
  unfold rowStr at h
  rw [Bool.and_eq_true, List.all_eq_true] at h
  exact ⟨of_decide_eq_true h.1, fun c hc => of_decide_eq_true (h.2 c hc)⟩
theorem okS_mono {n m : Nat} {x : Str} (h : okS n x) (hm : n ≤ m) : okS m x := ⟨Nat.le_trans h.1 hm, h.2⟩
theorem app_cps (x y : Str) : (x ++ y).cps.toList = x.cps.toList ++ y.cps.toList := by
  show (x.cps ++ y.cps).toList = _
  rw [Array.toList_append]
theorem app_len (x y : Str) : (x ++ y).length = x.length + y.length := by rw [len_list, app_cps, List.length_append, ← len_list, ← len_list]
theorem okS_app {n m : Nat} {x y : Str} (h : okS n x) (g : okS m y) : okS (n + m) (x ++ y) := by
  refine ⟨by rw [app_len]; exact Nat.add_le_add h.1 g.1, fun c hc => ?_⟩
  rw [app_cps] at hc
  rcases List.mem_append.mp hc with z | z
  · exact h.2 c z
  · exact g.2 c z
theorem okS_sign {c : Nat} (h : c ∈ signS.cps.toList) : okS 1 (⟨#[c]⟩ : Str) := ⟨Nat.le_refl 1, fun d hd => by
  have : d = c := by simpa using hd
  rw [this]
  exact h⟩
theorem cut_to (x : Str) (k : Nat) : (cutS x none (some (k : Int))).cps.toList = x.cps.toList.take k := by
  unfold cutS
  rw [HT.sIx_none, HT.sIx_nat, List.drop_zero, Nat.sub_zero]
  show (x.cps.toList.take (min k x.length)) = _
  rw [len_list]
  by_cases h : k ≤ x.cps.toList.length
  · rw [Nat.min_eq_left h]
  · rw [Nat.min_eq_right (by omega), List.take_length, List.take_of_length_le (by omega)]
theorem cut_from (x : Str) (k : Nat) : (cutS x (some (k : Int)) none).cps.toList = x.cps.toList.drop k := by
  unfold cutS
  rw [HT.sIx_none, HT.sIx_nat, len_list]
  show ((x.cps.toList.drop (min k x.cps.toList.length)).take (x.cps.toList.length - min k x.cps.toList.length)) = _
  by_cases h : k ≤ x.cps.toList.length
  · rw [Nat.min_eq_left h, List.take_of_length_le (by rw [List.length_drop]; exact Nat.le_refl _)]
  · rw [Nat.min_eq_right (by omega), List.drop_length, List.drop_eq_nil_of_le (by omega), List.take_nil]
theorem okS_to {n : Nat} {x : Str} (h : okS n x) (k : Nat) : okS k (cutS x none (some (k : Int))) := by
  refine ⟨by rw [len_list, cut_to, List.length_take]; exact Nat.min_le_left _ _, fun c hc => ?_⟩
  rw [cut_to] at hc
  exact h.2 c (List.mem_of_mem_take hc)
theorem okS_from {n : Nat} {x : Str} (h : okS n x) (k : Nat) : okS (x.length - k) (cutS x (some (k : Int)) none) := by
  refine ⟨by rw [len_list, cut_from, List.length_drop, ← len_list]; exact Nat.le_refl _, fun c hc => ?_⟩
  rw [cut_from] at hc
  exact h.2 c (List.mem_of_mem_drop hc)
theorem digit_sign : ∀ c < 58, 48 ≤ c → c ∈ signS.cps.toList := by decide +kernel
theorem okS_num (n : Nat) (h : n < 10 ^ 10) : okS 10 (Str.ofString (toString ((n : Nat) : Int))) := by
  refine ⟨PySem.W.KT.len_num (by omega) (by omega), fun c hc => ?_⟩
  rw [PySem.W.KIN.signs_num] at hc
  obtain ⟨d, hd, rfl⟩ := List.mem_map.mp hc
  have h1 := Nat.isDigit_of_mem_toDigits (by decide) (by decide) hd
  unfold Char.isDigit at h1
  rw [Bool.and_eq_true] at h1
  have h2 := of_decide_eq_true h1.1
  have h3 := of_decide_eq_true h1.2
  have e0 : ('0' : Char).toNat = 48 := rfl
  have e9 : ('9' : Char).toNat = 57 := rfl
  have a : 48 ≤ d.toNat := h2
  have b : d.toNat ≤ 57 := h3
  exact digit_sign _ (by omega) a
theorem sign_at {i : Nat} (h : i < 37) : ∃ c, signS.cps.toList[i]? = some c ∧ c ∈ signS.cps.toList := by
  have hl : signS.cps.toList.length = 37 := by decide +kernel
  exact ⟨signS.cps.toList[i]'(by omega), List.getElem?_eq_getElem _, List.getElem_mem _⟩
theorem mod_nat {x m : Int} (hm : 0 < m) : ∃ n : Nat, x % m = (n : Int) ∧ (n : Int) < m := by
  have h1 := Int.emod_nonneg x (by omega : m ≠ 0)
  have h2 := Int.emod_lt_of_pos x hm
  exact ⟨(x % m).toNat, by omega, by omega⟩
theorem at_mod {xs : List V} {c m : Int} (h : m = (xs.length : Int)) (h0 : 0 < m) : ∃ v, v ∈ xs ∧ atI xs (c % m) = some v := by
  obtain ⟨n, e, hn⟩ := mod_nat (x := c) h0
  have hl : n < xs.length := by omega
  refine ⟨xs[n], List.getElem_mem hl, ?_⟩
  rw [e]
  exact atI_nat (List.getElem?_eq_getElem hl)
theorem sl40 {n : Nat} (h : n ≤ 1000000) : n ≤ sizeLine := Nat.le_trans h (by decide)
/-! ### _law_mix -/
def mixF (n k : Int) : Int := ((n * 48271 + k * 69621 + 11) % 1000003 * ((n * 48271 + k * 69621 + 11) % 1000003) + 7 * ((n * 48271 + k * 69621 + 11) % 1000003) + k) % 999983
theorem mixF_nat (n k : Int) : ∃ m : Nat, mixF n k = (m : Int) ∧ m < 999983 := by
  obtain ⟨m, h1, h2⟩ := mod_nat (x := (n * 48271 + k * 69621 + 11) % 1000003 * ((n * 48271 + k * 69621 + 11) % 1000003) + 7 * ((n * 48271 + k * 69621 + 11) % 1000003) + k) (m := 999983) (by decide)
  exact ⟨m, h1, by omega⟩
def spMix : Sp := fun vs H Q _ => ∃ n k : Int, vs = [.int n, .int k] ∧ Q (.int (mixF n k)) H
def spText : Sp := fun vs H Q _ => ∃ c : Int, vs = [.int c] ∧ ∀ x H', okS 40 x → Same H H' → Q (.str x) H'
def spNear : Sp := fun vs H Q _ => ∃ (x : Str) (c : Int), vs = [.str x, .int c] ∧ okS 40 x ∧ ∀ y, okS 40 y → Q (.str y) H
def spRoom (K : PySem.W.Frag) : Sp := fun vs H Q _ => ∃ (a : Addr) (ns : List Int) (x y : Int), vs = [.ref a, .int x, .int y] ∧ SqL K H a (ns.map V.int) ∧ ns.length ≤ 63 ∧ Q (.int x) H
section
variable {P : Program} {w : World} {K : PySem.W.Frag} {mg : Str → Option Value} {base : Heap}
theorem ok_law_whole (D : Dfn K mg "_law_whole" s_law_whole ["_law_found"]) (B : Bi mg) : COk P w K mg base CX0 "_law_whole" 1 ["_law_found"] spIsWhole := by
  refine c_mk D sc_law_whole (fun vs H Q E h => ?_) (fun f cdv A outer s H vs Q E hr h => ?_)
  · obtain ⟨v, rfl, _⟩ := h
    rfl
  · obtain ⟨v, rfl, hv, q⟩ := h
    refine ⟨_, (pss_one (ps_ret (pe_and (pe_callB (id := "isinstance") call_isi (by rfl) B.isinstance (by decide +kernel) (pa_cons (pv 0) (pa_cons (pe_bltn (v := .ty "int") (u := .type "int") (by rfl) B.int (by decide +kernel) rfl) pa_nil))) (pe_one (pe_not (pe_callB (id := "isinstance") call_isi (by rfl) B.isinstance (by decide +kernel) (pa_cons (pv 0) (pa_cons (pe_bltn (v := .ty "bool") (u := .type "bool") (by rfl) B.bool (by decide +kernel) rfl) pa_nil)))))))), ?_⟩
    refine ⟨_, rfl, v, .ty "int", _, _, intB v, rfl, .ty "int", hv.tyX, kit_ty (kit_int hv), intB v, rfl, ?_⟩
    rw [← whole_eq hv] at q
    cases hi : intB v with
    | false =>
      rw [hi] at q
      exact iteF q
    | true =>
      rw [hi] at q
      refine iteT ?_
      exact ⟨_, rfl, v, .ty "bool", _, _, boolB v, rfl, .ty "bool", hv.tyX, kit_ty (kit_bool hv), boolB v, rfl, q⟩
theorem ok_mix (D : Dfn K mg "_law_mix" s_law_mix ["_law_number", "_law_k"]) : COk P w K mg base CX0 "_law_mix" 1 ["_law_number", "_law_k"] spMix := by
  refine c_mk D sc_law_mix (fun vs H Q E h => ?_) (fun f cdv A outer s H vs Q E hr h => ?_)
  · obtain ⟨n, k, rfl, _⟩ := h
    rfl
  · obtain ⟨n, k, rfl, q⟩ := h
    refine ⟨_, (pss_cons (ps_set (i := 2) sc_law_mix.nd rfl (.inl rfl) (pe_op op_mod (pe_op op_add (pe_op op_add (pe_op op_mul (pv 0) pe_int) (pe_op op_mul (pv 1) pe_int)) pe_int) pe_int))
      (pss_one (ps_ret (pe_op op_mod (pe_op op_add (pe_op op_add (pe_op op_mul (pv 2) (pv 2)) (pe_op op_mul pe_int (pv 2))) (pv 1)) pe_int)))), ?_⟩
    refine ⟨_, rfl, _, _, rfl, rfl, .inr ⟨by decide, by decide⟩, _, rfl, _, _, rfl, rfl, .inr ⟨by decide, by decide⟩, _, _, rfl, rfl, _, _, rfl, rfl, _, _, rfl, rfl, (by show (0 : Int) < 1000003; decide), ?_⟩
    have h1 : 0 ≤ (n * 48271 + k * 69621 + 11) % 1000003 := Int.emod_nonneg _ (by decide)
    have h2 : (n * 48271 + k * 69621 + 11) % 1000003 < 1000003 := Int.emod_lt_of_pos _ (by decide)
    refine ⟨_, rfl, _, rfl, _, _, rfl, rfl, .inl ⟨by omega, by omega⟩, _, rfl, _, _, rfl, rfl, .inl ⟨by decide, by decide⟩, _, _, rfl, rfl, _, rfl, _, _, rfl, rfl, _, _, rfl, rfl, (by show (0 : Int) < 999983; decide), ?_⟩
    exact q
theorem ok_room (D : Dfn K mg "_law_room" s_law_room ["_law_script", "_law_small", "_law_great"]) (B : Bi mg) : COk P w K mg base CX0 "_law_room" 1 ["_law_script", "_law_small", "_law_great"] (spRoom K) := by
  refine c_mk D sc_law_room (fun vs H Q E h => ?_) (fun f cdv A outer s H vs Q E hr h => ?_)
  · obtain ⟨a, ns, x, y, rfl, _⟩ := h
    rfl
  · obtain ⟨a, ns, x, y, rfl, hS, hl, q⟩ := h
    refine ⟨_, (pss_cons (ps_if (pt_cmpR op_gt (pe_callB (id := "len") call_len_seq (by rfl) B.len (by decide +kernel) (pa_cons (pv 0) pa_nil)) pe_int (nomark _)) (pss_one (ps_ret (pv 2))) pss_nil)
      (pss_one (ps_ret (pv 1)))), ?_⟩
    refine ⟨_, rfl, a, _, rfl, .inl hS, _, _, rfl, rfl, _, rfl, ite2 (fun e => ?_) (fun _ => ?_)⟩
    · have := of_decide_eq_true e
      rw [List.length_map] at this
      omega
    · exact ⟨_, rfl, q⟩
theorem same_upd {H : Hp} {p : Addr} {o : HO} (h : H p = none) : Same H (upd H p o) := fun b x e => by
  rw [upd_ne (ne_of_none e h)]
  exact e
theorem ok_text (D : Dfn K mg "_law_text" s_law_text ["_law_cell"]) (B : Bi mg) (C_law_mix : COk P w K mg base CX0 "_law_mix" 1 ["_law_number", "_law_k"] spMix) : COk P w K mg base CX0 "_law_text" 2 ["_law_cell"] spText := by
  refine c_mk D sc_law_text (fun vs H Q E h => ?_) (fun f cdv A outer s H vs Q E hr h => ?_)
  · obtain ⟨c, rfl, _⟩ := h
    rfl
  · obtain ⟨c, rfl, q⟩ := h
    refine ⟨_, (pss_cons (ps_set (i := 1) sc_law_text.nd rfl (.inl rfl) pe_str)
      (pss_cons (ps_set (i := 2) sc_law_text.nd rfl (.inl rfl) (pe_op op_mod (pv 0) pe_int))
      (pss_cons (ps_if (pt_cmpR op_eq (pe_op op_mod (pe_op op_fdiv (pv 0) pe_int) pe_int) pe_int (nomark _)) (pss_one (ps_ret (pe_op op_add_str (pe_op op_add_str (pe_callTy (T := "str") call_str_int (by rfl) B.str (by decide +kernel) (pa_cons (pe_op op_mod (pe_op op_fdiv (pv 0) pe_int) pe_int) pa_nil)) (pe_ix ix_list (pe_lst (pa_cons pe_str (pa_cons pe_str pa_nil))) (pe_op op_mod (pe_op op_fdiv (pv 0) pe_int) pe_int) (fun _ _ => rfl))) (pe_callTy (T := "str") call_str_int (by rfl) B.str (by decide +kernel) (pa_cons (pe_op op_mod (pe_op op_fdiv (pv 0) pe_int) pe_int) pa_nil))))) pss_nil)
      (Evl.pss_cut (ps_if (pt_cmpR op_eq (pe_op op_mod (pe_op op_fdiv (pv 0) pe_int) pe_int) pe_int (nomark _)) (pss_one (ps_set (i := 2) sc_law_text.nd rfl (.inl rfl) (pe_ix ix_list (pe_lst (pa_cons pe_int (pa_cons pe_int (pa_cons pe_int (pa_cons pe_int pa_nil))))) (pe_op op_mod (pe_op op_fdiv (pv 0) pe_int) pe_int) (fun _ _ => rfl)))) pss_nil)
      (pss_cons (ps_set (i := 3) sc_law_text.nd rfl (.inl rfl) pe_str)
      (pss_cons (ps_for PassesOwn.never rfl (pi_range1 (by rfl) B.range (pa_cons (pv 2) pa_nil)) (pg_name (i := 4) sc_law_text.nd rfl (.inl rfl))
      (pss_one (ps_set (i := 3) sc_law_text.nd rfl (.inl rfl) (pe_op op_add_str (pv 3) (pe_ix ix_str (pv 1) (pe_op op_mod (pe_op op_fdiv (pe_c C_law_mix hr (by rfl) (pa_cons (pv 0) (pa_cons (pv 4) pa_nil))) pe_int) pe_int) (fun _ _ => rfl))))))
      (pss_one (ps_ret (pv 3))))))))), ?_⟩
    refine ⟨_, rfl, _, _, rfl, rfl, (by show (0 : Int) < 9; decide), ?_⟩
    refine ⟨_, rfl, _, _, rfl, rfl, ⟨by decide, by decide⟩, _, _, rfl, rfl, (by show (0 : Int) < 6; decide), rfl, _, rfl, ite2 (fun _ => ?_) (fun _ => ?_)⟩
    · -- two numbers
      obtain ⟨n1, e1, h1⟩ := mod_nat (x := c / 54) (m := 40) (by decide)
      obtain ⟨n2, e2, h2⟩ := mod_nat (x := c / 4320) (m := 40) (by decide)
      obtain ⟨n3, e3, h3⟩ := mod_nat (x := c / 2160) (m := 2) (by decide)
      have o1 := okS_num n1 (by omega)
      have o2 := okS_num n2 (by omega)
      refine ⟨_, rfl, _, _, rfl, rfl, ⟨by decide, by decide⟩, _, _, rfl, rfl, (by show (0 : Int) < 40; decide), (n1 : Int), ?_, ?_, ?_⟩
      · show [V.int (c / 54 % 40)] = _
        rw [e1]
      · exact Nat.lt_of_le_of_lt (Nat.log2_le_self _) (by show n1 < 1920; omega)
      refine ⟨sl40 (by show 2 ≤ 1000000; decide), fun p hp => ?_⟩
      refine ⟨_, rfl, _, _, rfl, rfl, ⟨by decide, by decide⟩, _, _, rfl, rfl, (by show (0 : Int) < 2; decide), ?_⟩
      have sm := same_upd (o := .lst [V.str (Str.ofString " "), V.str (Str.ofString "")]) hp
      obtain ⟨v, hv, hat⟩ := at_mod (xs := [V.str (Str.ofString " "), V.str (Str.ofString "")]) (c := c / 2160) (m := 2) rfl (by decide)
      obtain ⟨z, rfl, oz⟩ : ∃ z, v = .str z ∧ okS 1 z := by
        rcases List.mem_cons.mp hv with e | hv
        · exact ⟨_, e, by unfold okS; decide +kernel⟩
        · rcases List.mem_cons.mp hv with e | hv
          · exact ⟨_, e, by unfold okS; decide +kernel⟩
          · cases hv
      refine ⟨p, _, _, .str z, rfl, rfl, SqL.of upd_same, hat, _, _, rfl, rfl, ?_, ?_⟩
      · exact sl40 (by have := o1.1; have := oz.1; omega)
      refine ⟨_, rfl, _, _, rfl, rfl, ⟨by decide, by decide⟩, _, _, rfl, rfl, (by show (0 : Int) < 40; decide), (n2 : Int), ?_, ?_, ?_⟩
      · show [V.int (c / 4320 % 40)] = _
        rw [e2]
      · exact Nat.lt_of_le_of_lt (Nat.log2_le_self _) (by show n2 < 1920; omega)
      have o3 := okS_app (okS_app o1 oz) o2
      refine ⟨_, _, rfl, rfl, ?_, q _ _ (okS_mono o3 (by decide)) sm⟩
      exact sl40 (by have := (okS_app o1 oz).1; have := o2.1; omega)
    · refine ⟨fun σ H' => ∃ m : Nat, m ≤ 40 ∧ Same H H' ∧ σ = [some (.int c), some (.str signS), some (.int (m : Int)), none, none], ?_, ?_⟩
      · refine ⟨_, rfl, _, _, rfl, rfl, ⟨by decide, by decide⟩, _, _, rfl, rfl, (by show (0 : Int) < 6; decide), rfl, _, rfl, ite2 (fun _ => ?_) (fun _ => ?_)⟩
        · refine ⟨sl40 (by show 4 ≤ 1000000; decide), fun p hp => ?_⟩
          refine ⟨_, rfl, _, _, rfl, rfl, ⟨by decide, by decide⟩, _, _, rfl, rfl, (by show (0 : Int) < 4; decide), ?_⟩
          obtain ⟨v, hv, hat⟩ := at_mod (xs := [V.int 40, V.int 39, V.int 0, V.int 1]) (c := c / 54) (m := 4) rfl (by decide)
          obtain ⟨m, rfl, hm⟩ : ∃ m : Nat, v = .int (m : Int) ∧ m ≤ 40 := by
            simp only [List.mem_cons, List.not_mem_nil, or_false] at hv
            rcases hv with rfl | rfl | rfl | rfl
            · exact ⟨40, rfl, by decide⟩
            · exact ⟨39, rfl, by decide⟩
            · exact ⟨0, rfl, by decide⟩
            · exact ⟨1, rfl, by decide⟩
          exact ⟨p, _, _, .int (m : Int), rfl, rfl, SqL.of upd_same, hat, m, hm, same_upd hp, rfl⟩
        · obtain ⟨m, e, hm⟩ := mod_nat (x := c) (m := 9) (by decide)
          refine ⟨m, by omega, fun _ _ h => h, ?_⟩
          show [some (V.int c), some (V.str signS), some (V.int (c % 9)), none, none] = _
          rw [e]
      rintro σ H1 ⟨m, hm, sm, rfl⟩
      refine ⟨_, rfl, (m : Int), rfl, by omega, by omega, ?_⟩
      rw [show ((m : Int)).toNat = m by omega]
      refine for_range (fun i σ H' => ∃ (x : Str) (y : Option V), H1 = H' ∧ okS i x ∧ σ = [some (.int c), some (.str signS), some (.int (m : Int)), some (.str x), y]) ⟨Str.ofString "", none, rfl, by unfold okS; decide +kernel, rfl⟩ ?_ ?_
      · rintro i σ _ hi ⟨x, y, rfl, hx, rfl⟩
        refine ⟨_, rfl, _, rfl, _, rfl, _, rfl, c, (0 : Int) + (i : Int), rfl, ?_⟩
        obtain ⟨n, e, hn⟩ := mod_nat (x := mixF c ((0 : Int) + (i : Int)) / 7) (m := 37) (by decide)
        obtain ⟨d, hd, hm2⟩ := sign_at (i := n) (by omega)
        refine ⟨_, _, rfl, rfl, ⟨by decide, by decide⟩, _, _, rfl, rfl, (by show (0 : Int) < 37; decide), signS, (n : Int), d, rfl, ?_, sl40 (by decide +kernel), atI_nat hd, ?_⟩
        · show V.int (mixF c ((0 : Int) + (i : Int)) / 7 % 37) = _
          rw [e]
        have o1 := okS_app hx (okS_sign hm2)
        refine ⟨_, _, rfl, rfl, sl40 (by have := hx.1; show x.length + 1 ≤ 1000000; omega), x ++ ⟨#[d]⟩, _, rfl, o1, rfl⟩
      · rintro σ _ ⟨x, y, rfl, hx, rfl⟩
        exact ⟨_, rfl, q _ _ (okS_mono hx hm) sm⟩
theorem ok_near (D : Dfn K mg "_law_near" s_law_near ["_law_text_here", "_law_cell"]) (B : Bi mg) : COk P w K mg base CX0 "_law_near" 1 ["_law_text_here", "_law_cell"] spNear := by
  refine c_mk D sc_law_near (fun vs H Q E h => ?_) (fun f cdv A outer s H vs Q E hr h => ?_)
  · obtain ⟨x, c, rfl, _⟩ := h
    rfl
  · obtain ⟨x, c, rfl, hx, q⟩ := h
    refine ⟨_, (Evl.pss_cut (ps_set (i := 2) sc_law_near.nd rfl (.inl rfl) (pe_op op_mod (pv 1) (pe_op op_add pe_int (pe_callB (id := "len") call_len_str (by rfl) B.len (by decide +kernel) (pa_cons (pv 0) pa_nil)))))
      (pss_cons (ps_set (i := 3) sc_law_near.nd rfl (.inl rfl) (pe_ix ix_str pe_str (pe_op op_mod (pe_op op_fdiv (pv 1) pe_int) pe_int) (fun _ _ => rfl)))
      (Evl.pss_cut (ps_if ((pw_and (pt_cmpR op_lt (pv 2) (pe_callB (id := "len") call_len_str (by rfl) B.len (by decide +kernel) (pa_cons (pv 0) pa_nil)) (nomark _)) (pw_and1 (pt_cmpR op_ne (pe_ix ix_str (pv 0) (pv 2) (fun _ _ => rfl)) (pv 3) (nomark _))))).pt (pss_one (ps_ret (pe_op op_add_str (pe_op op_add_str (pe_slice sl_str (pv 0) po_none (po_some (pv 2))) (pv 3)) (pe_slice sl_str (pv 0) (po_some (pe_op op_add (pv 2) pe_int)) po_none)))) pss_nil)
      (pss_cons (ps_if (pt_cmpR op_lt (pe_callB (id := "len") call_len_str (by rfl) B.len (by decide +kernel) (pa_cons (pv 0) pa_nil)) pe_int (nomark _)) (pss_one (ps_ret (pe_op op_add_str (pe_op op_add_str (pe_slice sl_str (pv 0) po_none (po_some (pv 2))) (pv 3)) (pe_slice sl_str (pv 0) (po_some (pv 2)) po_none)))) pss_nil)
      (pss_one (ps_ret (pe_slice sl_str (pv 0) (po_some pe_int) po_none))))))), ?_⟩
    have hx1 := hx.1
    obtain ⟨a, ea, ha⟩ := mod_nat (x := c) (m := 1 + (x.length : Int)) (by omega)
    obtain ⟨n, en, hn⟩ := mod_nat (x := c / 41) (m := 37) (by decide)
    obtain ⟨d, hd, hm⟩ := sign_at (i := n) (by omega)
    have os := okS_sign hm
    refine ⟨fun σ H' => H = H' ∧ σ = [some (.str x), some (.int c), some (.int (a : Int)), none], ?_, ?_⟩
    · refine ⟨_, rfl, _, rfl, x, rfl, sl40 (by omega), _, _, rfl, rfl, _, _, rfl, rfl, (by show (0 : Int) < 1 + (x.length : Int); omega), rfl, ?_⟩
      show [some (V.str x), some (V.int c), some (V.int (c % (1 + (x.length : Int)))), none] = _
      rw [ea]
    rintro σ _ ⟨rfl, rfl⟩
    refine ⟨_, rfl, _, _, rfl, rfl, ⟨by decide, by decide⟩, _, _, rfl, rfl, (by show (0 : Int) < 37; decide), signS, (n : Int), d, rfl, ?_, sl40 (by decide +kernel), atI_nat hd, ?_⟩
    · show V.int (c / 41 % 37) = _
      rw [en]
    have o1 := okS_to hx a
    have o2 := okS_from hx a
    have o3 := okS_from hx (a + 1)
    have o4 := okS_from hx 1
    have o12 := okS_app o1 os
    refine ⟨fun σ H' => H = H' ∧ σ = [some (.str x), some (.int c), some (.int (a : Int)), some (.str ⟨#[d]⟩)], ?_, ?_⟩
    · refine ⟨_, rfl, _, rfl, x, rfl, sl40 (by omega), _, _, rfl, rfl, _, rfl, ite2 (fun e => ?_) (fun e => ?_)⟩
      · have hlt : a < x.length := by
          have := of_decide_eq_true e
          omega
        have hax : x.cps.toList[a]? = some (x.cps.toList[a]'(by rw [← len_list]; exact hlt)) := List.getElem?_eq_getElem _
        refine ⟨_, rfl, _, rfl, x, (a : Int), _, rfl, rfl, sl40 (by omega), atI_nat hax, _, rfl, rfl, _, rfl, ite2 (fun _ => ?_) (fun _ => ?_)⟩
        · refine ⟨_, rfl, _, rfl, (a : Int), rfl, x, rfl, sl40 (by omega), _, rfl, _, _, rfl, rfl, ?_, ?_⟩
          · exact sl40 (by have := o1.1; have := os.1; omega)
          refine ⟨_, rfl, _, rfl, _, _, rfl, rfl, ((a + 1 : Nat) : Int), rfl, x, rfl, sl40 (by omega), _, _, rfl, rfl, ?_, ?_⟩
          · exact sl40 (by have := o12.1; have := o3.1; omega)
          exact q _ (okS_mono (okS_app o12 o3) (by omega))
        · exact ⟨rfl, rfl⟩
      · exact iteF ⟨rfl, rfl⟩
    rintro σ _ ⟨rfl, rfl⟩
    refine ⟨_, rfl, x, rfl, sl40 (by omega), _, _, rfl, rfl, _, rfl, ite2 (fun e => ?_) (fun _ => ?_)⟩
    · have hlt : x.length < 40 := by
        have := of_decide_eq_true e
        omega
      refine ⟨_, rfl, _, rfl, (a : Int), rfl, x, rfl, sl40 (by omega), _, rfl, _, _, rfl, rfl, ?_, ?_⟩
      · exact sl40 (by have := o1.1; have := os.1; omega)
      refine ⟨_, rfl, _, rfl, (a : Int), rfl, x, rfl, sl40 (by omega), _, _, rfl, rfl, ?_, ?_⟩
      · exact sl40 (by have := o12.1; have := o2.1; omega)
      exact q _ (okS_mono (okS_app o12 o2) (by omega))
    · refine ⟨_, rfl, ((1 : Nat) : Int), rfl, x, rfl, sl40 (by omega), ?_⟩
      exact q _ (okS_mono o4 (by omega))
end

def spDig : Sp := fun vs H Q _ => ∃ n : Nat, vs = [.int (n : Int)] ∧ Q (.int (dig n : Nat)) H
def PL (H : Hp) (p : Addr) (ps : List (Nat × Nat)) : Prop := ∃ ts : List Addr, H p = some (.lst (ts.map V.ref)) ∧ Paired (fun t (q : Nat × Nat) => H t = some (.tup [.int (q.1 : Int), .int (q.2 : Int)])) ts ps
theorem PL.same {H H' : Hp} {p : Addr} {ps : List (Nat × Nat)} (s : Same H H') (h : PL H p ps) : PL H' p ps := by
  obtain ⟨ts, h1, h2⟩ := h
  exact ⟨ts, s _ _ h1, Paired.mapP h2 fun _ _ e => s _ _ e⟩
/-- another tuple is laid and appended -/
theorem PL.snoc {H : Hp} {p t : Addr} {ps : List (Nat × Nat)} {ts : List Addr} {g j : Nat} (h1 : H p = some (.lst (ts.map V.ref))) (h2 : Paired (fun t (q : Nat × Nat) => H t = some (.tup [.int (q.1 : Int), .int (q.2 : Int)])) ts ps)
    (ht : H t = none) : PL (upd (upd H t (.tup [.int (g : Int), .int (j : Int)])) p (.lst (ts.map V.ref ++ [.ref t]))) p (ps ++ [(g, j)]) := by
  have np : p ≠ t := ne_of_none h1 ht
  refine ⟨ts ++ [t], ?_, ?_⟩
  · rw [upd_same, List.map_append]
    rfl
  · refine Paired.snoc (Paired.mapP h2 fun a q e => ?_) ?_
    · have na : a ≠ p := ne_of e h1 (by intro z; cases z)
      rw [upd_ne na, upd_ne (ne_of_none e ht)]
      exact e
    · rw [upd_ne np.symm, upd_same]
theorem p2_pos (g : Nat) : (0 : Int) < 2 ^ g := by
  have := Nat.two_pow_pos g
  have e2 : ((2 ^ g : Nat) : Int) = 2 ^ g := by simp
  omega
theorem small {n : Nat} (h : n < 1000000) : n < sizeLine := Nat.lt_of_lt_of_le h (by decide)
theorem sml {n : Nat} (h : n < 1000000) : n ≤ sizeLine := Nat.le_of_lt (small h)
/-- what a frame of changes leaves -/
def spParted : Sp := fun vs H Q _ => ∃ n : Nat, vs = [.int (n : Int)] ∧ n < 2 ^ 28 ∧ ∀ H' p, Same H H' → H p = none → PL H' p (parts n) → Q (.ref p) H'

section
variable {P : Program} {w : World} {K : PySem.W.Frag} {mg : Str → Option Value} {base : Heap}
def spCellAt (K : PySem.W.Frag) : Sp := fun vs H Q _ => ∃ (l : Addr) (ns : List Int) (j : Nat), vs = [.ref l, .int (j : Int)] ∧ SqL K H l (ns.map V.int) ∧ Q (.int (ns.getD j 0)) H
theorem ok_cell (D : Dfn K mg "_law_cell_at" s_law_cell_at ["_law_script", "_law_k"]) (B : Bi mg) : COk P w K mg base CX0 "_law_cell_at" 1 ["_law_script", "_law_k"] (spCellAt K) := by
  refine c_mk D sc_law_cell_at (fun vs H Q E h => ?_) (fun f cdv A outer s H vs Q E hr h => ?_)
  · obtain ⟨l, ns, j, rfl, _⟩ := h
    rfl
  · obtain ⟨l, ns, j, rfl, hS, q⟩ := h
    refine ⟨_, (pss_cons (ps_if (pt_cmpR op_lt (pv 1) (pe_callB (id := "len") call_len_seq (by rfl) B.len (by decide +kernel) (pa_cons (pv 0) pa_nil)) (nomark _)) (pss_one (ps_ret (pe_ix ix_list (pv 0) (pv 1) (fun _ _ => rfl)))) pss_nil)
      (pss_one (ps_ret pe_int))), ?_⟩
    refine ⟨_, rfl, _, rfl, l, _, rfl, .inl hS, _, _, rfl, rfl, _, rfl, ite2 (fun e => ?_) (fun e => ?_)⟩
    · have h1 : j < ns.length := by
        have := of_decide_eq_true e
        rw [List.length_map] at this
        omega
      refine ⟨_, rfl, _, rfl, l, _, (j : Int), .int (ns.getD j 0), rfl, rfl, hS, atI_nat ?_, q⟩
      rw [List.getElem?_map, List.getElem?_eq_getElem h1, List.getD_eq_getElem?_getD, List.getElem?_eq_getElem h1]
      rfl
    · have h1 : ¬ j < ns.length := fun z => e (decide_eq_true (by
        rw [List.length_map]
        omega))
      have e2 : ns.getD j 0 = 0 := by
        rw [List.getD_eq_getElem?_getD, List.getElem?_eq_none (by omega)]
        rfl
      rw [e2] at q
      exact q
theorem ok_law_digits (D : Dfn K mg "_law_digits" s_law_digits ["_law_count"]) : COk P w K mg base CX0 "_law_digits" 1 ["_law_count"] spDig := by
  refine c_mk D sc_law_digits (fun vs H Q E h => ?_) (fun f cdv A outer s H vs Q E hr h => ?_)
  · obtain ⟨n, rfl, _⟩ := h
    rfl
  · obtain ⟨n, rfl, q⟩ := h
    refine ⟨_, (pss_cons (ps_set (i := 1) sc_law_digits.nd rfl (.inl rfl) pe_int)
      (pss_cons (ps_while PassesOwn.never (pt_cmpR op_gt (pv 0) pe_int (nomark _)) (pss_cons (ps_set (i := 0) sc_law_digits.nd rfl (.inl rfl) (pe_op op_fdiv (pv 0) pe_int))
      (pss_one (ps_set (i := 1) sc_law_digits.nd rfl (.inl rfl) (pe_op op_add (pv 1) pe_int)))))
      (pss_one (ps_ret (pv 1))))), ?_⟩
    refine ⟨fun m σ H1 => ∃ (c d : Nat), σ = [some (.int (c : Int)), some (.int (d : Int))] ∧ dig c + d = dig n ∧ m = c ∧ H1 = H, ⟨n, n, 0, rfl, Nat.add_zero _, rfl, rfl⟩, ?_⟩
    rintro m σ H1 ⟨c, d, rfl, e, rfl, rfl⟩
    refine ⟨_, rfl, _, _, rfl, rfl, _, rfl, ite2 (fun hc => ?_) (fun hc => ?_)⟩
    · have h0 : 0 < m := by
        have := of_decide_eq_true hc
        omega
      refine ⟨fun σ' H' => ∃ d' : Nat, σ' = [some (.int ((m / 2 : Nat) : Int)), some (.int (d' : Int))] ∧ dig (m / 2) + d' = dig n ∧ H' = H1, ?_, ?_⟩
      · rintro σ' H' ⟨d', rfl, e', rfl⟩
        exact ⟨m / 2, by omega, m / 2, d', rfl, e', rfl, rfl⟩
      · refine ⟨_, rfl, _, _, rfl, rfl, ⟨by decide, by decide⟩, ?_⟩
        refine ⟨_, rfl, _, _, rfl, rfl, ?_⟩
        refine ⟨d + 1, rfl, ?_, rfl⟩
        have := dig_half h0
        omega
    · have h0 : m = 0 := by
        have : ¬ (0 : Int) < (m : Int) := fun z => hc (decide_eq_true z)
        omega
      subst h0
      rw [dig_zero, Nat.zero_add] at e
      subst e
      exact ⟨_, rfl, q⟩
def spSize : Sp := fun vs H Q _ => ∃ n : Nat, vs = [.int (n : Int)] ∧ n < 2 ^ 30 ∧ Q (.int ((2 ^ n : Nat) : Int)) H
theorem ok_size (D : Dfn K mg "_law_size" s_law_size ["_law_height"]) (B : Bi mg) : COk P w K mg base CX0 "_law_size" 1 ["_law_height"] spSize := by
  refine c_mk D sc_law_size (fun vs H Q E h => ?_) (fun f cdv A outer s H vs Q E hr h => ?_)
  · obtain ⟨n, rfl, _⟩ := h
    rfl
  · obtain ⟨n, rfl, hn, q⟩ := h
    refine ⟨_, (pss_cons (ps_set (i := 1) sc_law_size.nd rfl (.inl rfl) pe_int)
      (pss_cons (ps_for PassesOwn.never rfl (pi_range1 (by rfl) B.range (pa_cons (pv 0) pa_nil)) (pg_name (i := 2) sc_law_size.nd rfl (.inl rfl))
      (pss_one (ps_set (i := 1) sc_law_size.nd rfl (.inl rfl) (pe_op op_mul (pv 1) pe_int))))
      (pss_one (ps_ret (pv 1))))), ?_⟩
    refine ⟨_, rfl, (n : Int), rfl, by omega, by omega, ?_⟩
    have e1 : ((n : Int)).toNat = n := by omega
    rw [e1]
    refine for_range (fun i σ H1 => ∃ y : Option V, σ = [some (.int (n : Int)), some (.int ((2 ^ i : Nat) : Int)), y] ∧ H1 = H) ⟨none, rfl, rfl⟩ ?_ ?_
    · rintro i σ H1 hi ⟨y, rfl, rfl⟩
      refine ⟨_, rfl, _, _, rfl, rfl, .inr ⟨by decide, by decide⟩, ?_⟩
      refine ⟨some (.int ((0 : Int) + (i : Int))), ?_, rfl⟩
      show [some (V.int (n : Int)), some (V.int (((2 ^ i : Nat) : Int) * 2)), some (V.int ((0 : Int) + (i : Int)))] = _
      rw [show ((2 ^ i : Nat) : Int) * 2 = ((2 ^ (i + 1) : Nat) : Int) by rw [Nat.pow_succ]; simp]
    · rintro σ H1 ⟨y, rfl, rfl⟩
      exact ⟨_, rfl, q⟩
theorem ok_law_parted (D : Dfn K mg "_law_parted" s_law_parted ["_law_count"]) (B : Bi mg) (C_law_digits : COk P w K mg base CX0 "_law_digits" 1 ["_law_count"] spDig) (C_law_size : COk P w K mg base CX0 "_law_size" 1 ["_law_height"] spSize) :
    COk P w K mg base CX0 "_law_parted" 2 ["_law_count"] spParted := by
  refine c_mk D sc_law_parted (fun vs H Q E h => ?_) (fun f cdv A outer s H vs Q E hr h => ?_)
  · obtain ⟨n, rfl, _⟩ := h
    rfl
  · obtain ⟨n, rfl, hn, q⟩ := h
    have hd : dig n ≤ 28 := dig_le hn
    refine ⟨_, (pss_cons (ps_set (i := 1) sc_law_parted.nd rfl (.inl rfl) (pe_lst pa_nil))
      (pss_cons (ps_set (i := 2) sc_law_parted.nd rfl (.inl rfl) pe_int)
      (pss_cons (ps_for PassesOwn.never rfl (pi_range3 (by rfl) B.range (pa_cons (pe_c C_law_digits hr (by rfl) (pa_cons (pv 0) pa_nil)) (pa_cons (pe_un un_neg pe_int) (pa_cons (pe_un un_neg pe_int) pa_nil)))) (pg_name (i := 3) sc_law_parted.nd rfl (.inl rfl))
      (pss_one (ps_if (pt_cmpR op_le (pe_op op_add (pv 2) (pe_c C_law_size hr (by rfl) (pa_cons (pv 3) pa_nil))) (pv 0) (nomark _)) (pss_cons (ps_expr (pe_bm PySem.F.plainAttrs_list PySem.F.slot_list_append PySem.F.type_list_append mt_append (pv 1) (pa_cons (pe_tup (pa_cons (pv 3) (pa_cons (pe_op op_fdiv (pv 2) (pe_c C_law_size hr (by rfl) (pa_cons (pv 3) pa_nil))) pa_nil))) pa_nil)))
      (pss_one (ps_set (i := 2) sc_law_parted.nd rfl (.inl rfl) (pe_op op_add (pv 2) (pe_c C_law_size hr (by rfl) (pa_cons (pv 3) pa_nil)))))) pss_nil)))
      (pss_one (ps_ret (pv 1)))))), ?_⟩
    refine ⟨Nat.zero_le _, fun p hp => ?_⟩
    refine ⟨_, rfl, n, rfl, _, rfl, _, rfl, _, _, _, _, rfl, RgC.neg (by omega) (by omega) (by decide) (by decide), ?_⟩
    have e1 : ((dig n : Int) - -1).toNat = dig n + 1 := by omega
    rw [e1]
    refine for_rangeC (fun i σ H1 => ∃ (s : Nat) (done : List (Nat × Nat)) (y3 : Option V), σ = [some (.int (n : Int)), some (.ref p), some (.int (s : Int)), y3] ∧ s ≤ n ∧ done.length ≤ i ∧ done ++ partsG n (dig n + 1 - i) s = parts n ∧ Same H H1 ∧ PL H1 p done) ?_ ?_ ?_
    · exact ⟨0, [], none, rfl, Nat.zero_le _, Nat.le_refl _, parts_more n, same_upd hp, [], upd_same, .nil⟩
    · rintro i σ H1 hi ⟨s, done, y3, rfl, hs, hl, hparts, sm, ts, hp1, hts⟩
      obtain ⟨g, eg⟩ : ∃ g, dig n + 1 - i = g + 1 := ⟨dig n - i, by omega⟩
      have ei : ((dig n : Nat) : Int) + (i : Int) * -1 = (g : Int) := by omega
      rw [ei]
      refine ⟨_, rfl, _, rfl, g, rfl, by omega, _, _, rfl, rfl, _, rfl, _, _, rfl, rfl, _, rfl, ite2 (fun e => ?_) (fun e => ?_)⟩
      · have h2 : s + 2 ^ g ≤ n := by
          have := of_decide_eq_true e
          omega
        rw [eg] at hparts
        unfold partsG at hparts
        rw [if_pos h2] at hparts
        have hg : (2 : Nat) ^ g < 2 ^ 28 := by omega
        have hg0 := Nat.two_pow_pos g
        refine ⟨_, rfl, .inl ⟨rfl, _, SqL.of hp1⟩, _, rfl, _, rfl, _, rfl, g, rfl, by omega, _, _, rfl, rfl, ⟨?_, ?_⟩, by show 2 ≤ sizeLine; decide, fun t ht => ?_⟩
        · show (0 : Int) < ((2 ^ g : Nat) : Int)
          omega
        · show ((2 ^ g : Nat) : Int) < 1073741824
          omega
        have hp2 : (upd H1 t (.tup [.int (g : Int), .int ((s : Int) / ((2 ^ g : Nat) : Int))])) p = some (.lst (ts.map V.ref)) := by
          rw [upd_ne (ne_of_none hp1 ht)]
          exact hp1
        have hlen : (ts.map V.ref).length < sizeLine := by
          rw [List.length_map, Paired.length hts]
          exact small (by omega)
        refine ⟨p, _, _, rfl, rfl, hp2, hlen, ?_⟩
        refine ⟨_, rfl, _, rfl, g, rfl, by omega, _, _, rfl, rfl, ?_⟩
        refine ⟨s + 2 ^ g, done ++ [(g, s / 2 ^ g)], some (.int (g : Int)), ?_, h2, ?_, ?_, ?_, ?_⟩
        · rfl
        · rw [List.length_append]
          exact Nat.succ_le_succ hl
        · rw [show dig n + 1 - (i + 1) = g by omega, ← hparts, List.append_assoc]
          rfl
        · intro b o e
          have nb : b ≠ p := ne_of_none e hp
          rw [upd_ne nb, upd_ne (ne_of_none (sm _ _ e) ht)]
          exact sm _ _ e
        · exact PL.snoc hp1 hts ht
      · have h2 : ¬ s + 2 ^ g ≤ n := fun z => e (decide_eq_true (by omega))
        rw [eg] at hparts
        unfold partsG at hparts
        rw [if_neg h2] at hparts
        refine ⟨s, done, _, rfl, hs, by omega, ?_, sm, ts, hp1, hts⟩
        rw [show dig n + 1 - (i + 1) = g by omega]
        exact hparts
    · rintro σ H1 ⟨s, done, y3, rfl, hs, hl, hparts, sm, hpl⟩
      rw [Nat.sub_self] at hparts
      unfold partsG at hparts
      rw [List.append_nil] at hparts
      rw [hparts] at hpl
      exact ⟨_, rfl, q _ _ sm hp hpl⟩

end
theorem PL.dp {K : PySem.W.Frag} {H : Hp} {p : Addr} {ps : List (Nat × Nat)} (h : PL H p ps) : Dp K H (.ref p) (.list (ps.map pairD)) := by
  obtain ⟨ts, h1, h2⟩ := h
  refine .lst (SqL.of h1) ?_
  clear h1
  induction h2 with
  | nil => exact .nil
  | cons e _ ih => exact .cons (.tup (SqT.of e) (.cons (.int _) (.cons (.int _) .nil))) ih
theorem PL.at {H : Hp} {ts : List Addr} {ps : List (Nat × Nat)} (h : Paired (fun t (q : Nat × Nat) => H t = some (.tup [.int (q.1 : Int), .int (q.2 : Int)])) ts ps) {i : Nat} {v : V} (hv : (ts.map V.ref)[i]? = some v) :
    ∃ t q, v = .ref t ∧ ps[i]? = some q ∧ H t = some (.tup [.int (q.1 : Int), .int (q.2 : Int)]) := by
  induction h generalizing i with
  | nil => simp at hv
  | @cons a b l1 l2 e _ ih =>
    cases i with
    | zero =>
      have : V.ref a = v := Option.some.inj hv
      exact ⟨a, b, this.symm, rfl, e⟩
    | succ i => exact ih hv

/-! ### lists of rows -/
/-- at a stands a list of these rows -/
def RL (H : Hp) (a : Addr) (rs : List Str) : Prop := H a = some (.lst (rs.map V.str)) ∧ ∀ x ∈ rs, okS 40 x
theorem RL.same {H H' : Hp} {a : Addr} {rs : List Str} (s : Same H H') (h : RL H a rs) : RL H' a rs := ⟨s _ _ h.1, h.2⟩
def spRows : Sp := fun vs H Q _ => ∃ c m : Int, vs = [.int c, .int m] ∧ ∀ (a : Addr) (rs : List Str) (H' : Hp), Same H H' → H a = none → RL H' a rs → rs.length ≤ 900 → Q (.ref a) H'
section
variable {P : Program} {w : World} {K : PySem.W.Frag} {mg : Str → Option Value} {base : Heap}
theorem ok_rows (D : Dfn K mg "_law_rows" s_law_rows ["_law_cell", "_law_more"]) (B : Bi mg) (C_law_mix : COk P w K mg base CX0 "_law_mix" 1 ["_law_number", "_law_k"] spMix) (C_law_text : COk P w K mg base CX0 "_law_text" 2 ["_law_cell"] spText) :
    COk P w K mg base CX0 "_law_rows" 3 ["_law_cell", "_law_more"] spRows := by
  refine c_mk D sc_law_rows (fun vs H Q E h => ?_) (fun f cdv A outer s H vs Q E hr h => ?_)
  · obtain ⟨c, m, rfl, _⟩ := h
    rfl
  · obtain ⟨c, m, rfl, q⟩ := h
    refine ⟨_, (pss_cons (ps_set (i := 2) sc_law_rows.nd rfl (.inl rfl) (pe_op op_mod (pv 0) pe_int))
      (Evl.pss_cut (ps_if (pt_cmpR op_eq (pe_op op_mod (pe_op op_fdiv (pv 0) pe_int) pe_int) pe_int (nomark _)) (pss_one (ps_set (i := 2) sc_law_rows.nd rfl (.inl rfl) (pe_ix ix_list (pe_lst (pa_cons pe_int (pa_cons pe_int (pa_cons pe_int (pa_cons pe_int (pa_cons pe_int (pa_cons pe_int (pa_cons pe_int (pa_cons pe_int (pa_cons pe_int (pa_cons pe_int (pa_cons pe_int (pa_cons pe_int pa_nil))))))))))))) (pe_op op_mod (pe_op op_fdiv (pv 0) pe_int) pe_int) (fun _ _ => rfl)))) pss_nil)
      (pss_cons (ps_set (i := 3) sc_law_rows.nd rfl (.inl rfl) (pe_op op_add pe_int (pe_op op_mod (pv 1) pe_int)))
      (pss_cons (ps_set (i := 4) sc_law_rows.nd rfl (.inl rfl) (pe_lst pa_nil))
      (pss_cons (ps_for PassesOwn.never rfl (pi_range1 (by rfl) B.range (pa_cons (pv 2) pa_nil)) (pg_name (i := 5) sc_law_rows.nd rfl (.inl rfl))
      (pss_one (ps_expr (pe_bm PySem.F.plainAttrs_list PySem.F.slot_list_append PySem.F.type_list_append mt_append (pv 4) (pa_cons (pe_c C_law_text hr (by rfl) (pa_cons (pe_op op_mod (pe_op op_fdiv (pe_c C_law_mix hr (by rfl) (pa_cons (pv 1) (pa_cons (pv 5) pa_nil))) pe_int) (pe_ix ix_list (pe_lst (pa_cons (pv 3) (pa_cons pe_int pa_nil))) (pe_op op_fdiv (pe_op op_mod (pv 5) pe_int) pe_int) (fun _ _ => rfl))) pa_nil)) pa_nil)))))
      (pss_one (ps_ret (pv 4)))))))), ?_⟩
    refine ⟨_, rfl, _, _, rfl, rfl, (by show (0 : Int) < 21; decide), ?_⟩
    refine ⟨fun σ H' => ∃ n : Nat, n ≤ 900 ∧ Same H H' ∧ σ = [some (.int c), some (.int m), some (.int (n : Int)), none, none, none], ?_, ?_⟩
    · refine ⟨_, rfl, _, _, rfl, rfl, ⟨by decide, by decide⟩, _, _, rfl, rfl, (by show (0 : Int) < 8; decide), rfl, _, rfl, ite2 (fun _ => ?_) (fun _ => ?_)⟩
      · refine ⟨sl40 (by show 12 ≤ 1000000; decide), fun p hp => ?_⟩
        refine ⟨_, rfl, _, _, rfl, rfl, ⟨by decide, by decide⟩, _, _, rfl, rfl, (by show (0 : Int) < 12; decide), ?_⟩
        obtain ⟨v, hv, hat⟩ := at_mod (xs := [V.int 16, V.int 17, V.int 31, V.int 32, V.int 33, V.int 64, V.int 63, V.int 100, V.int 128, V.int 200, V.int 600, V.int 900]) (c := c / 168) (m := 12) rfl (by decide)
        obtain ⟨n, rfl, hn⟩ : ∃ n : Nat, v = .int (n : Int) ∧ n ≤ 900 := by
          simp only [List.mem_cons, List.not_mem_nil, or_false] at hv
          rcases hv with rfl | rfl | rfl | rfl | rfl | rfl | rfl | rfl | rfl | rfl | rfl | rfl
          · exact ⟨16, rfl, by decide⟩
          · exact ⟨17, rfl, by decide⟩
          · exact ⟨31, rfl, by decide⟩
          · exact ⟨32, rfl, by decide⟩
          · exact ⟨33, rfl, by decide⟩
          · exact ⟨64, rfl, by decide⟩
          · exact ⟨63, rfl, by decide⟩
          · exact ⟨100, rfl, by decide⟩
          · exact ⟨128, rfl, by decide⟩
          · exact ⟨200, rfl, by decide⟩
          · exact ⟨600, rfl, by decide⟩
          · exact ⟨900, rfl, by decide⟩
        exact ⟨p, _, _, _, rfl, rfl, SqL.of upd_same, hat, n, hn, same_upd hp, rfl⟩
      · obtain ⟨n, e, hn⟩ := mod_nat (x := c) (m := 21) (by decide)
        refine ⟨n, by omega, fun _ _ h => h, ?_⟩
        show [some (V.int c), some (V.int m), some (V.int (c % 21)), none, none, none] = _
        rw [e]
    rintro σ H1 ⟨n, hn, sm, rfl⟩
    refine ⟨_, rfl, _, _, rfl, rfl, (by show (0 : Int) < 5; decide), _, _, rfl, rfl, ?_⟩
    refine ⟨sl40 (by show 0 ≤ 1000000; decide), fun p hp => ?_⟩
    obtain ⟨kd, ek, hk⟩ := mod_nat (x := m) (m := 5) (by decide)
    refine ⟨_, rfl, (n : Int), rfl, by omega, by omega, ?_⟩
    rw [show ((n : Int)).toNat = n by omega]
    refine for_range (fun i σ H' => ∃ (rs : List Str) (y : Option V), Same H1 H' ∧ RL H' p rs ∧ rs.length = i ∧ σ = [some (.int c), some (.int m), some (.int (n : Int)), some (.int (1 + m % 5)), some (.ref p), y]) ⟨[], none, same_upd hp, ⟨upd_same, fun x h => absurd h List.not_mem_nil⟩, rfl, rfl⟩ ?_ ?_
    · rintro i σ H2 hi ⟨rs, y, sm2, hrl, hrs, rfl⟩
      refine ⟨_, rfl, .inl ⟨rfl, _, SqL.of hrl.1⟩, _, rfl, _, rfl, m, (0 : Int) + (i : Int), rfl, _, _, rfl, rfl, ⟨by decide, by decide⟩, ?_⟩
      refine ⟨_, rfl, sl40 (by show 2 ≤ 1000000; decide), fun u hu => ?_⟩
      obtain ⟨v, hv, hat⟩ : ∃ v, v ∈ [V.int (1 + m % 5), .int 99991] ∧ atI [V.int (1 + m % 5), .int 99991] (((0 : Int) + (i : Int)) % 3 / 2) = some v := by
        obtain ⟨r, er, hr⟩ := mod_nat (x := (0 : Int) + (i : Int)) (m := 3) (by decide)
        rw [er]
        have : r = 0 ∨ r = 1 ∨ r = 2 := by omega
        rcases this with rfl | rfl | rfl
        · exact ⟨_, List.mem_cons_self, rfl⟩
        · exact ⟨_, List.mem_cons_self, rfl⟩
        · exact ⟨_, List.mem_cons_of_mem _ List.mem_cons_self, rfl⟩
      obtain ⟨z, rfl, hz⟩ : ∃ z : Int, v = .int z ∧ 0 < z := by
        simp only [List.mem_cons, List.not_mem_nil, or_false] at hv
        rcases hv with rfl | rfl
        · exact ⟨_, rfl, by omega⟩
        · exact ⟨_, rfl, by decide⟩
      refine ⟨_, rfl, _, _, rfl, rfl, (by show (0 : Int) < 3; decide), _, _, rfl, rfl, ⟨by decide, by decide⟩, u, _, _, _, rfl, rfl, SqL.of upd_same, hat, _, _, rfl, rfl, hz, _, rfl, fun x H3 hx sm3 => ?_⟩
      have h3 := ((same_upd hu).trans sm3) _ _ hrl.1
      refine ⟨p, _, _, rfl, rfl, h3, ?_, rs ++ [x], _, ?_, ⟨?_, ?_⟩, by rw [List.length_append, hrs]; rfl, rfl⟩
      · rw [List.length_map]
        exact Nat.lt_of_lt_of_le (show rs.length < 1000 by omega) (by decide)
      · intro b o e
        rw [upd_ne (ne_of_none e hp)]
        exact ((same_upd hu).trans sm3) _ _ (sm2 _ _ e)
      · rw [upd_same, List.map_append]
        rfl
      · intro x' hx'
        rcases List.mem_append.mp hx' with h | h
        · exact hrl.2 _ h
        · have : x' = x := by simpa using h
          rw [this]
          exact hx
    · rintro σ H2 ⟨rs, y, sm2, hrl, hrs, rfl⟩
      exact ⟨_, rfl, q p rs H2 (sm.trans sm2) (Same.free sm hp) hrl (by omega)⟩
end

/-! ### a list near another -/
def spTwin : Sp := fun vs H Q _ => ∃ (a : Addr) (rs : List Str) (c : Int), vs = [.ref a, .int c] ∧ RL H a rs ∧ rs.length ≤ 900 ∧ ∀ (b : Addr) (os : List Str) (H' : Hp), Same H H' → H b = none → RL H' b os → os.length ≤ 909 → Q (.ref b) H'
theorem RL.len {rs : List Str} : (rs.map V.str).length = rs.length := List.length_map _
theorem RL.cut {H : Hp} {p : Addr} {rs : List Str} {lo hi : Option Int} (h : ∀ x ∈ rs, okS 40 x) : ∃ os : List Str, cutV (rs.map V.str) lo hi = os.map V.str ∧ os.length ≤ rs.length ∧ ∀ x ∈ os, okS 40 x := by
  refine ⟨(rs.drop (HT.sIx (rs.map V.str).length 0 lo)).take (HT.sIx (rs.map V.str).length (rs.map V.str).length hi - HT.sIx (rs.map V.str).length 0 lo), ?_, ?_, fun x hx => h x (List.mem_of_mem_drop (List.mem_of_mem_take hx))⟩
  · unfold cutV
    rw [List.map_take, List.map_drop]
  · rw [List.length_take, List.length_drop]
    omega
theorem upd_keep {H H' : Hp} {p : Addr} {o : HO} (s : Same H H') (h : H p = none) : Same H (upd H' p o) := fun b x e => by
  rw [upd_ne (ne_of_none e h)]
  exact s _ _ e
theorem ixN_nat {n i : Nat} (h : i < n) : ixN n (i : Int) = some i := by
  unfold ixN
  rw [if_pos (by omega), if_pos (by omega), Int.toNat_natCast]
section
variable {P : Program} {w : World} {K : PySem.W.Frag} {mg : Str → Option Value} {base : Heap}
theorem ok_twin (D : Dfn K mg "_law_twin" s_law_twin ["_law_rows_here", "_law_cell"]) (B : Bi mg) (C_law_mix : COk P w K mg base CX0 "_law_mix" 1 ["_law_number", "_law_k"] spMix) (C_law_text : COk P w K mg base CX0 "_law_text" 2 ["_law_cell"] spText)
    (C_law_near : COk P w K mg base CX0 "_law_near" 1 ["_law_text_here", "_law_cell"] spNear) : COk P w K mg base CX0 "_law_twin" 3 ["_law_rows_here", "_law_cell"] spTwin := by
  refine c_mk D sc_law_twin (fun vs H Q E h => ?_) (fun f cdv A outer s H vs Q E hr h => ?_)
  · obtain ⟨a, rs, c, rfl, _⟩ := h
    rfl
  · obtain ⟨a, rs, c, rfl, ha, hlen, q⟩ := h
    refine ⟨_, (pss_cons (ps_set (i := 2) sc_law_twin.nd rfl (.inl rfl) (pe_callTy (T := "list") call_list_of (by rfl) B.list (by decide +kernel) (pa_cons (pv 0) pa_nil)))
      (Evl.pss_cut (ps_for PassesOwn.never rfl (pi_range1 (by rfl) B.range (pa_cons (pe_ix ix_list (pe_lst (pa_cons pe_int (pa_cons pe_int (pa_cons pe_int (pa_cons pe_int (pa_cons pe_int pa_nil)))))) (pe_op op_mod (pv 1) pe_int) (fun _ _ => rfl)) pa_nil)) (pg_name (i := 3) sc_law_twin.nd rfl (.inl rfl))
      (pss_one (ps_if (pt_cmpR op_gt (pe_callB (id := "len") call_len_seq (by rfl) B.len (by decide +kernel) (pa_cons (pv 2) pa_nil)) pe_int (nomark _)) (pss_cons (ps_set (i := 4) sc_law_twin.nd rfl (.inl rfl) (pe_op op_mod (pe_c C_law_mix hr (by rfl) (pa_cons (pv 1) (pa_cons (pe_op op_add pe_int (pv 3)) pa_nil))) (pe_callB (id := "len") call_len_seq (by rfl) B.len (by decide +kernel) (pa_cons (pv 2) pa_nil))))
      (Evl.pss_cut (ps_if (pt_cmpR op_eq (pe_op op_mod (pe_c C_law_mix hr (by rfl) (pa_cons (pv 1) (pa_cons (pe_op op_add pe_int (pv 3)) pa_nil))) pe_int) pe_int (nomark _)) (pss_one (ps_set (i := 4) sc_law_twin.nd rfl (.inl rfl) (pe_ix ix_list (pe_lst (pa_cons pe_int (pa_cons (pe_op op_sub (pe_callB (id := "len") call_len_seq (by rfl) B.len (by decide +kernel) (pa_cons (pv 2) pa_nil)) pe_int) (pa_cons (pe_op op_fdiv (pe_callB (id := "len") call_len_seq (by rfl) B.len (by decide +kernel) (pa_cons (pv 2) pa_nil)) pe_int) pa_nil)))) (pe_op op_mod (pe_c C_law_mix hr (by rfl) (pa_cons (pv 1) (pa_cons (pe_op op_add pe_int (pv 3)) pa_nil))) pe_int) (fun _ _ => rfl)))) pss_nil)
      (pss_one (ps_asg (pe_c C_law_near hr (by rfl) (pa_cons (pe_ix ix_list (pv 2) (pv 4) (fun _ _ => rfl)) (pa_cons (pe_c C_law_mix hr (by rfl) (pa_cons (pv 1) (pa_cons (pe_op op_add pe_int (pv 3)) pa_nil))) pa_nil))) (pg_sub (pv 2) (pv 4) set_list))))) pss_nil)))
      (pss_cons (ps_set (i := 5) sc_law_twin.nd rfl (.inl rfl) (pe_op op_mod (pe_op op_fdiv (pv 1) pe_int) pe_int))
      (Evl.pss_cut (ps_if (pt_cmpR op_eq (pv 5) pe_int (nomark _)) (pss_one (ps_set (i := 2) sc_law_twin.nd rfl (.inl rfl) (pe_slice sl_list (pv 2) po_none (po_some (pe_op op_mod (pe_c C_law_mix hr (by rfl) (pa_cons (pv 1) (pa_cons pe_int pa_nil))) (pe_op op_add pe_int (pe_callB (id := "len") call_len_seq (by rfl) B.len (by decide +kernel) (pa_cons (pv 2) pa_nil)))))))) pss_nil)
      (Evl.pss_cut (ps_if (pt_cmpR op_eq (pv 5) pe_int (nomark _)) (pss_one (ps_set (i := 2) sc_law_twin.nd rfl (.inl rfl) (pe_op op_cat (pv 2) (pe_lc (own := [("_law_k", 3)]) (g := gName 3) rfl sc_law_twin.nd (pi_range1 (by rfl) B.range (pa_cons (pe_op op_add pe_int (pe_op op_mod (pe_c C_law_mix hr (by rfl) (pa_cons (pv 1) (pa_cons pe_int pa_nil))) pe_int)) pa_nil)) (blkOk_by (N := ["_law_rows_here", "_law_cell", "_law_other", "_law_k", "_law_at", "_law_way"]) (sc := defScope s_law_twin) (by decide +kernel)) (fun _ _ _ _ _ => pg_name (i := 3) sc_law_twin.nd rfl (Or.inl rfl)) (fun _ _ _ _ _ => pts_nil) (fun _ _ _ _ _ => (pe_c C_law_text hr (by rfl) (pa_cons (pe_c C_law_mix hr (by rfl) (pa_cons (pv 1) (pa_cons (pe_op op_add pe_int (pv 3)) pa_nil))) pa_nil))))))) pss_nil)
      (Evl.pss_cut (ps_if (pt_cmpR op_eq (pv 5) pe_int (nomark _)) (pss_one (ps_set (i := 2) sc_law_twin.nd rfl (.inl rfl) (pe_slice sl_list (pv 2) po_none (po_some (pe_un un_neg pe_int))))) pss_nil)
      (pss_one (ps_ret (pv 2))))))))), ?_⟩
    refine ⟨_, rfl, a, _, rfl, .inl (SqL.of ha.1), fun p hp => ?_⟩
    -- some changed
    refine ⟨fun σ H' => ∃ (os : List Str) (y3 y4 : Option V), Same H H' ∧ RL H' p os ∧ os.length = rs.length ∧ σ = [some (.ref a), some (.int c), some (.ref p), y3, y4, none], ?_, ?_⟩
    · refine ⟨sl40 (by show 5 ≤ 1000000; decide), fun u hu => ?_⟩
      obtain ⟨v, hv, hat⟩ := at_mod (xs := [V.int 0, .int 1, .int 1, .int 2, .int 5]) (c := c) (m := 5) rfl (by decide)
      obtain ⟨n, rfl, hn⟩ : ∃ n : Nat, v = .int (n : Int) ∧ n ≤ 5 := by
        simp only [List.mem_cons, List.not_mem_nil, or_false] at hv
        rcases hv with rfl | rfl | rfl | rfl | rfl
        · exact ⟨0, rfl, by decide⟩
        · exact ⟨1, rfl, by decide⟩
        · exact ⟨1, rfl, by decide⟩
        · exact ⟨2, rfl, by decide⟩
        · exact ⟨5, rfl, by decide⟩
      refine ⟨_, rfl, _, _, rfl, rfl, (by show (0 : Int) < 5; decide), u, _, _, _, rfl, rfl, SqL.of upd_same, hat, ?_⟩
      refine ⟨(n : Int), rfl, by omega, by omega, ?_⟩
      rw [show ((n : Int)).toNat = n by omega]
      refine for_range (fun i σ H' => ∃ (os : List Str) (y3 y4 : Option V), Same H H' ∧ RL H' p os ∧ os.length = rs.length ∧ σ = [some (.ref a), some (.int c), some (.ref p), y3, y4, none]) ⟨rs, none, none, ?_, ⟨?_, ha.2⟩, rfl, rfl⟩ ?_ ?_
      · exact (same_upd hp).trans (same_upd hu)
      · exact same_upd hu _ _ upd_same
      · rintro i σ H' hi ⟨os, y3, y4, sm, hos, hl, rfl⟩
        refine ⟨_, rfl, p, _, rfl, .inl (SqL.of hos.1), _, _, rfl, rfl, _, rfl, ite2 (fun e => ?_) (fun _ => ⟨os, _, _, sm, hos, hl, rfl⟩)⟩
        have h0 : (0 : Int) < (os.length : Int) := by
          have := of_decide_eq_true e
          rw [List.length_map] at this
          exact this
        refine ⟨_, rfl, _, rfl, _, _, rfl, rfl, c, (70 : Int) + ((0 : Int) + (i : Int)), rfl, _, rfl, p, _, rfl, .inl (SqL.of hos.1), _, _, rfl, rfl, ?_, ?_⟩
        · rw [List.length_map]
          exact h0
        obtain ⟨n1, e1, g1⟩ := mod_nat (x := mixF c ((70 : Int) + ((0 : Int) + (i : Int)))) h0
        refine ⟨fun σ H2 => ∃ k : Nat, k < os.length ∧ Same H' H2 ∧ σ = [some (.ref a), some (.int c), some (.ref p), some (.int ((0 : Int) + (i : Int))), some (.int (k : Int)), none], ?_, ?_⟩
        · refine ⟨_, rfl, _, rfl, _, _, rfl, rfl, c, _, rfl, _, _, rfl, rfl, (by show (0 : Int) < 3; decide), rfl, _, rfl, ite2 (fun _ => ?_) (fun _ => ?_)⟩
          · refine ⟨_, rfl, p, _, rfl, .inl (SqL.of hos.1), _, _, rfl, rfl, _, rfl, p, _, rfl, .inl (SqL.of hos.1), _, _, rfl, rfl, ⟨by decide, by decide⟩, sl40 (by show 3 ≤ 1000000; decide), fun t ht => ?_⟩
            obtain ⟨v, hv, hat⟩ := at_mod (xs := [V.int 0, .int (((os.map V.str).length : Int) - 1), .int (((os.map V.str).length : Int) / 2)]) (c := mixF c ((80 : Int) + ((0 : Int) + (i : Int)))) (m := 3) rfl (by decide)
            obtain ⟨k, rfl, hk⟩ : ∃ k : Nat, v = .int (k : Int) ∧ k < os.length := by
              simp only [List.mem_cons, List.not_mem_nil, or_false, List.length_map] at hv
              rcases hv with rfl | rfl | rfl
              · exact ⟨0, rfl, by omega⟩
              · exact ⟨os.length - 1, by congr 1; omega, by omega⟩
              · exact ⟨os.length / 2, by simp, by omega⟩
            refine ⟨_, rfl, _, rfl, _, _, rfl, rfl, c, _, rfl, _, _, rfl, rfl, (by show (0 : Int) < 3; decide), t, _, _, _, rfl, rfl, SqL.of upd_same, hat, k, hk, same_upd ht, rfl⟩
          · refine ⟨n1, by omega, fun _ _ h => h, ?_⟩
            show [some (V.ref a), some (V.int c), some (V.ref p), some (V.int ((0 : Int) + (i : Int))), some (V.int (mixF c ((70 : Int) + ((0 : Int) + (i : Int))) % ((os.map V.str).length : Int))), none] = _
            rw [List.length_map, e1]
        rintro σ H2 ⟨k, hk, sm2, rfl⟩
        have h2 := sm2 _ _ hos.1
        have hx := hos.2 _ (List.getElem_mem hk)
        have hat : atI (os.map V.str) (k : Int) = some (.str os[k]) := atI_nat (by rw [List.getElem?_map, List.getElem?_eq_getElem hk]; rfl)
        refine ⟨_, rfl, _, rfl, p, _, (k : Int), .str os[k], rfl, rfl, SqL.of h2, hat, _, rfl, _, rfl, _, _, rfl, rfl, c, _, rfl, os[k], _, rfl, hx, fun y hy => ?_⟩
        refine ⟨_, rfl, _, rfl, p, _, (k : Int), k, rfl, rfl, h2, ?_, os.set k y, _, _, upd_keep (sm.trans sm2) hp, ⟨?_, ?_⟩, by rw [List.length_set]; exact hl, rfl⟩
        · rw [List.length_map]
          exact ixN_nat hk
        · rw [upd_same, List.map_set]
        · intro x hxs
          rcases List.mem_or_eq_of_mem_set hxs with h | h
          · exact hos.2 _ h
          · rw [h]
            exact hy
      · rintro σ H' ⟨os, y3, y4, sm, hos, hl, rfl⟩
        exact ⟨os, y3, y4, sm, hos, hl, rfl⟩
    rintro σ H1 ⟨os, y3, y4, sm, hos, hl, rfl⟩
    refine ⟨_, rfl, _, _, rfl, rfl, ⟨by decide, by decide⟩, _, _, rfl, rfl, (by show (0 : Int) < 6; decide), ?_⟩
    -- cut short
    refine ⟨fun σ H' => ∃ (p : Addr) (os : List Str) (y3 y4 y5 : Option V), Same H H' ∧ H p = none ∧ RL H' p os ∧ os.length ≤ 900 ∧ y5 = some (.int (c / 5 % 6)) ∧ σ = [some (.ref a), some (.int c), some (.ref p), y3, y4, y5], ?_, ?_⟩
    · refine ⟨_, rfl, rfl, _, rfl, ite2 (fun _ => ?_) (fun _ => ⟨p, os, _, _, _, sm, hp, hos, by omega, rfl, rfl⟩)⟩
      refine ⟨_, rfl, _, rfl, c, 50, rfl, _, rfl, p, _, rfl, .inl (SqL.of hos.1), _, _, rfl, rfl, _, _, rfl, rfl, (by show (0 : Int) < 1 + ((os.map V.str).length : Int); omega), _, rfl, p, _, rfl, SqL.of hos.1, fun t ht => ?_⟩
      obtain ⟨os', e, hle, hok⟩ := RL.cut (H := H) (p := p) (lo := none) (hi := some (mixF c 50 % (1 + ((os.map V.str).length : Int)))) hos.2
      refine ⟨t, os', _, _, _, sm.trans (same_upd ht), Same.free sm ht, ⟨?_, hok⟩, by omega, rfl, rfl⟩
      rw [← e]
      exact upd_same
    clear hos hl sm
    rintro σ H1 ⟨p, os, y3, y4, y5, sm, hp, hos, hl, rfl, rfl⟩
    -- longer
    refine ⟨fun σ H' => ∃ (p : Addr) (os : List Str) (y3 y4 y5 : Option V), Same H H' ∧ H p = none ∧ RL H' p os ∧ os.length ≤ 909 ∧ y5 = some (.int (c / 5 % 6)) ∧ σ = [some (.ref a), some (.int c), some (.ref p), y3, y4, y5], ?_, ?_⟩
    · refine ⟨_, rfl, rfl, _, rfl, ite2 (fun _ => ?_) (fun _ => ⟨p, os, _, _, _, sm, hp, hos, by omega, rfl, rfl⟩)⟩
      obtain ⟨n, en, hn⟩ := mod_nat (x := mixF c 51) (m := 9) (by decide)
      refine ⟨_, rfl, _, rfl, c, 51, rfl, _, _, rfl, rfl, (by show (0 : Int) < 9; decide), _, _, rfl, rfl, ((n + 1 : Nat) : Int), ?_, by omega, by omega, fun l hl0 => ?_⟩
      · show [V.int (1 + mixF c 51 % 9)] = _
        rw [en]
        congr 2
        omega
      rw [show (((n + 1 : Nat) : Int)).toNat = n + 1 by omega]
      refine lc_range (fun i H' => Same H H' ∧ RL H' p os ∧ ∃ ys : List Str, RL H' l ys ∧ ys.length = i) ⟨sm.trans (same_upd hl0), hos.same (same_upd hl0), [], ⟨upd_same, fun x h => absurd h List.not_mem_nil⟩, rfl⟩ ?_ ?_
      · rintro i H' hi ⟨sm', hos', ys, hys, hyl⟩
        refine ⟨rfl, yes_of (iteT ?_)⟩
        refine ⟨_, rfl, _, rfl, _, _, rfl, rfl, c, _, rfl, _, rfl, fun x H2 hx sm2 => ?_⟩
        have hy2 := hys.same sm2
        refine ⟨_, hy2.1, ?_, upd_keep (sm'.trans sm2) (Same.free sm hl0), ⟨?_, hos'.2⟩, ys ++ [x], ⟨?_, ?_⟩, ?_⟩
        · rw [List.length_map]
          exact Nat.lt_of_lt_of_le (show ys.length < 1000 by omega) (by decide)
        · rw [upd_ne (ne_of_none hos.1 hl0)]
          exact sm2 _ _ hos'.1
        · rw [upd_same, List.map_append]
          rfl
        · intro x' hx'
          rcases List.mem_append.mp hx' with h | h
          · exact hys.2 _ h
          · have : x' = x := by simpa using h
            rw [this]
            exact hx
        · rw [List.length_append, hyl]
          rfl
      · rintro H' ⟨sm', hos', ys, hys, hyl⟩
        refine ⟨p, l, _, _, rfl, rfl, hos'.1, hys.1, ?_, fun t ht => ?_⟩
        · rw [List.length_map, List.length_map]
          exact sl40 (by omega)
        · refine ⟨t, os ++ ys, _, _, _, sm'.trans (same_upd ht), Same.free sm' ht, ⟨?_, ?_⟩, ?_, rfl, rfl⟩
          · rw [upd_same, List.map_append]
          · intro x hx
            rcases List.mem_append.mp hx with h | h
            · exact hos'.2 _ h
            · exact hys.2 _ h
          · rw [List.length_append]
            omega
    clear hos hl sm hp
    rintro σ H1 ⟨p, os, y3, y4, y5, sm, hp, hos, hl, rfl, rfl⟩
    -- without the last
    refine ⟨fun σ H' => ∃ (p : Addr) (os : List Str) (y3 y4 y5 : Option V), Same H H' ∧ H p = none ∧ RL H' p os ∧ os.length ≤ 909 ∧ σ = [some (.ref a), some (.int c), some (.ref p), y3, y4, y5], ?_, ?_⟩
    · refine ⟨_, rfl, rfl, _, rfl, ite2 (fun _ => ?_) (fun _ => ⟨p, os, _, _, _, sm, hp, hos, by omega, rfl⟩)⟩
      refine ⟨_, rfl, _, rfl, -1, rfl, p, _, rfl, SqL.of hos.1, fun t ht => ?_⟩
      obtain ⟨os', e, hle, hok⟩ := RL.cut (H := H) (p := p) (lo := none) (hi := some (-1)) hos.2
      refine ⟨t, os', _, _, _, sm.trans (same_upd ht), Same.free sm ht, ⟨?_, hok⟩, by omega, rfl⟩
      rw [← e]
      exact upd_same
    rintro σ H1 ⟨p, os, y3, y4, y5, sm, hp, hos, hl, rfl⟩
    exact ⟨_, rfl, q p os H1 sm hp hos hl⟩
end

/-! ### books: their rows, and the sums of their blocks (nothing of the program) -/
abbrev Lev := Nat → Nat → Nat
def put2 (v : Lev) (h j n : Nat) : Lev := fun g k => if g = h ∧ k = j then n else v g k
theorem put2_at (v : Lev) (h j n : Nat) : put2 v h j n h j = n := if_pos ⟨rfl, rfl⟩
theorem put2_ne {v : Lev} {h j n g k : Nat} (e : ¬ (g = h ∧ k = j)) : put2 v h j n g k = v g k := if_neg e
/-- the sums are the ledger's, of just these rows -/
structure Good (L : List Th) (rows : List Str) (v : Lev) : Prop where
  row : ∀ j x, rows[j]? = some x → L[v 0 j]? = some (.row x)
  pair : ∀ h j, (j + 1) * 2 ^ (h + 1) ≤ rows.length → L[v (h + 1) j]? = some (.pair (v h (2 * j) : Nat) (v h (2 * j + 1) : Nat))
theorem give_pre (L : List Th) (t : Th) : L <+: give L t := by
  unfold give
  by_cases h : t ∈ L
  · rw [if_pos h]
    exact List.prefix_refl _
  · rw [if_neg h]
    exact List.prefix_append _ _
theorem give_at (L : List Th) (t : Th) : (give L t)[numOf L t]? = some t := by
  unfold numOf
  have h := give_mem L t
  have hl := List.idxOf_lt_length_of_mem h
  rw [List.getElem?_eq_getElem hl, List.getElem_idxOf hl]
theorem give_nd {L : List Th} {t : Th} (h : L.Nodup) : (give L t).Nodup := by
  unfold give
  by_cases hm : t ∈ L
  · rw [if_pos hm]
    exact h
  · rw [if_neg hm]
    exact List.nodup_append.mpr ⟨h, by simp, fun a ha b hb e => by
      have : b = t := by simpa using hb
      rw [e, this] at ha
      exact hm ha⟩
theorem pre_at {L L' : List Th} (p : L <+: L') {i : Nat} {t : Th} (h : L[i]? = some t) : L'[i]? = some t := by
  obtain ⟨M, rfl⟩ := p
  have hl := (List.getElem?_eq_some_iff.mp h).1
  rw [List.getElem?_append_left hl]
  exact h
theorem Good.mono {L L' : List Th} {rows : List Str} {v : Lev} (g : Good L rows v) (p : L <+: L') : Good L' rows v := ⟨fun j x h => pre_at p (g.row j x h), fun h j e => pre_at p (g.pair h j e)⟩
/-- asked for from below: the blocks that have a place -/
def up (n : Nat) : Nat → Nat → Nat → List Th → Lev → List Th × Lev
  | 0, _, _, L, v => (L, v)
  | k + 1, h, j, L, v => if (j + 1) * 2 ^ (h + 1) ≤ n then up n k (h + 1) (j / 2) (give L (.pair (v h (2 * j) : Nat) (v h (2 * j + 1) : Nat))) (put2 v (h + 1) j (numOf L (.pair (v h (2 * j) : Nat) (v h (2 * j + 1) : Nat)))) else (L, v)
def settle (n i : Nat) (t : Str) (L : List Th) (v : Lev) : List Th × Lev := up n (dig n) 0 (i / 2) (give L (.row t)) (put2 v 0 i (numOf L (.row t)))
/-- how many blocks have a place -/
def blk (n : Nat) : Nat → Nat → Nat → Nat
  | 0, _, _ => 0
  | k + 1, h, j => if (j + 1) * 2 ^ h ≤ n then blk n k (h + 1) (j / 2) + 1 else 0
def blocks (n i : Nat) : Nat := blk n (dig n + 1) 0 i
theorem up_pre (n : Nat) : ∀ (k h j : Nat) (L : List Th) (v : Lev), L <+: (up n k h j L v).1
  | 0, _, _, L, _ => List.prefix_refl L
  | k + 1, h, j, L, v => by
    unfold up
    by_cases c : (j + 1) * 2 ^ (h + 1) ≤ n
    · rw [if_pos c]
      exact (give_pre L _).trans (up_pre n k _ _ _ _)
    · rw [if_neg c]
      exact List.prefix_refl L
theorem up_nd (n : Nat) : ∀ (k h j : Nat) (L : List Th) (v : Lev), L.Nodup → (up n k h j L v).1.Nodup
  | 0, _, _, _, _, nd => nd
  | k + 1, h, j, L, v, nd => by
    unfold up
    by_cases c : (j + 1) * 2 ^ (h + 1) ≤ n
    · rw [if_pos c]
      exact up_nd n k _ _ _ _ (give_nd nd)
    · rw [if_neg c]
      exact nd
theorem up_len (n : Nat) : ∀ (k h j : Nat) (L : List Th) (v : Lev), (up n k h j L v).1.length ≤ L.length + blk n k (h + 1) j
  | 0, _, _, L, _ => Nat.le_refl _
  | k + 1, h, j, L, v => by
    unfold up blk
    by_cases c : (j + 1) * 2 ^ (h + 1) ≤ n
    · rw [if_pos c, if_pos c]
      have h1 := up_len n k (h + 1) (j / 2) (give L (.pair (v h (2 * j) : Nat) (v h (2 * j + 1) : Nat))) (put2 v (h + 1) j (numOf L (.pair (v h (2 * j) : Nat) (v h (2 * j + 1) : Nat))))
      have h2 := give_len L (.pair (v h (2 * j) : Nat) (v h (2 * j + 1) : Nat))
      omega
    · rw [if_neg c, if_neg c]
      exact Nat.le_refl _
theorem settle_pre (n i : Nat) (t : Str) (L : List Th) (v : Lev) : L <+: (settle n i t L v).1 := (give_pre L _).trans (up_pre n _ _ _ _ _)
theorem settle_nd {n i : Nat} {t : Str} {L : List Th} {v : Lev} (h : L.Nodup) : (settle n i t L v).1.Nodup := up_nd n _ _ _ _ _ (give_nd h)
theorem settle_len {n i : Nat} {t : Str} {L : List Th} {v : Lev} (hi : i < n) : (settle n i t L v).1.length ≤ L.length + blocks n i := by
  have h1 := up_len n (dig n) 0 (i / 2) (give L (.row t)) (put2 v 0 i (numOf L (.row t)))
  have h2 := give_len L (.row t)
  unfold settle blocks blk
  rw [if_pos (by omega)]
  omega
/-- a block of a place, and those in it -/
theorem half_le {n h j : Nat} (c : (j / 2 + 1) * 2 ^ (h + 1) ≤ n) : (j + 1) * 2 ^ h ≤ n := by
  have e : 2 ^ (h + 1) = 2 * 2 ^ h := by rw [Nat.pow_succ]; omega
  rw [e] at c
  have : (j + 1) * 2 ^ h ≤ (j / 2 + 1) * (2 * 2 ^ h) := by
    rw [← Nat.mul_assoc]
    exact Nat.mul_le_mul_right _ (by omega)
  omega
/-- what stands behind the climb, all blocks below h being right -/
theorem up_good {n i : Nat} : ∀ (k h : Nat) (L : List Th) (v : Lev), n < 2 ^ (h + 1 + k) →
    (∀ g j, g < h → (j + 1) * 2 ^ (g + 1) ≤ n → L[v (g + 1) j]? = some (.pair (v g (2 * j) : Nat) (v g (2 * j + 1) : Nat))) →
    (∀ g j, h ≤ g → (j + 1) * 2 ^ (g + 1) ≤ n → j ≠ i / 2 ^ (g + 1) → L[v (g + 1) j]? = some (.pair (v g (2 * j) : Nat) (v g (2 * j + 1) : Nat))) →
    (∀ g j, (j + 1) * 2 ^ (g + 1) ≤ n → (up n k h (i / 2 ^ (h + 1)) L v).1[(up n k h (i / 2 ^ (h + 1)) L v).2 (g + 1) j]? = some (.pair ((up n k h (i / 2 ^ (h + 1)) L v).2 g (2 * j) : Nat) ((up n k h (i / 2 ^ (h + 1)) L v).2 g (2 * j + 1) : Nat))) ∧
    ∀ j, (up n k h (i / 2 ^ (h + 1)) L v).2 0 j = v 0 j
  | 0, h, L, v, hn, h1, h2 => by
    refine ⟨fun g j c => ?_, fun _ => rfl⟩
    by_cases hg : g < h
    · exact h1 g j hg c
    · have : 2 ^ (h + 1 + 0) ≤ 2 ^ (g + 1) := Nat.pow_le_pow_right (by decide) (by omega)
      have h3 : 1 * 2 ^ (g + 1) ≤ (j + 1) * 2 ^ (g + 1) := Nat.mul_le_mul_right _ (by omega)
      omega
  | k + 1, h, L, v, hn, h1, h2 => by
    unfold up
    have ediv : i / 2 ^ (h + 1) / 2 = i / 2 ^ (h + 1 + 1) := by rw [Nat.div_div_eq_div_mul, ← Nat.pow_succ]
    by_cases c : (i / 2 ^ (h + 1) + 1) * 2 ^ (h + 1) ≤ n
    · rw [if_pos c, ediv]
      refine (fun z => ⟨z.1, fun j => (z.2 j).trans (put2_ne (by omega))⟩) (up_good k (h + 1) _ _ (by rw [show h + 1 + 1 + k = h + 1 + (k + 1) by omega]; exact hn) (fun g j hg cg => ?_) fun g j hg cg hne => ?_)
      · by_cases e : g = h ∧ j = i / 2 ^ (h + 1)
        · obtain ⟨rfl, rfl⟩ := e
          rw [put2_at, put2_ne (by omega), put2_ne (by omega)]
          exact give_at L _
        · have e1 : ¬ (g + 1 = h + 1 ∧ j = i / 2 ^ (h + 1)) := fun z => e ⟨by omega, z.2⟩
          rw [put2_ne e1, put2_ne (by omega), put2_ne (by omega)]
          refine pre_at (give_pre L _) ?_
          by_cases hgh : g < h
          · exact h1 g j hgh cg
          · have : g = h := by omega
            subst this
            exact h2 g j (Nat.le_refl _) cg fun z => e ⟨rfl, z⟩
      · have e1 : ¬ (g + 1 = h + 1 ∧ j = i / 2 ^ (h + 1)) := by omega
        have e2 : ∀ j', (j' = 2 * j ∨ j' = 2 * j + 1) → ¬ (g = h + 1 ∧ j' = i / 2 ^ (h + 1)) := fun j' hj' z => by
          obtain ⟨rfl, rfl⟩ := z
          refine hne ?_
          rw [← ediv]
          omega
        rw [put2_ne e1, put2_ne (e2 _ (.inl rfl)), put2_ne (e2 _ (.inr rfl))]
        exact pre_at (give_pre L _) (h2 g j (by omega) cg hne)
    · rw [if_neg c]
      refine ⟨fun g j cg => ?_, fun _ => rfl⟩
      by_cases hg : g < h
      · exact h1 g j hg cg
      · refine h2 g j (by omega) cg fun e => c ?_
        have mono : ∀ m g', g' + m = g → (i / 2 ^ (g' + 1) + 1) * 2 ^ (g' + 1) ≤ n := by
          intro m
          induction m with
          | zero =>
            intro g' hg'
            have : g' = g := by omega
            subst this
            rw [← e]
            exact cg
          | succ m ih =>
            intro g' hg'
            have := ih (g' + 1) (by omega)
            rw [show i / 2 ^ (g' + 1 + 1) = i / 2 ^ (g' + 1) / 2 by rw [Nat.div_div_eq_div_mul, ← Nat.pow_succ]] at this
            exact half_le this
        exact mono (g - h) h (by omega)
theorem settle_good {i : Nat} {t : Str} {L : List Th} {v : Lev} {rows rows' : List Str} (g : Good L rows v) (hi : i < rows'.length)
    (hr : ∀ j, j ≠ i → rows'[j]? = rows[j]? ∨ rows'[j]? = none) (ht : rows'[i]? = some t) (hlen : rows'.length ≤ rows.length ∨ (rows'.length = rows.length + 1 ∧ i = rows.length)) :
    Good (settle rows'.length i t L v).1 rows' (settle rows'.length i t L v).2 := by
  have hd := dig_lt rows'.length
  have key := up_good (n := rows'.length) (i := i) (dig rows'.length) 0 (give L (.row t)) (put2 v 0 i (numOf L (.row t))) (Nat.lt_of_lt_of_le hd (Nat.pow_le_pow_right (by decide) (by omega))) (fun g j hg => absurd hg (Nat.not_lt_zero _)) (fun h j _ c hne => ?_)
  · have e1 : i / 2 ^ (0 + 1) = i / 2 := rfl
    rw [e1] at key
    refine ⟨fun j x hx => ?_, key.1⟩
    refine pre_at (up_pre rows'.length (dig rows'.length) 0 (i / 2) _ _) ?_
    show (give L (.row t))[(up rows'.length (dig rows'.length) 0 (i / 2) (give L (.row t)) (put2 v 0 i (numOf L (.row t)))).2 0 j]? = _
    rw [key.2 j]
    by_cases e : j = i
    · subst e
      rw [put2_at]
      rw [ht] at hx
      cases hx
      exact give_at L _
    · rw [put2_ne (by omega)]
      rcases hr j e with z | z
      · rw [z] at hx
        exact pre_at (give_pre L _) (g.row j x hx)
      · rw [z] at hx
        cases hx
  · rw [put2_ne (by omega)]
    have hb : (j + 1) * 2 ^ (h + 1) ≤ rows.length := by
      rcases hlen with z | ⟨z1, z2⟩
      · omega
      · by_cases hc : (j + 1) * 2 ^ (h + 1) ≤ rows.length
        · exact hc
        · exfalso
          have he : (j + 1) * 2 ^ (h + 1) = i + 1 := by omega
          have hp := Nat.two_pow_pos (h + 1)
          refine hne ?_
          have : i = j * 2 ^ (h + 1) + (2 ^ (h + 1) - 1) := by
            rw [Nat.add_mul, Nat.one_mul] at he
            omega
          rw [this, Nat.mul_comm j, Nat.mul_add_div hp, Nat.div_eq_of_lt (by omega)]
          rfl
    have hn0 : ∀ j', (j' = 2 * j ∨ j' = 2 * j + 1) → ¬ (h = 0 ∧ j' = i) := fun j' hj' z => by
      obtain ⟨rfl, rfl⟩ := z
      refine hne ?_
      show j = j' / 2 ^ 1
      omega
    rw [put2_ne (hn0 _ (.inl rfl)), put2_ne (hn0 _ (.inr rfl))]
    exact pre_at (give_pre L _) (g.pair h j hb)
/-- the sums of a shorter book -/
theorem Good.cut {L : List Th} {rows rows' : List Str} {v : Lev} (g : Good L rows v) (p : rows' <+: rows) : Good L rows' v := by
  obtain ⟨M, rfl⟩ := p
  refine ⟨fun j x h => g.row j x ?_, fun h j c => g.pair h j (by rw [List.length_append]; omega)⟩
  rw [List.getElem?_append_left (List.getElem?_eq_some_iff.mp h).1]
  exact h
/-- the rows of a block -/
def rowsOf (rows : List Str) (h j : Nat) : List Str := (rows.drop (j * 2 ^ h)).take (2 ^ h)
theorem rowsOf_succ (rows : List Str) (h j : Nat) : rowsOf rows (h + 1) j = rowsOf rows h (2 * j) ++ rowsOf rows h (2 * j + 1) := by
  unfold rowsOf
  have e : 2 ^ (h + 1) = 2 ^ h + 2 ^ h := by rw [Nat.pow_succ]; omega
  have e1 : j * 2 ^ (h + 1) = 2 * j * 2 ^ h := by rw [Nat.pow_succ, ← Nat.mul_assoc, Nat.mul_comm _ 2, Nat.mul_assoc 2 j]
  have e2 : (2 * j + 1) * 2 ^ h = 2 * j * 2 ^ h + 2 ^ h := by rw [Nat.add_mul, Nat.one_mul]
  rw [e1, e2, e, List.take_add, List.drop_drop]
theorem rowsOf_len {rows : List Str} {h j : Nat} (c : (j + 1) * 2 ^ h ≤ rows.length) : (rowsOf rows h j).length = 2 ^ h := by
  unfold rowsOf
  rw [Nat.add_mul, Nat.one_mul] at c
  rw [List.length_take, List.length_drop]
  omega
theorem left_in {n h j : Nat} (c : (j + 1) * 2 ^ (h + 1) ≤ n) : (2 * j + 1) * 2 ^ h ≤ n := half_le (j := 2 * j) (by rw [show 2 * j / 2 = j by omega]; exact c)
theorem right_in {n h j : Nat} (c : (j + 1) * 2 ^ (h + 1) ≤ n) : (2 * j + 1 + 1) * 2 ^ h ≤ n := half_le (j := 2 * j + 1) (by rw [show (2 * j + 1) / 2 = j by omega]; exact c)
theorem nd_inj {L : List Th} (nd : L.Nodup) {a b : Nat} {t : Th} (h1 : L[a]? = some t) (h2 : L[b]? = some t) : a = b := (List.getElem?_inj (List.getElem?_eq_some_iff.mp h1).1 nd).mp (h1.trans h2.symm)
/-- two sums are the same just where the rows are -/
theorem sums_eq {L : List Th} {r1 r2 : List Str} {v1 v2 : Lev} (nd : L.Nodup) (g1 : Good L r1 v1) (g2 : Good L r2 v2) : ∀ (h j k : Nat), (j + 1) * 2 ^ h ≤ r1.length → (k + 1) * 2 ^ h ≤ r2.length → (v1 h j = v2 h k ↔ rowsOf r1 h j = rowsOf r2 h k)
  | 0, j, k, c1, c2 => by
    have l1 : j < r1.length := by have : 2 ^ 0 = 1 := rfl; omega
    have l2 : k < r2.length := by have : 2 ^ 0 = 1 := rfl; omega
    have e1 := g1.row j _ (List.getElem?_eq_getElem l1)
    have e2 := g2.row k _ (List.getElem?_eq_getElem l2)
    have f1 : rowsOf r1 0 j = [r1[j]] := by
      unfold rowsOf
      rw [Nat.pow_zero, Nat.mul_one, List.drop_eq_getElem_cons l1]
      rfl
    have f2 : rowsOf r2 0 k = [r2[k]] := by
      unfold rowsOf
      rw [Nat.pow_zero, Nat.mul_one, List.drop_eq_getElem_cons l2]
      rfl
    rw [f1, f2]
    constructor
    · intro e
      rw [e, e2] at e1
      injection e1 with z
      injection z with z
      rw [z]
    · intro e
      have z : r1[j] = r2[k] := by simpa using e
      rw [z] at e1
      exact nd_inj nd e1 e2
  | h + 1, j, k, c1, c2 => by
    have e1 := g1.pair h j c1
    have e2 := g2.pair h k c2
    have i1 := sums_eq nd g1 g2 h (2 * j) (2 * k) (left_in c1) (left_in c2)
    have i2 := sums_eq nd g1 g2 h (2 * j + 1) (2 * k + 1) (right_in c1) (right_in c2)
    rw [rowsOf_succ, rowsOf_succ]
    constructor
    · intro e
      rw [e, e2] at e1
      injection e1 with z
      injection z with z1 z2
      rw [i1.mp (by omega), i2.mp (by omega)]
    · intro e
      obtain ⟨z1, z2⟩ := List.append_inj e (by rw [rowsOf_len (left_in c1), rowsOf_len (left_in c2)])
      rw [i1.mpr z1, i2.mpr z2] at e1
      exact nd_inj nd e1 e2

def setA {α : Type} (F : Nat → α) (t : Nat) (v : α) : Nat → α := fun i => if i = t then v else F i
theorem setA_at {α : Type} (F : Nat → α) (t : Nat) (v : α) : setA F t v t = v := if_pos rfl
theorem setA_ne {α : Type} {F : Nat → α} {t i : Nat} {v : α} (h : i ≠ t) : setA F t v i = F i := if_neg h
theorem setA_self {α : Type} (F : Nat → α) (t : Nat) : setA F t (F t) = F := funext fun i => by
  unfold setA
  by_cases h : i = t
  · rw [if_pos h, h]
  · rw [if_neg h]
theorem LedAt.dict {w : World} {C : Addr} {H : Hp} {p d l : Addr} {L : List Th} (h : LedAt w C H p d l L) : ∃ E, H d = some (.ext (Raw w d E)) := by
  obtain ⟨_, _, _, E, e, _⟩ := h.dm
  exact ⟨E, e⟩

/-! ### books: what each of their deeds promises -/
structure BS where
  b : Addr
  F : Addr → Prop
  rows : List Str
  v : Lev
def bookMeths : List Str := ["put", "add", "cut", "count", "row", "rows", "sum_of"]
/-- how a book of a ledger stands in the heap -/
structure Rep (CB : Addr) where
  At : Hp → Addr → BS → Prop
  frame : ∀ {H H' : Hp} {p : Addr} {x : BS}, At H p x → (∀ a o, x.F a → H a = some o → H' a = some o) → At H' p x
  alive : ∀ {H : Hp} {p : Addr} {x : BS}, At H p x → ∀ a, x.F a → ∃ o, H a = some o
  fb : ∀ {H : Hp} {p : Addr} {x : BS}, At H p x → x.F x.b
  ob : ∀ {H : Hp} {p : Addr} {x : BS}, At H p x → ∃ dx fs, H x.b = some (.ins CB dx fs) ∧ ∀ m : Str, m ∈ bookMeths → fs.lookup m = none
structure Bk {CB : Addr} (R : Rep CB) (w : World) (C : Addr) (H : Hp) (p d l : Addr) (L : List Th) (x : BS) : Prop where
  led : LedAt w C H p d l L
  at_ : R.At H p x
  good : Good L x.rows x.v
  own : ∀ a, x.F a → a ≠ p ∧ a ≠ d ∧ a ≠ l
  ok : ∀ t ∈ x.rows, okS 40 t
  few : x.rows.length ≤ 1024
structure Chg (H H' : Hp) (d l : Addr) (F : Addr → Prop) : Prop where
  out : ∀ a o, H a = some o → ¬ F a → a ≠ d → a ≠ l → H' a = some o
  tup : ∀ a xs, H a = some (.tup xs) → H' a = some (.tup xs)
def Grew (H : Hp) (F F' : Addr → Prop) : Prop := ∀ a, F' a → F a ∨ H a = none
def placeV (n : Nat) : V → Option Nat
  | .int i => if 0 ≤ i ∧ i < (n : Int) then some i.toNat else none
  | _ => none
def blockV (n : Nat) : V → V → Option (Nat × Nat)
  | .int h, .int j => if 0 ≤ h ∧ 0 ≤ j ∧ (j.toNat + 1) * 2 ^ h.toNat ≤ n then some (h.toNat, j.toNat) else none
  | _, _ => none
section
variable {CB : Addr} (R : Rep CB) (w : World) (C : Addr) (cR cP cB cF : Addr)
def making : List Str → Nat → List Th → Lev → List Th × Lev
  | [], _, L, v => (L, v)
  | t :: ts, n, L, v => making ts (n + 1) (settle (n + 1) n t L v).1 (settle (n + 1) n t L v).2
def v0 : Lev := fun _ _ => 0
def spBook : Sp := fun vs H Q E => ∃ (x p d l a dx : Addr) (L : List Th) (us : List V), vs = [.ref x, .ref p, .ref a] ∧ H x = some (.ins CB dx []) ∧ LedAt w C H p d l L ∧ H a = some (.lst us) ∧ a ≠ l ∧ (∀ u ∈ us, AnyV H u) ∧ L.length < 800000 ∧ us.length ≤ 100000 ∧
  ((∃ u ∈ us, rowV u = false) → ∀ H', (∀ b o, H b = some o → b ≠ x → H' b = some o) → E (.ref cR) none H') ∧
  ((∀ u ∈ us, rowV u = true) → 1024 < us.length → ∀ H', (∀ b o, H b = some o → b ≠ x → H' b = some o) → E (.ref cF) none H') ∧
  (∀ rows : List Str, us = rows.map V.str → (∀ t ∈ rows, okS 40 t) → rows.length ≤ 1024 → ∀ H' F', Chg H H' d l (fun b => b = x) → Grew H (fun b => b = x) F' → Bk R w C H' p d l (making rows 0 L v0).1 ⟨x, F', rows, (making rows 0 L v0).2⟩ → Q .non H')
def spPut : Sp := fun vs H Q E => ∃ (p d l : Addr) (L : List Th) (x : BS) (y z : V), vs = [.ref x.b, y, z] ∧ Bk R w C H p d l L x ∧ AnyV H y ∧ AnyV H z ∧ L.length < 900000 ∧
  (placeV x.rows.length y = none → ∀ H', Same H H' → E (.ref cP) none H') ∧
  (∀ i, placeV x.rows.length y = some i → rowV z = false → ∀ H', Same H H' → E (.ref cR) none H') ∧
  (∀ i t, placeV x.rows.length y = some i → z = .str t → rowStr t = true → ∀ H' F', Chg H H' d l x.F → Grew H x.F F' →
    Bk R w C H' p d l (settle x.rows.length i t L x.v).1 ⟨x.b, F', x.rows.set i t, (settle x.rows.length i t L x.v).2⟩ → Q (.int (blocks x.rows.length i : Nat)) H')
def spAdd : Sp := fun vs H Q E => ∃ (p d l : Addr) (L : List Th) (x : BS) (z : V), vs = [.ref x.b, z] ∧ Bk R w C H p d l L x ∧ AnyV H z ∧ L.length < 900000 ∧
  (rowV z = false → ∀ H', Same H H' → E (.ref cR) none H') ∧
  (rowV z = true → x.rows.length = 1024 → ∀ H', Same H H' → E (.ref cF) none H') ∧
  (∀ t, z = .str t → rowStr t = true → x.rows.length < 1024 → ∀ H' F', Chg H H' d l x.F → Grew H x.F F' →
    Bk R w C H' p d l (settle (x.rows.length + 1) x.rows.length t L x.v).1 ⟨x.b, F', x.rows ++ [t], (settle (x.rows.length + 1) x.rows.length t L x.v).2⟩ → Q (.int (blocks (x.rows.length + 1) x.rows.length : Nat)) H')
def spCut : Sp := fun vs H Q E => ∃ (p d l : Addr) (L : List Th) (x : BS), vs = [.ref x.b] ∧ Bk R w C H p d l L x ∧
  (x.rows = [] → ∀ H', Same H H' → E (.ref cP) none H') ∧
  (x.rows ≠ [] → ∀ H' F', Chg H H' d l x.F → Grew H x.F F' → Bk R w C H' p d l L ⟨x.b, F', x.rows.dropLast, x.v⟩ → Q (.int (blocks x.rows.length (x.rows.length - 1) : Nat)) H')
def spCount : Sp := fun vs H Q _ => ∃ (p : Addr) (x : BS), vs = [.ref x.b] ∧ R.At H p x ∧ ∀ H', Same H H' → Q (.int (x.rows.length : Nat)) H'
def spRow : Sp := fun vs H Q E => ∃ (p : Addr) (x : BS) (y : V), vs = [.ref x.b, y] ∧ R.At H p x ∧ AnyV H y ∧ (placeV x.rows.length y = none → ∀ H', Same H H' → E (.ref cP) none H') ∧
  (∀ i t, placeV x.rows.length y = some i → x.rows[i]? = some t → ∀ H', Same H H' → Q (.str t) H')
def spRowsB : Sp := fun vs H Q _ => ∃ (p : Addr) (x : BS), vs = [.ref x.b] ∧ R.At H p x ∧ ∀ H' a, Same H H' → H a = none → H' a = some (.lst (x.rows.map V.str)) → Q (.ref a) H'
def spSumOf : Sp := fun vs H Q E => ∃ (p : Addr) (x : BS) (y z : V), vs = [.ref x.b, y, z] ∧ R.At H p x ∧ AnyV H y ∧ AnyV H z ∧ x.rows.length ≤ 1024 ∧ (blockV x.rows.length y z = none → ∀ H', Same H H' → E (.ref cB) none H') ∧
  (∀ h j, blockV x.rows.length y z = some (h, j) → ∀ H', Same H H' → Q (.int (x.v h j : Nat)) H')
end
/-! ### a ledger and its books -/
def Free (d l : Addr) (n : Nat) (B : Nat → BS) (a : Addr) : Prop := a ≠ d ∧ a ≠ l ∧ ∀ i < n, ¬ (B i).F a
structure Sys {CB : Addr} (R : Rep CB) (w : World) (C : Addr) (H : Hp) (p d l : Addr) (L : List Th) (n : Nat) (B : Nat → BS) : Prop where
  led : LedAt w C H p d l L
  bk : ∀ i < n, Bk R w C H p d l L (B i)
  sep : ∀ i < n, ∀ j < n, i ≠ j → ∀ a, (B i).F a → ¬ (B j).F a
section
variable {CB : Addr} {R : Rep CB} {w : World} {C : Addr} {H H' : Hp} {p d l : Addr} {L L' : List Th} {n : Nat} {B : Nat → BS} {x : BS}
theorem Bk.same (h : Bk R w C H p d l L x) (s : Same H H') : Bk R w C H' p d l L x := ⟨h.led.same s, R.frame h.at_ fun a o _ e => s a o e, h.good, h.own, h.ok, h.few⟩
theorem Sys.same (h : Sys R w C H p d l L n B) (s : Same H H') : Sys R w C H' p d l L n B := ⟨h.led.same s, fun i hi => (h.bk i hi).same s, h.sep⟩
theorem Sys.step {i : Nat} (h : Sys R w C H p d l L n B) (hi : i < n) (c : Chg H H' d l (B i).F) (g : Grew H (B i).F x.F) (b : Bk R w C H' p d l L' x) (pr : L <+: L') : Sys R w C H' p d l L' n (setA B i x) := by
  refine ⟨b.led, fun j hj => ?_, fun j hj k hk ne a ha hb => ?_⟩
  · by_cases e : j = i
    · subst e
      rw [setA_at]
      exact b
    · rw [setA_ne e]
      have hj' := h.bk j hj
      exact ⟨b.led, R.frame hj'.at_ fun a o ha ho => c.out a o ho (h.sep j hj i hi e a ha) (hj'.own a ha).2.1 (hj'.own a ha).2.2, hj'.good.mono pr, hj'.own, hj'.ok, hj'.few⟩
  · by_cases e : j = i
    · subst e
      rw [setA_at] at ha
      rw [setA_ne (fun z => ne z.symm)] at hb
      rcases g a ha with z | z
      · exact h.sep j hj k hk ne a z hb
      · obtain ⟨o, ho⟩ := R.alive (h.bk k hk).at_ a hb
        rw [z] at ho
        cases ho
    · rw [setA_ne e] at ha
      by_cases e2 : k = i
      · subst e2
        rw [setA_at] at hb
        rcases g a hb with z | z
        · exact h.sep j hj k hk ne a ha z
        · obtain ⟨o, ho⟩ := R.alive (h.bk j hj).at_ a ha
          rw [z] at ho
          cases ho
      · rw [setA_ne e2] at hb
        exact h.sep j hj k hk ne a ha hb
/-- what is none of theirs stays -/
theorem Sys.out {i : Nat} {a : Addr} {o : HO} (hi : i < n) (c : Chg H H' d l (B i).F) (g : Grew H (B i).F x.F) (f : Free d l n B a) (e : H a = some o) : H' a = some o ∧ Free d l n (setA B i x) a := by
  refine ⟨c.out a o e (f.2.2 i hi) f.1 f.2.1, f.1, f.2.1, fun j hj hb => ?_⟩
  by_cases z : j = i
  · subst z
    rw [setA_at] at hb
    rcases g a hb with q | q
    · exact f.2.2 j hj q
    · rw [e] at q
      cases q
  · rw [setA_ne z] at hb
    exact f.2.2 j hj hb
/-- where something that is none of theirs has changed -/
theorem Sys.write {a : Addr} {o u : HO} (h : Sys R w C H p d l L n B) (f : Free d l n B a) (e : H a = some o) (ni : ∀ C dx fs, o ≠ .ins C dx fs) (nt : ∀ xs, o ≠ .tup xs) : Sys R w C (upd H a u) p d l L n B := by
  have hp : p ≠ a := by
    obtain ⟨dx, fs, hp, _⟩ := h.led.ob
    exact ne_of hp e fun z => ni _ _ _ z.symm
  have k : Keep H (L2.upd H a u) a a := fun b x eb h1 _ => by rw [upd_ne h1]; exact eb
  have tk : ∀ b xs, H b = some (.tup xs) → (L2.upd H a u) b = some (.tup xs) := fun b xs eb => k b _ eb (ne_of eb e fun z => nt _ z.symm) (ne_of eb e fun z => nt _ z.symm)
  have hl : LedAt w C (L2.upd H a u) p d l L := h.led.other k f.1.symm f.1.symm f.2.1.symm f.2.1.symm hp hp tk
  refine ⟨hl, fun i hi => ?_, h.sep⟩
  have hb := h.bk i hi
  exact ⟨hl, R.frame hb.at_ fun b o' hF ho => by rw [upd_ne (fun z => f.2.2 i hi (by rw [← z]; exact hF))]; exact ho, hb.good, hb.own, hb.ok, hb.few⟩
theorem Free.new {a : Addr} (h : Sys R w C H p d l L n B) (e : H a = none) : Free d l n B a := by
  obtain ⟨E, hd⟩ := h.led.dict
  obtain ⟨vs, hl, _⟩ := h.led.tl
  refine ⟨(ne_of_none hd e).symm, (ne_of_none hl e).symm, fun i hi hF => ?_⟩
  obtain ⟨o, ho⟩ := R.alive (h.bk i hi).at_ a hF
  rw [e] at ho
  cases ho
end

/-! ### a deed, kept beside -/
structure TBk (K : PySem.W.Frag) (mg : Str → Option Value) (CB : Addr) : Prop where
  cl : Cls K CB
  g : mg "Book" = some (.ref CB)
theorem blk_le (n : Nat) : ∀ k h j, blk n k h j ≤ k
  | 0, _, _ => Nat.le_refl _
  | k + 1, h, j => by
    unfold blk
    by_cases c : (j + 1) * 2 ^ h ≤ n
    · rw [if_pos c]
      exact Nat.succ_le_succ (blk_le n k _ _)
    · rw [if_neg c]
      exact Nat.zero_le _
theorem blocks_le {n i : Nat} (h : n ≤ 2000) : blocks n i ≤ 12 := by
  have h1 := blk_le n (dig n + 1) 0 i
  have h2 : dig n ≤ 11 := dig_le (by omega)
  unfold blocks
  omega
section
variable {CB : Addr} {R : Rep CB} {w : World} {C cR cP cB cF : Addr} {H H' : Hp} {p d l : Addr} {L L' : List Th} {n : Nat} {B : Nat → BS} {x : BS}
/-- behind a deed, and the list kept beside made as it is -/
theorem Sys.both {i : Nat} {a : Addr} {us us' : List V} (h : Sys R w C H p d l L n B) (hi : i < n) (c : Chg H H' d l (B i).F) (g : Grew H (B i).F x.F) (b : Bk R w C H' p d l L' x) (pr : L <+: L') (f : Free d l n B a) (e : H a = some (.lst us)) :
    Sys R w C (upd H' a (.lst us')) p d l L' n (setA B i x) ∧ (∀ z o, H z = some o → z ≠ a → Free d l n B z → (upd H' a (.lst us')) z = some o ∧ Free d l n (setA B i x) z) ∧ Free d l n (setA B i x) a := by
  have s := h.step hi c g b pr
  obtain ⟨e', f'⟩ := Sys.out (x := x) hi c g f e
  refine ⟨s.write f' e' (fun _ _ _ z => by cases z) (fun _ z => by cases z), fun z o hz ne fz => ?_, f'⟩
  obtain ⟨e2, f2⟩ := Sys.out (x := x) hi c g fz hz
  exact ⟨by rw [upd_ne ne]; exact e2, f2⟩
def spChange {CB : Addr} (R : Rep CB) (w : World) (C : Addr) : Sp := fun vs H Q _ => ∃ (p d l : Addr) (L : List Th) (n : Nat) (B : Nat → BS) (i : Nat) (a ao : Addr) (os : List Str) (c : Int), i < n ∧ vs = [.ref (B i).b, .ref a, .ref ao, .int c] ∧ Sys R w C H p d l L n B ∧
  H a = some (.lst ((B i).rows.map V.str)) ∧ Free d l n B a ∧ RL H ao os ∧ L.length < 800000 ∧ (B i).rows.length < 1000 ∧
  ∀ H' L' x, Sys R w C H' p d l L' n (setA B i x) → x.b = (B i).b → H' a = some (.lst (x.rows.map V.str)) → x.rows.length ≤ (B i).rows.length + 1 → L <+: L' → L'.length ≤ L.length + 12 →
    (∀ z o, H z = some o → z ≠ a → Free d l n B z → H' z = some o ∧ Free d l n (setA B i x) z) → Free d l n (setA B i x) a → Q .non H'
end

section
variable {P : Program} {K : PySem.W.Frag} {mg : Str → Option Value} {base : Heap} {CB : Addr} {R : Rep CB} {w : World} {C cR cP cB cF : Addr}
theorem ok_change (D : Dfn K mg "_law_change" s_law_change ["_law_book", "_law_rows_here", "_law_others", "_law_cell"]) (T_Book : TBk K mg CB) (B : Bi mg) (C_law_mix : COk P w K mg base CX0 "_law_mix" 1 ["_law_number", "_law_k"] spMix) (C_law_text : COk P w K mg base CX0 "_law_text" 2 ["_law_cell"] spText)
    (C_law_near : COk P w K mg base CX0 "_law_near" 1 ["_law_text_here", "_law_cell"] spNear) (M_Book_put : MOk P w K mg base (L2.CX P w) CB "put" 9 ["self", "place", "row"] (spPut R w C cR cP)) (M_Book_add : MOk P w K mg base (L2.CX P w) CB "add" 9 ["self", "row"] (spAdd R w C cR cF))
    (M_Book_cut : MOk P w K mg base (L2.CX P w) CB "cut" 9 ["self"] (spCut R w C cP)) : COk P w K mg base CX0 "_law_change" 10 ["_law_book", "_law_rows_here", "_law_others", "_law_cell"] (spChange R w C) := by
  obtain ⟨f_Book_add, d_Book_add, G_Book_add, m_Book_add, b_Book_add⟩ := M_Book_add.ex
  obtain ⟨f_Book_cut, d_Book_cut, G_Book_cut, m_Book_cut, b_Book_cut⟩ := M_Book_cut.ex
  obtain ⟨f_Book_put, d_Book_put, G_Book_put, m_Book_put, b_Book_put⟩ := M_Book_put.ex
  refine c_mk D sc_law_change (fun vs H Q E h => ?_) (fun f cdv A outer s H vs Q E hr h => ?_)
  · obtain ⟨p, d, l, L, n, B, i, a, ao, os, c, hi, rfl, _⟩ := h
    rfl
  · obtain ⟨p, d, l, L, n, BB, i, a, ao, os, c, hi, rfl, hS, ha, hfa, hao, hL, hlen, q⟩ := h
    refine ⟨_, (pss_cons (ps_set (i := 4) sc_law_change.nd rfl (.inl rfl) (pe_op op_mod (pv 3) pe_int))
      (pss_cons (ps_set (i := 5) sc_law_change.nd rfl (.inl rfl) (pe_c C_law_text hr (by rfl) (pa_cons (pe_op op_mod (pe_c C_law_mix hr (by rfl) (pa_cons (pv 3) (pa_cons pe_int pa_nil))) (pe_ix ix_list (pe_lst (pa_cons pe_int (pa_cons pe_int pa_nil))) (pe_op op_mod (pe_op op_fdiv (pv 3) pe_int) pe_int) (fun _ _ => rfl))) pa_nil)))
      (pss_one (ps_if ((pw_and (pt_cmpR op_lt (pv 4) pe_int (nomark _)) (pw_and1 (pt_cmpR op_gt (pe_callB (id := "len") call_len_seq (by rfl) B.len (by decide +kernel) (pa_cons (pv 1) pa_nil)) pe_int (nomark _))))).pt (pss_cons (ps_set (i := 6) sc_law_change.nd rfl (.inl rfl) (pe_op op_mod (pe_c C_law_mix hr (by rfl) (pa_cons (pv 3) (pa_cons pe_int pa_nil))) (pe_callB (id := "len") call_len_seq (by rfl) B.len (by decide +kernel) (pa_cons (pv 1) pa_nil))))
      (Evl.pss_cut (ps_if ((pw_and (pt_cmpR op_eq (pv 4) pe_int (nomark _)) (pw_and1 (pt_cmpR op_lt (pv 6) (pe_callB (id := "len") call_len_seq (by rfl) B.len (by decide +kernel) (pa_cons (pv 2) pa_nil)) (nomark _))))).pt (pss_one (ps_set (i := 5) sc_law_change.nd rfl (.inl rfl) (pe_ix ix_list (pv 2) (pv 6) (fun _ _ => rfl)))) pss_nil)
      (Evl.pss_cut (ps_if (pt_cmpR op_eq (pv 4) pe_int (nomark _)) (pss_one (ps_set (i := 5) sc_law_change.nd rfl (.inl rfl) (pe_c C_law_near hr (by rfl) (pa_cons (pe_ix ix_list (pv 1) (pv 6) (fun _ _ => rfl)) (pa_cons (pe_c C_law_mix hr (by rfl) (pa_cons (pv 3) (pa_cons pe_int pa_nil))) pa_nil))))) pss_nil)
      (pss_cons (ps_expr (pe_meth (pv 0) T_Book.cl m_Book_put G_Book_put (hr.mono (by decide)) b_Book_put .nil passL (pa_cons (pv 6) (pa_cons (pv 5) pa_nil))))
      (pss_one (ps_asg (pv 5) (pg_sub (pv 1) (pv 6) set_list))))))) (pss_one (ps_if ((pw_and (pt_cmpR op_eq (pv 4) pe_int (nomark _)) (pw_and1 (pt_cmpR op_gt (pe_callB (id := "len") call_len_seq (by rfl) B.len (by decide +kernel) (pa_cons (pv 1) pa_nil)) pe_int (nomark _))))).pt (pss_cons (ps_expr (pe_meth0 (pv 0) T_Book.cl m_Book_cut G_Book_cut (hr.mono (by decide)) b_Book_cut .nil passL))
      (pss_one (ps_expr (pe_bm0 PySem.F.plainAttrs_list PySem.F.slot_list_pop PySem.F.type_list_pop mt_pop (pv 1))))) (Evl.pss_cut (ps_if ((pw_and (pt_cmpR op_lt (pe_callB (id := "len") call_len_seq (by rfl) B.len (by decide +kernel) (pa_cons (pv 1) pa_nil)) (pe_callB (id := "len") call_len_seq (by rfl) B.len (by decide +kernel) (pa_cons (pv 2) pa_nil)) (nomark _)) (pw_and1 (pt_cmpR op_gt (pe_op op_mod (pe_op op_fdiv (pv 3) pe_int) pe_int) pe_int (nomark _))))).pt (pss_one (ps_set (i := 5) sc_law_change.nd rfl (.inl rfl) (pe_ix ix_list (pv 2) (pe_callB (id := "len") call_len_seq (by rfl) B.len (by decide +kernel) (pa_cons (pv 1) pa_nil)) (fun _ _ => rfl)))) pss_nil)
      (pss_cons (ps_expr (pe_meth (pv 0) T_Book.cl m_Book_add G_Book_add (hr.mono (by decide)) b_Book_add .nil passL (pa_cons (pv 5) pa_nil)))
      (pss_one (ps_expr (pe_bm PySem.F.plainAttrs_list PySem.F.slot_list_append PySem.F.type_list_append mt_append (pv 1) (pa_cons (pv 5) pa_nil)))))))))))), ?_⟩
    refine ⟨_, rfl, _, _, rfl, rfl, (by show (0 : Int) < 6; decide), ?_⟩
    refine ⟨_, rfl, c, 1, rfl, sl40 (by show 2 ≤ 1000000; decide), fun u hu => ?_⟩
    obtain ⟨v, hv, hat⟩ := at_mod (xs := [V.int 9, .int 99991]) (c := c / 6) (m := 2) rfl (by decide)
    obtain ⟨z, rfl, hz⟩ : ∃ z : Int, v = .int z ∧ 0 < z := by
      simp only [List.mem_cons, List.not_mem_nil, or_false] at hv
      rcases hv with rfl | rfl
      · exact ⟨9, rfl, by decide⟩
      · exact ⟨99991, rfl, by decide⟩
    refine ⟨_, rfl, _, _, rfl, rfl, ⟨by decide, by decide⟩, _, _, rfl, rfl, (by show (0 : Int) < 2; decide), u, _, _, _, rfl, rfl, SqL.of upd_same, hat, _, _, rfl, rfl, hz, _, rfl, fun t H1 ht sm => ?_⟩
    have sm := (same_upd hu).trans sm
    have hS := hS.same sm
    have ha := sm _ _ ha
    have hao := hao.same sm
    have q : ∀ H' L' x, Sys R w C H' p d l L' n (setA BB i x) → x.b = (BB i).b → H' a = some (.lst (x.rows.map V.str)) → x.rows.length ≤ (BB i).rows.length + 1 → L <+: L' → L'.length ≤ L.length + 12 →
        (∀ z o, H1 z = some o → z ≠ a → Free d l n BB z → H' z = some o ∧ Free d l n (setA BB i x) z) → Free d l n (setA BB i x) a → Q .non H' := fun H' L' x h1 h2 h3 h4 h5 h6 h7 h8 => q H' L' x h1 h2 h3 h4 h5 h6 (fun z o hz => h7 z o (sm _ _ hz)) h8
    have hbk := hS.bk i hi
    obtain ⟨dx, fs, hb, hno⟩ := R.ob hbk.at_
    have hln : (BB i).rows.length ≤ 1000 := by omega
    have row1 : ∀ t : Str, okS 40 t → AnyV H1 (.str t) ∧ rowStr t = true := fun t h => ⟨.str t (sl40 (by have := h.1; omega)), okS_row h⟩
    refine ⟨_, rfl, _, _, rfl, rfl, _, rfl, ite2 (fun _ => ⟨_, rfl, a, _, rfl, .inl (SqL.of ha), _, _, rfl, rfl, _, rfl, ite2 (fun e => ?put) (fun _ => ?_)⟩) (fun _ => iteF ?_)⟩
    case put =>
      have h0 : (0 : Int) < ((BB i).rows.length : Int) := by
        have := of_decide_eq_true e
        rw [List.length_map] at this
        exact this
      obtain ⟨k, ek, hk⟩ := mod_nat (x := mixF c 2) h0
      refine ⟨_, rfl, c, 2, rfl, _, rfl, a, _, rfl, .inl (SqL.of ha), _, _, rfl, rfl, ?_, ?_⟩
      · rw [List.length_map]
        exact h0
      have hk' : k < (BB i).rows.length := by omega
      have eσ : ∀ t : Str, [some (V.ref (BB i).b), some (.ref a), some (.ref ao), some (.int c), some (.int (c % 6)), some (.str t), some (.int (mixF c 2 % (((BB i).rows.map V.str).length : Int)))] = [some (.ref (BB i).b), some (.ref a), some (.ref ao), some (.int c), some (.int (c % 6)), some (.str t), some (.int (k : Int))] := fun t => by
        rw [List.length_map, ek]
      refine ⟨fun σ H' => H1 = H' ∧ ∃ t, okS 40 t ∧ σ = [some (.ref (BB i).b), some (.ref a), some (.ref ao), some (.int c), some (.int (c % 6)), some (.str t), some (.int (k : Int))], ?_, ?_⟩
      · refine ⟨_, rfl, rfl, _, rfl, ite2 (fun _ => ?_) (fun _ => iteF ⟨rfl, t, ht, eσ t⟩)⟩
        refine ⟨_, rfl, _, rfl, ao, _, rfl, .inl (SqL.of hao.1), _, _, rfl, rfl, _, rfl, ite2 (fun e2 => ?_) (fun _ => ⟨rfl, t, ht, eσ t⟩)⟩
        have hko : k < os.length := by
          have := of_decide_eq_true e2
          rw [List.length_map, List.length_map, ek] at this
          omega
        refine ⟨_, rfl, _, rfl, ao, _, _, .str os[k], rfl, rfl, SqL.of hao.1, ?_, rfl, os[k], hao.2 _ (List.getElem_mem hko), eσ _⟩
        rw [List.length_map, ek]
        exact atI_nat (by rw [List.getElem?_map, List.getElem?_eq_getElem hko]; rfl)
      rintro σ _ ⟨rfl, t, ht, rfl⟩
      refine ⟨fun σ H' => H1 = H' ∧ ∃ t, okS 40 t ∧ σ = [some (.ref (BB i).b), some (.ref a), some (.ref ao), some (.int c), some (.int (c % 6)), some (.str t), some (.int (k : Int))], ?_, ?_⟩
      · refine ⟨_, rfl, rfl, _, rfl, ite2 (fun _ => ?_) (fun _ => ⟨rfl, t, ht, rfl⟩)⟩
        refine ⟨_, rfl, _, rfl, a, _, (k : Int), .str (BB i).rows[k], rfl, rfl, SqL.of ha, atI_nat (by rw [List.getElem?_map, List.getElem?_eq_getElem hk']; rfl), _, rfl, c, 3, rfl, (BB i).rows[k], _, rfl, hbk.ok _ (List.getElem_mem hk'), fun y hy => ⟨rfl, y, hy, rfl⟩⟩
      rintro σ _ ⟨rfl, t, ht, rfl⟩
      have hpl : placeV (BB i).rows.length (.int (k : Int)) = some k := by
        show (if _ then _ else _) = _
        rw [if_pos ⟨by omega, by omega⟩, Int.toNat_natCast]
      refine ⟨_, rfl, (BB i).b, dx, fs, rfl, hb, hno _ (by decide +kernel), _, rfl, _, rfl, p, d, l, L, BB i, .int (k : Int), .str t, rfl, hbk, .int _, (row1 t ht).1, by omega, fun z => ?_, fun j _ z => ?_, fun j t' e1 e2 e3 H2 F' hc hg hb2 => ?_⟩
      · rw [hpl] at z
        cases z
      · have : rowStr t = false := z
        rw [(row1 t ht).2] at this
        cases this
      · rw [hpl] at e1
        cases e1
        cases e2
        have pr := settle_pre (BB i).rows.length k t L (BB i).v
        have hl2 := settle_len (t := t) (L := L) (v := (BB i).v) hk'
        have hb12 : blocks (BB i).rows.length k ≤ 12 := blocks_le (by omega)
        obtain ⟨e', f'⟩ := Sys.out (x := ⟨(BB i).b, F', (BB i).rows.set k t, (settle (BB i).rows.length k t L (BB i).v).2⟩) hi hc hg hfa ha
        refine ⟨_, rfl, _, rfl, _, rfl, a, _, (k : Int), k, rfl, rfl, e', ?_, ?_⟩
        · rw [List.length_map]
          exact ixN_nat hk'
        obtain ⟨s1, s2, s3⟩ := Sys.both (us' := ((BB i).rows.map V.str).set k (.str t)) hS hi hc hg hb2 pr hfa ha
        refine q _ _ _ s1 rfl ?_ ?_ pr (by omega) s2 s3
        · rw [upd_same]
          show _ = some (HO.lst (((BB i).rows.set k t).map V.str))
          rw [List.map_set]
        · show ((BB i).rows.set k t).length ≤ _
          rw [List.length_set]
          omega
    all_goals
      refine ⟨_, rfl, rfl, _, rfl, ite2 (fun _ => ⟨_, rfl, a, _, rfl, .inl (SqL.of ha), _, _, rfl, rfl, _, rfl, ite2 (fun e => ?cut) (fun _ => ?_)⟩) (fun _ => iteF ?_)⟩
      case cut =>
        have h0 : 0 < (BB i).rows.length := by
          have := of_decide_eq_true e
          rw [List.length_map] at this
          omega
        have hne : (BB i).rows ≠ [] := List.ne_nil_of_length_pos h0
        refine ⟨_, rfl, (BB i).b, dx, fs, rfl, hb, hno _ (by decide +kernel), p, d, l, L, BB i, rfl, hbk, fun z => absurd z hne, fun _ H2 F' hc hg hb2 => ?_⟩
        obtain ⟨e', f'⟩ := Sys.out (x := ⟨(BB i).b, F', (BB i).rows.dropLast, (BB i).v⟩) hi hc hg hfa ha
        obtain ⟨s1, s2, s3⟩ := Sys.both (us' := ((BB i).rows.map V.str).dropLast) hS hi hc hg hb2 (List.prefix_refl L) hfa ha
        refine ⟨_, rfl, .inl ⟨rfl, _, SqL.of e'⟩, a, _, .str ((BB i).rows[(BB i).rows.length - 1]'(by omega)), rfl, rfl, e', ?_, ?_⟩
        · rw [List.length_map, List.getElem?_map, List.getElem?_eq_getElem (by omega)]
          rfl
        refine q _ _ _ s1 rfl ?_ ?_ (List.prefix_refl L) (by omega) s2 s3
        · rw [upd_same, List.map_dropLast]
        · show (BB i).rows.dropLast.length ≤ _
          rw [List.length_dropLast]
          omega
      all_goals
        refine ⟨fun σ H' => H1 = H' ∧ ∃ t, okS 40 t ∧ σ = [some (.ref (BB i).b), some (.ref a), some (.ref ao), some (.int c), some (.int (c % 6)), some (.str t), none], ?_, ?_⟩
        · refine ⟨_, rfl, a, _, rfl, .inl (SqL.of ha), _, rfl, ao, _, rfl, .inl (SqL.of hao.1), _, _, rfl, rfl, _, rfl, ite2 (fun e => ?_) (fun _ => iteF ⟨rfl, t, ht, rfl⟩)⟩
          have hlo : (BB i).rows.length < os.length := by
            have := of_decide_eq_true e
            rw [List.length_map, List.length_map] at this
            omega
          refine ⟨_, rfl, _, _, rfl, rfl, ⟨by decide, by decide⟩, _, _, rfl, rfl, (by show (0 : Int) < 3; decide), _, _, rfl, rfl, _, rfl, ite2 (fun _ => ?_) (fun _ => ⟨rfl, t, ht, rfl⟩)⟩
          refine ⟨_, rfl, _, rfl, a, _, rfl, .inl (SqL.of ha), ao, _, _, .str os[(BB i).rows.length], rfl, rfl, SqL.of hao.1, ?_, rfl, os[(BB i).rows.length], hao.2 _ (List.getElem_mem hlo), rfl⟩
          rw [List.length_map]
          exact atI_nat (by rw [List.getElem?_map, List.getElem?_eq_getElem hlo]; rfl)
        rintro σ _ ⟨rfl, t, ht, rfl⟩
        refine ⟨_, rfl, (BB i).b, dx, fs, rfl, hb, hno _ (by decide +kernel), _, rfl, p, d, l, L, BB i, .str t, rfl, hbk, (row1 t ht).1, by omega, fun z => ?_, fun _ z => absurd z (by omega), fun t' e2 e3 _ H2 F' hc hg hb2 => ?_⟩
        · have : rowStr t = false := z
          rw [(row1 t ht).2] at this
          cases this
        · cases e2
          have pr := settle_pre ((BB i).rows.length + 1) (BB i).rows.length t L (BB i).v
          have hl2 := settle_len (n := (BB i).rows.length + 1) (i := (BB i).rows.length) (t := t) (L := L) (v := (BB i).v) (by omega)
          have hb12 : blocks ((BB i).rows.length + 1) (BB i).rows.length ≤ 12 := blocks_le (by omega)
          obtain ⟨e', f'⟩ := Sys.out (x := ⟨(BB i).b, F', (BB i).rows ++ [t], (settle ((BB i).rows.length + 1) (BB i).rows.length t L (BB i).v).2⟩) hi hc hg hfa ha
          obtain ⟨s1, s2, s3⟩ := Sys.both (us' := (BB i).rows.map V.str ++ [.str t]) hS hi hc hg hb2 pr hfa ha
          refine ⟨_, rfl, .inl ⟨rfl, _, SqL.of e'⟩, _, rfl, a, _, _, rfl, rfl, e', ?_, ?_⟩
          · rw [List.length_map]
            exact Nat.lt_of_lt_of_le (show (BB i).rows.length < 1000000 by omega) (by decide)
          refine q _ _ _ s1 rfl ?_ ?_ pr (by omega) s2 s3
          · rw [upd_same]
            show _ = some (HO.lst (((BB i).rows ++ [t]).map V.str))
            rw [List.map_append]
            rfl
          · show ((BB i).rows ++ [t]).length ≤ _
            rw [List.length_append]
            exact Nat.le_refl _
end

section
variable {H H' : Hp}
theorem made_same {H1 : Hp} {x dx : Addr} {o1 o2 : HO} (nx : H x = none) (ndx : H dx = none) (k : ∀ b o, (upd (upd H dx o1) x o2) b = some o → b ≠ x → H1 b = some o) : Same H H1 := fun b o e => by
  have n1 := ne_of_none e nx
  have n2 := ne_of_none e ndx
  exact k b o (by rw [upd_ne n1, upd_ne n2]; exact e) n1
def two {α : Type} (x y : α) : Nat → α
  | 0 => x
  | _ + 1 => y
theorem all2 {p : Nat → Prop} (h0 : p 0) (h1 : p 1) : ∀ i < 2, p i := fun i hi => by
  have : i = 0 ∨ i = 1 := by omega
  rcases this with rfl | rfl
  · exact h0
  · exact h1
theorem all22 {F : Nat → Addr} (h : F 0 ≠ F 1) : ∀ i < 2, ∀ j < 2, i ≠ j → F i ≠ F j := all2 (all2 (fun z => absurd rfl z) fun _ => h) (all2 (fun _ => h.symm) fun z => absurd rfl z)
theorem cut_int {ns : List Int} {lo hi : Option Int} {x : V} {i : Nat} (h : (cutV (ns.map V.int) lo hi)[i]? = some x) : (∃ c, x = .int c) ∧ i < ns.length := by
  have hl := (List.getElem?_eq_some_iff.mp h).1
  have h2 := cutV_length (ns.map V.int) lo hi
  rw [List.length_map] at h2
  have hm := List.mem_of_getElem? h
  unfold cutV at hm
  obtain ⟨c, _, e⟩ := List.mem_map.mp (List.mem_of_mem_drop (List.mem_of_mem_take hm))
  exact ⟨⟨c, e.symm⟩, by omega⟩
theorem at2 {F : Nat → Addr} {t : Nat} (h : t < 2) : atI [V.ref (F 0), .ref (F 1)] (t : Int) = some (.ref (F t)) := by
  have : t = 0 ∨ t = 1 := by omega
  rcases this with rfl | rfl <;> rfl
end
structure NOk (P : Program) (w : World) (K : PySem.W.Frag) (mg : Str → Option Value) (base : Heap) (CX : CXT) (C : Addr) (k : Nat) (ps : List Str) (sp : Sp) : Prop where
  ex : ∃ (f : Addr) (fd : FuncData), FnOk P w K mg base CX k f fd ps sp ∧ Mk K C f ∧ Binds K fd ps []

/-! ### two books of one ledger, and what is kept beside -/
section
variable {CB : Addr} {R : Rep CB} {w : World} {C : Addr} {H H' : Hp} {p d l : Addr} {L L' : List Th} {n : Nat} {B : Nat → BS} {x : BS}
theorem Sys.zero (h : LedAt w C H p d l L) (B : Nat → BS) : Sys R w C H p d l L 0 B := ⟨h, fun _ h => absurd h (Nat.not_lt_zero _), fun _ h => absurd h (Nat.not_lt_zero _)⟩
/-- one book more -/
theorem Sys.more (h : Sys R w C H p d l L n B) (c : Chg H H' d l (fun b => b = x.b)) (g : Grew H (fun b => b = x.b) x.F) (nf : ∀ i < n, ¬ (B i).F x.b) (b : Bk R w C H' p d l L' x) (pr : L <+: L') : Sys R w C H' p d l L' (n + 1) (setA B n x) := by
  have new : ∀ i < n, ∀ a, (B i).F a → ¬ x.F a := fun i hi a ha hx => by
    rcases g a hx with z | z
    · exact nf i hi (z ▸ ha)
    · obtain ⟨o, ho⟩ := R.alive (h.bk i hi).at_ a ha
      rw [z] at ho
      cases ho
  refine ⟨b.led, fun j hj => ?_, fun j hj k hk ne a ha hb => ?_⟩
  · by_cases e : j = n
    · subst e
      rw [setA_at]
      exact b
    · rw [setA_ne e]
      have hjn : j < n := by omega
      have hj' := h.bk j hjn
      exact ⟨b.led, R.frame hj'.at_ fun a o ha ho => c.out a o ho (fun z => nf j hjn (z ▸ ha)) (hj'.own a ha).2.1 (hj'.own a ha).2.2, hj'.good.mono pr, hj'.own, hj'.ok, hj'.few⟩
  · by_cases e : j = n
    · subst e
      rw [setA_at] at ha
      rw [setA_ne (fun z => ne z.symm)] at hb
      exact new k (by omega) a hb ha
    · rw [setA_ne e] at ha
      by_cases e2 : k = n
      · subst e2
        rw [setA_at] at hb
        exact new j (by omega) a ha hb
      · rw [setA_ne e2] at hb
        exact h.sep j (by omega) k (by omega) ne a ha hb
theorem Sys.outm {a : Addr} {o : HO} (h : Sys R w C H p d l L n B) (c : Chg H H' d l (fun b => b = x.b)) (g : Grew H (fun b => b = x.b) x.F) (f : Free d l n B a) (ne : a ≠ x.b) (e : H a = some o) : H' a = some o ∧ Free d l (n + 1) (setA B n x) a := by
  refine ⟨c.out a o e ne f.1 f.2.1, f.1, f.2.1, fun j hj hb => ?_⟩
  by_cases z : j = n
  · subst z
    rw [setA_at] at hb
    rcases g a hb with q | q
    · exact ne q
    · rw [e] at q
      cases q
  · rw [setA_ne z] at hb
    exact f.2.2 j (by omega) hb
theorem making_pre : ∀ (ts : List Str) (n : Nat) (L : List Th) (v : Lev), L <+: (making ts n L v).1
  | [], _, L, _ => List.prefix_refl L
  | t :: ts, n, L, v => (settle_pre (n + 1) n t L v).trans (making_pre ts (n + 1) _ _)
theorem making_len : ∀ (ts : List Str) (n : Nat) (L : List Th) (v : Lev), n + ts.length ≤ 2000 → (making ts n L v).1.length ≤ L.length + 12 * ts.length
  | [], _, L, _, _ => Nat.le_refl _
  | t :: ts, n, L, v, h => by
    rw [List.length_cons] at h
    have h1 := making_len ts (n + 1) (settle (n + 1) n t L v).1 (settle (n + 1) n t L v).2 (by omega)
    have h2 := settle_len (n := n + 1) (i := n) (t := t) (L := L) (v := v) (by omega)
    have h3 : blocks (n + 1) n ≤ 12 := blocks_le (by omega)
    show (making ts (n + 1) _ _).1.length ≤ _
    rw [List.length_cons]
    omega
end
structure Books {CB : Addr} (R : Rep CB) (w : World) (C : Addr) (H : Hp) (bl kl p d l : Addr) (L : List Th) (B : Nat → BS) (Kp : Nat → Addr) (n m : Nat) : Prop where
  hb : H bl = some (.lst [.ref (B 0).b, .ref (B 1).b])
  hk : H kl = some (.lst [.ref (Kp 0), .ref (Kp 1)])
  sys : Sys R w C H p d l L 2 B
  rl : ∀ i < 2, H (Kp i) = some (.lst ((B i).rows.map V.str))
  fb : Free d l 2 B bl
  fk : Free d l 2 B kl
  fr : ∀ i < 2, Free d l 2 B (Kp i)
  ne : ∀ i < 2, ∀ j < 2, i ≠ j → Kp i ≠ Kp j
  nb : ∀ i < 2, bl ≠ Kp i ∧ kl ≠ Kp i
  few : ∀ i < 2, (B i).rows.length ≤ n
  Lf : L.length ≤ m
section
variable {CB : Addr} {R : Rep CB} {w : World} {C : Addr} {H H' : Hp} {bl kl p d l : Addr} {L L' : List Th} {B : Nat → BS} {Kp : Nat → Addr} {n m : Nat}
theorem Books.same (h : Books R w C H bl kl p d l L B Kp n m) (s : Same H H') : Books R w C H' bl kl p d l L B Kp n m := { h with hb := s _ _ h.hb, hk := s _ _ h.hk, sys := h.sys.same s, rl := fun i hi => s _ _ (h.rl i hi) }
theorem Books.RL (h : Books R w C H bl kl p d l L B Kp n m) {i : Nat} (hi : i < 2) : RL H (Kp i) (B i).rows := ⟨h.rl i hi, (h.sys.bk i hi).ok⟩
theorem set_b {x : BS} {i : Nat} (e : x.b = (B i).b) (j : Nat) : (setA B i x j).b = (B j).b := by
  by_cases z : j = i
  · subst z
    rw [setA_at, e]
  · rw [setA_ne z]
/-- behind a change of the t-th -/
theorem Books.step {t : Nat} {x : BS} {n' m' : Nat} (h : Books R w C H bl kl p d l L B Kp n m) (ht : t < 2) (s : Sys R w C H' p d l L' 2 (setA B t x)) (eb : x.b = (B t).b) (er : H' (Kp t) = some (.lst (x.rows.map V.str))) (hn : x.rows.length ≤ n') (hn2 : n ≤ n') (hm : L'.length ≤ m')
    (k : ∀ z o, H z = some o → z ≠ Kp t → Free d l 2 B z → H' z = some o ∧ Free d l 2 (setA B t x) z) (fa : Free d l 2 (setA B t x) (Kp t)) : Books R w C H' bl kl p d l L' (setA B t x) Kp n' m' := by
  refine { hb := ?_, hk := (k _ _ h.hk (h.nb t ht).2 h.fk).1, sys := s, rl := fun i hi => ?_, fb := (k _ _ h.hb (h.nb t ht).1 h.fb).2, fk := (k _ _ h.hk (h.nb t ht).2 h.fk).2, fr := fun i hi => ?_, ne := h.ne, nb := h.nb, few := fun i hi => ?_, Lf := hm }
  · rw [set_b eb, set_b eb]
    exact (k _ _ h.hb (h.nb t ht).1 h.fb).1
  · by_cases e : i = t
    · subst e
      rw [setA_at]
      exact er
    · rw [setA_ne e]
      exact (k _ _ (h.rl i hi) (h.ne i hi t ht e) (h.fr i hi)).1
  · by_cases e : i = t
    · subst e
      exact fa
    · exact (k _ _ (h.rl i hi) (h.ne i hi t ht e) (h.fr i hi)).2
  · by_cases e : i = t
    · subst e
      rw [setA_at]
      exact hn
    · rw [setA_ne e]
      have := h.few i hi
      omega
theorem Books.write {a : Addr} {us : List V} {u : HO} (h : Books R w C H bl kl p d l L B Kp n m) (f : Free d l 2 B a) (e : H a = some (.lst us)) (nb : bl ≠ a) (nk : kl ≠ a) (nr : ∀ i < 2, Kp i ≠ a) : Books R w C (upd H a u) bl kl p d l L B Kp n m :=
  { h with hb := by rw [upd_ne nb]; exact h.hb, hk := by rw [upd_ne nk]; exact h.hk, sys := h.sys.write f e (fun _ _ _ z => by cases z) (fun _ z => by cases z), rl := fun i hi => by rw [upd_ne (nr i hi)]; exact h.rl i hi }
theorem seqL_keep {K : PySem.W.Frag} {a : Addr} {xs : List V} (h : SqL K H a xs) (k : ∀ o, H a = some o → H' a = some o) : SqL K H' a xs := by
  rcases h with h | h
  · rcases h with h | ⟨o, h⟩
    · exact .inl (.inl (k _ h))
    · exact .inl (.inr ⟨o, k _ h⟩)
  · exact .inr h
def spBooks {CB : Addr} (R : Rep CB) (w : World) (C : Addr) (K : PySem.W.Frag) : Sp := fun vs H Q _ => ∃ (a : Addr) (ns : List Int), vs = [.ref a] ∧ SqL K H a (ns.map V.int) ∧ ns.length ≤ 63 ∧
  ∀ H' t bl kl p d l L B Kp, Same H H' → H' t = some (.tup [.ref bl, .ref kl]) → Books R w C H' bl kl p d l L B Kp 980 30000 → (∀ z o, H z = some o → Free d l 2 B z ∧ z ≠ Kp 0 ∧ z ≠ Kp 1) → Q (.ref t) H'
end
section
variable {P : Program} {K : PySem.W.Frag} {mg : Str → Option Value} {base : Heap} {CB : Addr} {R : Rep CB} {w : World} {C cR cP cB cF : Addr}
theorem ok_books (D : Dfn K mg "_law_books" s_law_books ["_law_script"]) (T_Book : TBk K mg CB) (T_Ledger : TLed K mg C) (B : Bi mg) (N_Ledger : NOk P w K mg base CX0 C 1 ["self"] (spInit w C)) (N_Book : NOk P w K mg base (L2.CX P w) CB 9 ["self", "ledger", "rows"] (spBook R w C cR cF))
    (C_law_cell_at : COk P w K mg base CX0 "_law_cell_at" 1 ["_law_script", "_law_k"] (spCellAt K)) (C_law_rows : COk P w K mg base CX0 "_law_rows" 3 ["_law_cell", "_law_more"] spRows) (C_law_twin : COk P w K mg base CX0 "_law_twin" 3 ["_law_rows_here", "_law_cell"] spTwin)
    (C_law_room : COk P w K mg base CX0 "_law_room" 1 ["_law_script", "_law_small", "_law_great"] (spRoom K)) (C_law_change : COk P w K mg base CX0 "_law_change" 10 ["_law_book", "_law_rows_here", "_law_others", "_law_cell"] (spChange R w C)) :
    COk P w K mg base CX0 "_law_books" 11 ["_law_script"] (spBooks R w C K) := by
  obtain ⟨f_Book___init__, d_Book___init__, G_Book___init__, k_Book___init__, b_Book___init__⟩ := N_Book.ex
  obtain ⟨f_Ledger___init__, d_Ledger___init__, G_Ledger___init__, k_Ledger___init__, b_Ledger___init__⟩ := N_Ledger.ex
  refine c_mk D sc_law_books (fun vs H Q E h => ?_) (fun f cdv A outer s H vs Q E hr h => ?_)
  · obtain ⟨a, ns, rfl, _⟩ := h
    rfl
  · obtain ⟨a, ns, rfl, hS, hlen, q⟩ := h
    refine ⟨_, (pss_cons (ps_set (i := 1) sc_law_books.nd rfl (.inl rfl) (pe_make0 k_Ledger___init__ G_Ledger___init__ (hr.mono (by decide)) (by rfl) T_Ledger.g b_Ledger___init__ .nil pass0))
      (pss_cons (ps_set (i := 2) sc_law_books.nd rfl (.inl rfl) (pe_c C_law_rows hr (by rfl) (pa_cons (pe_c C_law_cell_at hr (by rfl) (pa_cons (pv 0) (pa_cons pe_int pa_nil))) (pa_cons (pe_c C_law_cell_at hr (by rfl) (pa_cons (pv 0) (pa_cons pe_int pa_nil))) pa_nil))))
      (pss_cons (ps_set (i := 3) sc_law_books.nd rfl (.inl rfl) (pe_c C_law_twin hr (by rfl) (pa_cons (pv 2) (pa_cons (pe_c C_law_cell_at hr (by rfl) (pa_cons (pv 0) (pa_cons pe_int pa_nil))) pa_nil))))
      (Evl.pss_cut (ps_if (pt_cmpR op_eq (pe_op op_mod (pe_op op_fdiv (pe_c C_law_cell_at hr (by rfl) (pa_cons (pv 0) (pa_cons pe_int pa_nil))) pe_int) pe_int) pe_int (nomark _)) (pss_one (ps_set (i := 3) sc_law_books.nd rfl (.inl rfl) (pe_c C_law_rows hr (by rfl) (pa_cons (pe_c C_law_cell_at hr (by rfl) (pa_cons (pv 0) (pa_cons pe_int pa_nil))) (pa_cons (pe_c C_law_cell_at hr (by rfl) (pa_cons (pv 0) (pa_cons pe_int pa_nil))) pa_nil))))) pss_nil)
      (pss_cons (ps_set (i := 4) sc_law_books.nd rfl (.inl rfl) (pe_lst (pa_cons (pe_make k_Book___init__ G_Book___init__ (hr.mono (by decide)) (by rfl) T_Book.g b_Book___init__ .nil passL (pa_cons (pv 1) (pa_cons (pe_callTy (T := "list") call_list_of (by rfl) B.list (by decide +kernel) (pa_cons (pv 2) pa_nil)) pa_nil))) (pa_cons (pe_make k_Book___init__ G_Book___init__ (hr.mono (by decide)) (by rfl) T_Book.g b_Book___init__ .nil passL (pa_cons (pv 1) (pa_cons (pe_callTy (T := "list") call_list_of (by rfl) B.list (by decide +kernel) (pa_cons (pv 3) pa_nil)) pa_nil))) pa_nil))))
      (pss_cons (ps_set (i := 5) sc_law_books.nd rfl (.inl rfl) (pe_lst (pa_cons (pv 2) (pa_cons (pv 3) pa_nil))))
      (pss_cons (ps_for PassesOwn.never rfl (pi_list (pe_slice sl_list (pv 0) (po_some pe_int) (po_some (pe_op op_add pe_int (pe_c C_law_room hr (by rfl) (pa_cons (pv 0) (pa_cons pe_int (pa_cons pe_int pa_nil)))))))) (pg_name (i := 6) sc_law_books.nd rfl (.inl rfl))
      (pss_cons (ps_set (i := 7) sc_law_books.nd rfl (.inl rfl) (pe_op op_mod (pv 6) pe_int))
      (pss_one (ps_expr (pe_c C_law_change hr (by rfl) (pa_cons (pe_ix ix_list (pv 4) (pv 7) (fun _ _ => rfl)) (pa_cons (pe_ix ix_list (pv 5) (pv 7) (fun _ _ => rfl)) (pa_cons (pe_ix ix_list (pv 5) (pe_op op_sub pe_int (pv 7)) (fun _ _ => rfl)) (pa_cons (pe_op op_fdiv (pv 6) pe_int) pa_nil)))))))))
      (pss_one (ps_ret (pe_tup (pa_cons (pv 4) (pa_cons (pv 5) pa_nil)))))))))))), ?_⟩
    refine fun p dx np ndx ne => ⟨p, dx, rfl, upd_same, fun d l H1 nd nl led k => ⟨rfl, ?_⟩⟩
    have m1 := made_same np ndx k
    have nd0 : H d = none := Same.free ((same_upd ndx).trans (same_upd (by rw [upd_ne ne.symm]; exact np))) nd
    have nl0 : H l = none := Same.free ((same_upd ndx).trans (same_upd (by rw [upd_ne ne.symm]; exact np))) nl
    have hS1 := m1.seq hS
    refine ⟨_, rfl, a, ns, 0, rfl, hS1, _, rfl, a, ns, 1, rfl, hS1, _, _, rfl, fun a0 r0 H2 m2 na0 h0 hl0 => ?_⟩
    have hS2 := m2.seq hS1
    refine ⟨_, rfl, _, rfl, a, ns, 2, rfl, hS2, a0, r0, _, rfl, h0, hl0, fun a1 r1 H3 m3 na1 h1 hl1 => ?_⟩
    have hS3 := m3.seq hS2
    refine ⟨fun σ H' => ∃ a1 r1, Same H2 H' ∧ H2 a1 = none ∧ RL H' a1 r1 ∧ r1.length ≤ 909 ∧ σ = [some (.ref a), some (.ref p), some (.ref a0), some (.ref a1), none, none, none, none], ?_, ?_⟩
    · refine ⟨_, rfl, a, ns, 1, rfl, hS3, _, _, rfl, rfl, ⟨by decide, by decide⟩, _, _, rfl, rfl, (by show (0 : Int) < 7; decide), rfl, _, rfl, ite2 (fun _ => ?_) (fun _ => ⟨a1, r1, m3, na1, h1, hl1, rfl⟩)⟩
      refine ⟨_, rfl, a, ns, 2, rfl, hS3, _, rfl, a, ns, 1, rfl, hS3, _, _, rfl, fun a2 r2 H4 m4 na2 h2 hl2 => ?_⟩
      exact ⟨a2, r2, m3.trans m4, Same.free m3 na2, h2, by omega, rfl⟩
    clear h1 hl1 na1 m3 hS3
    rintro σ H3 ⟨a1, r1, m3, na1, h1, hl1, rfl⟩
    have hS3 := m3.seq hS2
    have led3 := led.same (m2.trans m3)
    have h03 := h0.same m3
    have m13 := m2.trans m3
    have n01 : a1 ≠ a0 := (ne_of_none h0.1 na1).symm
    -- the first book
    refine ⟨_, rfl, _, rfl, a0, _, rfl, .inl (SqL.of h03.1), fun c0 hc0 => ?_⟩
    have mc0 := same_upd (o := .lst (r0.map V.str)) hc0
    refine fun x dx2 nx ndx2 ne2 => ?_
    have mx := (same_upd (o := .own x) ndx2).trans (same_upd (o := .ins CB dx2 []) (p := x) (by rw [upd_ne ne2.symm]; exact nx))
    have hany : ∀ r : List Str, (∀ t ∈ r, okS 40 t) → ∀ {Hh : Hp}, ∀ u ∈ r.map V.str, AnyV Hh u ∧ rowV u = true := fun r hr Hh u hu => by
      obtain ⟨t, ht, rfl⟩ := List.mem_map.mp hu
      exact ⟨.str t (sl40 (by have := (hr t ht).1; omega)), okS_row (hr t ht)⟩
    have inj : ∀ {r s : List Str}, r.map V.str = s.map V.str → r = s := fun e => List.map_inj_right (fun x y h => by cases h; rfl) |>.mp e
    refine ⟨x, p, d, l, c0, dx2, [], r0.map V.str, rfl, upd_same, led3.same (mc0.trans mx), mx _ _ upd_same, (let ⟨_, z, _⟩ := led3.tl; (ne_of_none z hc0).symm), fun u hu => (hany r0 h0.2 u hu).1, by decide, by rw [List.length_map]; omega, fun ⟨u, hu, z⟩ => ?_, fun _ z => ?_, fun rows e hrows hlr H4 F0 c4 g4 bk0 => ⟨rfl, ?_⟩⟩
    · rw [(hany r0 h0.2 (Hh := H) u hu).2] at z
      cases z
    · rw [List.length_map] at z
      omega
    cases inj e
    have nlive : ∀ {z : Addr} {o : HO}, H1 z = some o → z ≠ x := fun hz => ne_of_none ((m13.trans mc0) _ _ hz) nx
    have nlive3 : ∀ {z : Addr} {o : HO}, H3 z = some o → z ≠ x := fun hz => ne_of_none (mc0 _ _ hz) nx
    have S0 : Sys R w C (upd (upd (upd H3 c0 (.lst (r0.map V.str))) dx2 (.own x)) x (.ins CB dx2 [])) p d l [] 0 (fun _ => (⟨x, F0, r0, (making r0 0 [] v0).2⟩ : BS)) := Sys.zero (led3.same (mc0.trans mx)) _
    have S1 := S0.more c4 g4 (fun i hi => absurd hi (Nat.not_lt_zero _)) bk0 (making_pre r0 0 [] v0)
    have out1 : ∀ z o, H3 z = some o → z ≠ d → z ≠ l → H4 z = some o ∧ Free d l (0 + 1) (setA (fun _ => (⟨x, F0, r0, (making r0 0 [] v0).2⟩ : BS)) 0 ⟨x, F0, r0, (making r0 0 [] v0).2⟩) z := fun z o hz h1 h2 => S0.outm c4 g4 ⟨h1, h2, fun i hi => absurd hi (Nat.not_lt_zero _)⟩ (nlive3 hz) ((mc0.trans mx) _ _ hz)
    have ml0 : (making r0 0 [] v0).1.length ≤ 10800 := by
      have := making_len r0 0 [] v0 (by omega)
      have z : ([] : List Th).length = 0 := rfl
      omega
    generalize (making r0 0 [] v0).1 = L1 at S1 ml0
    generalize (making r0 0 [] v0).2 = v1 at S1 out1
    clear bk0 c4 g4 S0
    -- the second book
    have nd3 : ∀ {z : Addr} {o : HO}, H z = some o → z ≠ d := fun hz => ne_of_none hz nd0
    have nl3 : ∀ {z : Addr} {o : HO}, H z = some o → z ≠ l := fun hz => ne_of_none hz nl0
    obtain ⟨E1, hd1⟩ := led.dict
    obtain ⟨vs1, hl1', _⟩ := led.tl
    have a0d : a0 ≠ d := (ne_of_none hd1 na0).symm
    have a0l : a0 ≠ l := (ne_of_none hl1' na0).symm
    have a1d : a1 ≠ d := (ne_of_none (m2 _ _ hd1) na1).symm
    have a1l : a1 ≠ l := (ne_of_none (m2 _ _ hl1') na1).symm
    obtain ⟨h0', f0'⟩ := out1 _ _ h03.1 a0d a0l
    obtain ⟨h1', f1'⟩ := out1 _ _ h1.1 a1d a1l
    refine ⟨_, rfl, _, rfl, a1, _, rfl, .inl (SqL.of h1'), fun c1 hc1 => ?_⟩
    have mc1 := same_upd (o := .lst (r1.map V.str)) hc1
    refine fun x2 dx3 nx2 ndx3 ne3 => ?_
    have mx2 := (same_upd (o := .own x2) ndx3).trans (same_upd (o := .ins CB dx3 []) (p := x2) (by rw [upd_ne ne3.symm]; exact nx2))
    refine ⟨x2, p, d, l, c1, dx3, L1, r1.map V.str, rfl, upd_same, (S1.same (mc1.trans mx2)).led, mx2 _ _ upd_same, (let ⟨_, z, _⟩ := S1.led.tl; (ne_of_none z hc1).symm), fun u hu => (hany r1 h1.2 u hu).1, by omega, by rw [List.length_map]; omega, fun ⟨u, hu, z⟩ => ?_, fun _ z => ?_, fun rows e hrows hlr H5 F1 c5 g5 bk1 => ⟨rfl, ?_⟩⟩
    · rw [(hany r1 h1.2 (Hh := H) u hu).2] at z
      cases z
    · rw [List.length_map] at z
      omega
    cases inj e
    have S1' := S1.same (mc1.trans mx2)
    have S2 := S1'.more c5 g5 (Free.new S1 (Same.free mc1 nx2)).2.2 bk1 (making_pre r1 0 L1 v0)
    have out2 : ∀ z o, H3 z = some o → z ≠ d → z ≠ l → H5 z = some o ∧ Free d l (0 + 1 + 1) (setA (setA (fun _ => (⟨x, F0, r0, v1⟩ : BS)) 0 ⟨x, F0, r0, v1⟩) (0 + 1) ⟨x2, F1, r1, (making r1 0 L1 v0).2⟩) z := fun z o hz h1 h2 => by
      obtain ⟨e1, e2⟩ := out1 z o hz h1 h2
      exact S1'.outm c5 g5 e2 (ne_of_none (mc1 _ _ e1) nx2) ((mc1.trans mx2) _ _ e1)
    have ml1 : (making r1 0 L1 v0).1.length ≤ 21800 := by
      have := making_len r1 0 L1 v0 (by omega)
      omega
    generalize (making r1 0 L1 v0).1 = L2 at S2 ml1
    generalize (making r1 0 L1 v0).2 = v2 at S2 out2
    clear bk1 c5 g5 S1' out1 S1 h0' f0' h1' f1'
    obtain ⟨h0', f0'⟩ := out2 _ _ h03.1 a0d a0l
    obtain ⟨h1', f1'⟩ := out2 _ _ h1.1 a1d a1l
    refine ⟨sl40 (by show 2 ≤ 1000000; decide), fun bl hbl => ?_⟩
    have s1 := same_upd (o := .lst [V.ref x, .ref x2]) hbl
    refine ⟨_, rfl, _, rfl, sl40 (by show 2 ≤ 1000000; decide), fun kl hkl => ?_⟩
    have s2 := same_upd (o := .lst [V.ref a0, .ref a1]) hkl
    have eqB : ∀ i < 2, (setA (setA (fun _ => (⟨x, F0, r0, v1⟩ : BS)) 0 ⟨x, F0, r0, v1⟩) (0 + 1) ⟨x2, F1, r1, v2⟩) i = two (⟨x, F0, r0, v1⟩ : BS) ⟨x2, F1, r1, v2⟩ i := all2 rfl rfl
    have S6 : Sys R w C (upd (upd H5 bl (.lst [V.ref x, .ref x2])) kl (.lst [V.ref a0, .ref a1])) p d l L2 2 (setA (setA (fun _ => (⟨x, F0, r0, v1⟩ : BS)) 0 ⟨x, F0, r0, v1⟩) (0 + 1) ⟨x2, F1, r1, v2⟩) := S2.same (s1.trans s2)
    have fbl := Free.new S2 hbl
    have fkl := Free.new (S2.same s1) hkl
    have I0 : Books R w C (upd (upd H5 bl (.lst [V.ref x, .ref x2])) kl (.lst [V.ref a0, .ref a1])) bl kl p d l L2 (setA (setA (fun _ => (⟨x, F0, r0, v1⟩ : BS)) 0 ⟨x, F0, r0, v1⟩) (0 + 1) ⟨x2, F1, r1, v2⟩) (two a0 a1) 909 22000 :=
      { hb := s2 _ _ upd_same, hk := upd_same, sys := S6, rl := all2 ((s1.trans s2) _ _ h0') ((s1.trans s2) _ _ h1'), fb := fbl, fk := fkl, fr := all2 f0' f1', ne := all22 n01.symm, nb := all2 ⟨(ne_of_none h0' hbl).symm, (ne_of_none (s1 _ _ h0') hkl).symm⟩ ⟨(ne_of_none h1' hbl).symm, (ne_of_none (s1 _ _ h1') hkl).symm⟩, few := all2 (by show r0.length ≤ 909; omega) hl1, Lf := by omega }
    have old0 : ∀ z o, H z = some o → (upd (upd H5 bl (.lst [V.ref x, .ref x2])) kl (.lst [V.ref a0, .ref a1])) z = some o ∧ Free d l 2 (setA (setA (fun _ => (⟨x, F0, r0, v1⟩ : BS)) 0 ⟨x, F0, r0, v1⟩) (0 + 1) ⟨x2, F1, r1, v2⟩) z ∧ z ≠ a0 ∧ z ≠ a1 := fun z o hz => by
      obtain ⟨e1, e2⟩ := out2 z o (m13 _ _ (m1 _ _ hz)) (nd3 hz) (nl3 hz)
      exact ⟨(s1.trans s2) _ _ e1, e2, ne_of_none hz (Same.free m1 na0), ne_of_none hz (Same.free (m1.trans m2) na1)⟩
    generalize setA (setA (fun _ => (⟨x, F0, r0, v1⟩ : BS)) 0 ⟨x, F0, r0, v1⟩) (0 + 1) ⟨x2, F1, r1, v2⟩ = BB at I0 old0
    generalize upd (upd H5 bl (.lst [V.ref x, .ref x2])) kl (.lst [V.ref a0, .ref a1]) = H6 at I0 old0 ⊢
    have hS6 : SqL K H6 a (ns.map V.int) := Same.seq (fun z o hz => (old0 z o hz).1) hS
    refine ⟨_, rfl, 3, rfl, _, rfl, a, ns, 8, 30, rfl, hS6, hlen, _, _, rfl, rfl, _, rfl, a, _, rfl, hS6, fun g hg => ?_⟩
    have sg := same_upd (o := .lst (cutV (ns.map V.int) (some 3) (some (3 + 8)))) hg
    refine ⟨g, rfl, ⟨_, SqL.of upd_same⟩, ?_⟩
    refine for_list (xs := cutV (ns.map V.int) (some 3) (some (3 + 8))) (fun i σ H' => ∃ (L : List Th) (B : Nat → BS) (y6 y7 : Option V), Books R w C H' bl kl p d l L B (two a0 a1) (909 + i) (22000 + 12 * i) ∧ H' g = some (.lst (cutV (ns.map V.int) (some 3) (some (3 + 8)))) ∧ Free d l 2 B g ∧ (∀ i < 2, g ≠ two a0 a1 i) ∧
      (∀ z o, H z = some o → H' z = some o ∧ Free d l 2 B z ∧ z ≠ a0 ∧ z ≠ a1) ∧ σ = [some (.ref a), some (.ref p), some (.ref a0), some (.ref a1), some (.ref bl), some (.ref kl), y6, y7]) ⟨L2, BB, none, none, I0.same sg, upd_same, Free.new I0.sys hg, ?_, fun z o hz => ?_, rfl⟩ ?_ ?_ ?_
    · exact fun i hi => (ne_of_none (I0.rl i hi) hg).symm
    · obtain ⟨e1, e2, e3⟩ := old0 z o hz
      exact ⟨sg _ _ e1, e2, e3⟩
    · rintro i σ H' _ ⟨L, B, y6, y7, I, hg', _, _, _, rfl⟩
      exact SqL.of hg'
    · rintro i v σ H' hv ⟨L, B, y6, y7, I, hg', fg, gk, old, rfl⟩
      obtain ⟨⟨c, rfl⟩, hi⟩ := cut_int hv
      obtain ⟨t, et, ht'⟩ := mod_nat (x := c) (m := 2) (by decide)
      have ht : t < 2 := by omega
      have ht2 : 1 - t < 2 := by omega
      have e1t : (1 : Int) - ((t : Nat) : Int) = ((1 - t : Nat) : Int) := by omega
      have hf := I.few t ht
      have hLf := I.Lf
      refine ⟨_, rfl, _, _, rfl, rfl, (by show (0 : Int) < 2; decide), ?_⟩
      refine ⟨_, rfl, _, rfl, bl, _, (t : Int), .ref (B t).b, rfl, congrArg V.int et, SqL.of I.hb, at2 (F := fun j => (B j).b) ht, ?_⟩
      refine ⟨_, rfl, _, rfl, kl, _, (t : Int), .ref (two a0 a1 t), rfl, congrArg V.int et, SqL.of I.hk, at2 ht, ?_⟩
      refine ⟨_, rfl, _, rfl, _, _, rfl, rfl, kl, _, ((1 - t : Nat) : Int), .ref (two a0 a1 (1 - t)), rfl, ?_, SqL.of I.hk, at2 ht2, ?_⟩
      · show V.int (1 - c % 2) = _
        rw [et, e1t]
      refine ⟨_, rfl, _, _, rfl, rfl, ⟨by decide, by decide⟩, ?_⟩
      refine ⟨p, d, l, L, 2, B, t, two a0 a1 t, two a0 a1 (1 - t), (B (1 - t)).rows, c / 2, ht, rfl, I.sys, I.rl t ht, I.fr t ht, I.RL ht2, by omega, by omega, fun H2 L' x h1 h2 h3 h4 h5 h6 h7 h8 => ?_⟩
      refine ⟨L', setA B t x, _, _, I.step ht h1 h2 h3 (by omega) (by omega) (by omega) h7 h8, (h7 _ _ hg' (gk t ht) fg).1, (h7 _ _ hg' (gk t ht) fg).2, gk, fun z o hz => ?_, rfl⟩
      obtain ⟨o1, o2, o3, o4⟩ := old z o hz
      have nz : z ≠ two a0 a1 t := by
        have : t = 0 ∨ t = 1 := by omega
        rcases this with rfl | rfl
        · exact o3
        · exact o4
      exact ⟨(h7 z o o1 nz o2).1, (h7 z o o1 nz o2).2, o3, o4⟩
    · rintro σ H' ⟨L, B, y6, y7, I, hg', fg, gk, old, rfl⟩
      have hcl : (cutV (ns.map V.int) (some 3) (some (3 + 8))).length ≤ 63 := by
        have := cutV_length (ns.map V.int) (some 3) (some (3 + 8))
        rw [List.length_map] at this
        omega
      refine ⟨_, rfl, _, rfl, sl40 (by show 2 ≤ 1000000; decide), fun tt htt => ?_⟩
      have st := same_upd (o := .tup [V.ref bl, .ref kl]) htt
      have I' := I.same st
      exact q _ tt bl kl p d l L B (two a0 a1) (fun z o hz => st _ _ (old z o hz).1) upd_same { I' with few := fun i hi => by have := I.few i hi; omega, Lf := by have := I.Lf; omega } fun z o hz => (old z o hz).2
end

theorem hu65 {A : Around} {k : Nat} (hr : Room k A) : A.units + 65 < cLine := by
  have := hr.un
  omega
/-! ### things as data -/
def thD : Th → PyData
  | .row x => .str x
  | .pair i j => .tuple [.int i, .int j]
theorem thD_eqv (a b : Th) : PyData.eqv (thD a) (thD b) = decide (a = b) := by
  cases a with
  | row x =>
    cases b with
    | row y => simp only [thD, PyData.eqv, Th.row.injEq]; by_cases h : x = y <;> simp [h]
    | pair i j => simp [thD, PyData.eqv]
  | pair i j =>
    cases b with
    | row y => simp [thD, PyData.eqv]
    | pair k l =>
      simp only [thD, PyData.eqv, PyData.eqvAll, Th.pair.injEq]
      by_cases h : i = k <;> by_cases h2 : j = l <;> simp [h, h2]
theorem IsTh.dp {K : PySem.W.Frag} {H : Hp} : ∀ {t : Th} {v : V}, IsTh H t v → Dp K H v (thD t)
  | .row x, _, e => by
    have e : _ = V.str x := e
    subst e
    exact .str x
  | .pair i j, _, ⟨b, e, h⟩ => by
    subst e
    exact .tup (SqT.of h) (.cons (.int i) (.cons (.int j) .nil))
theorem IsTh.any {H : Hp} : ∀ {t : Th} {v : V}, IsTh H t v → (∀ x, t = .row x → x.length ≤ sizeLine) → AnyV H v
  | .row x, _, e, h => by
    have e : _ = V.str x := e
    subst e
    exact .str x (h x rfl)
  | .pair i j, _, ⟨b, e, hb⟩, _ => by
    subst e
    exact .tup hb
theorem Th.dps {K : PySem.W.Frag} {H : Hp} {a : Addr} {L : List Th} {vs : List V} (h : H a = some (.lst vs)) (p : Paired (IsTh H) L vs) : Dp K H (.ref a) (.list (L.map thD)) := by
  refine .lst (SqL.of h) ?_
  clear h
  induction p with
  | nil => exact .nil
  | cons e _ ih => exact .cons (IsTh.dp e) ih
def goodT : Th → Prop
  | .row x => okS 40 x
  | .pair _ _ => True
theorem thD_ok {t : Th} (h : goodT t) : (thD t).canLay0 = true ∧ (thD t).depth ≤ 63 := by
  cases t with
  | row x =>
    refine ⟨?_, by simp [thD, PyData.depth]⟩
    show PyData.strOk x = true
    unfold PyData.strOk
    rw [← Array.all_toList, List.all_eq_true]
    intro c hc
    have hs : ∀ d ∈ signS.cps.toList, d < 0x110000 := by decide +kernel
    exact decide_eq_true (hs c (h.2 c hc))
  | pair i j => exact ⟨by simp [thD, PyData.canLay0, PyData.canLayAll0], by simp [thD, PyData.depth, PyData.depthAll]⟩
theorem shaped1 {d : PyData} (h : d.canLay0 = true ∧ d.depth ≤ 63) : SeqAt.shaped d = true := by
  unfold SeqAt.shaped
  rw [Bool.and_eq_true]
  exact ⟨h.1, decide_eq_true (by omega)⟩
theorem ne_same {d : PyData} {A B : Prop} (hc : d.canLay0 = true) (hB : B) : (if (!PyData.eqv d d) = true then A else B) := by
  rw [SeqAt.eqv_refl d hc]
  exact iteF hB

/-! ### lists of rows, side by side -/
theorem eqv_strs : ∀ r o : List Str, PyData.eqvAll (r.map PyData.str) (o.map PyData.str) = decide (r = o)
  | [], [] => by simp [PyData.eqvAll]
  | [], _ :: _ => by simp [PyData.eqvAll]
  | _ :: _, [] => by simp [PyData.eqvAll]
  | x :: r, y :: o => by
    rw [List.map_cons, List.map_cons, PyData.eqvAll, eqv_strs r o]
    by_cases h : x = y <;> by_cases h2 : r = o <;> simp [PyData.eqv, h, h2]
theorem eqv_lists (r o : List Str) : PyData.eqv (.list (r.map PyData.str)) (.list (o.map PyData.str)) = decide (r = o) := by
  rw [PyData.eqv]
  exact eqv_strs r o
theorem RL.dp {K : PySem.W.Frag} {H : Hp} {a : Addr} {r : List Str} (h : H a = some (.lst (r.map V.str))) : Dp K H (.ref a) (.list (r.map PyData.str)) := by
  refine .lst (SqL.of h) ?_
  clear h
  induction r with
  | nil => exact .nil
  | cons x r ih => exact .cons (.str x) ih
theorem rows_shaped {r : List Str} (h : ∀ x ∈ r, okS 40 x) : SeqAt.shaped (.list (r.map PyData.str)) = true := shaped_list fun d hd => by
  obtain ⟨x, hx, rfl⟩ := List.mem_map.mp hd
  exact thD_ok (t := .row x) (h x hx)

/-! ### looks (nothing of the program) -/
abbrev Look := Nat × Nat × Bool
def alike (r o : List Str) (h j : Nat) : Bool := decide (rowsOf r h j = rowsOf o h j)
def descend (r o : List Str) : Nat → Nat → Nat × List Look
  | 0, j => (j, [])
  | h + 1, j => ((descend r o h (2 * j + (alike r o h (2 * j)).toNat)).1, (h, 2 * j, alike r o h (2 * j)) :: (descend r o h (2 * j + (alike r o h (2 * j)).toNat)).2)
def firstG (r o : List Str) : List (Nat × Nat) → Option Nat × List Look
  | [] => (none, [])
  | (h, j) :: ps => if alike r o h j = true then ((firstG r o ps).1, (h, j, true) :: (firstG r o ps).2) else (some (descend r o h j).1, (h, j, false) :: (descend r o h j).2)
def firstU (r o : List Str) : Option Nat × List Look :=
  (match (firstG r o (parts (min r.length o.length))).1 with
    | some k => some k
    | none => if r.length = o.length then none else some (min r.length o.length), (firstG r o (parts (min r.length o.length))).2)
/-! ### in the heap -/
def LK (H : Hp) (p : Addr) (ls : List Look) : Prop := ∃ ts : List Addr, H p = some (.lst (ts.map V.ref)) ∧ Paired (fun t (q : Look) => H t = some (.tup [.int (q.1 : Int), .int (q.2.1 : Int), .bl q.2.2])) ts ls
theorem LK.same {H H' : Hp} {p : Addr} {ls : List Look} (s : Same H H') (h : LK H p ls) : LK H' p ls := by
  obtain ⟨ts, h1, h2⟩ := h
  exact ⟨ts, s _ _ h1, Paired.mapP h2 fun _ _ e => s _ _ e⟩
theorem LK.nil {H : Hp} {p : Addr} (h : H p = some (.lst [])) : LK H p [] := ⟨[], h, .nil⟩
/-- another look is laid and appended -/
theorem LK.snoc {H : Hp} {p t : Addr} {ls : List Look} {ts : List Addr} {q : Look} (h1 : H p = some (.lst (ts.map V.ref))) (h2 : Paired (fun t (q : Look) => H t = some (.tup [.int (q.1 : Int), .int (q.2.1 : Int), .bl q.2.2])) ts ls)
    (ht : H t = none) : LK (upd (upd H t (.tup [.int (q.1 : Int), .int (q.2.1 : Int), .bl q.2.2])) p (.lst (ts.map V.ref ++ [.ref t]))) p (ls ++ [q]) := by
  have np : p ≠ t := ne_of_none h1 ht
  refine ⟨ts ++ [t], ?_, ?_⟩
  · rw [upd_same, List.map_append]
    rfl
  · refine Paired.snoc (Paired.mapP h2 fun a q e => ?_) ?_
    · have na : a ≠ p := ne_of e h1 (by intro z; cases z)
      rw [upd_ne na, upd_ne (ne_of_none e ht)]
      exact e
    · rw [upd_ne np.symm, upd_same]
def lookD (q : Look) : PyData := .tuple [.int (q.1 : Int), .int (q.2.1 : Int), .bool q.2.2]
theorem LK.dp {K : PySem.W.Frag} {H : Hp} {p : Addr} {ls : List Look} (h : LK H p ls) : Dp K H (.ref p) (.list (ls.map lookD)) := by
  obtain ⟨ts, h1, h2⟩ := h
  refine .lst (SqL.of h1) ?_
  clear h1
  induction h2 with
  | nil => exact .nil
  | cons e _ ih => exact .cons (.tup (SqT.of e) (.cons (.int _) (.cons (.int _) (.cons (.bl _) .nil)))) ih
theorem LK.at {H : Hp} {ts : List Addr} {ls : List Look} (h : Paired (fun t (q : Look) => H t = some (.tup [.int (q.1 : Int), .int (q.2.1 : Int), .bl q.2.2])) ts ls) {i : Nat} {v : V} (hv : (ts.map V.ref)[i]? = some v) :
    ∃ t q, v = .ref t ∧ ls[i]? = some q ∧ H t = some (.tup [.int (q.1 : Int), .int (q.2.1 : Int), .bl q.2.2]) := by
  induction h generalizing i with
  | nil => simp at hv
  | @cons a b l1 l2 e _ ih =>
    cases i with
    | zero =>
      have : V.ref a = v := Option.some.inj hv
      exact ⟨a, b, this.symm, rfl, e⟩
    | succ i => exact ih hv
theorem lookD_ok (q : Look) : (lookD q).canLay0 = true ∧ (lookD q).depth ≤ 63 := ⟨by simp [lookD, PyData.canLay0, PyData.canLayAll0], by simp [lookD, PyData.depth, PyData.depthAll]⟩
def placeO : Option Nat → V
  | none => .non
  | some n => .int (n : Int)
def FirstAt (H : Hp) (t lk : Addr) (q : Option Nat × List Look) : Prop := H t = some (.tup [placeO q.1, .ref lk]) ∧ LK H lk q.2
theorem FirstAt.same {H H' : Hp} {t lk : Addr} {q : Option Nat × List Look} (s : Same H H') (h : FirstAt H t lk q) : FirstAt H' t lk q := ⟨s _ _ h.1, h.2.same s⟩
theorem cut_rows {r : List Str} {h j : Nat} : cutV (r.map V.str) (some ((j * 2 ^ h : Nat) : Int)) (some ((j * 2 ^ h + 2 ^ h : Nat) : Int)) = (rowsOf r h j).map V.str := by
  unfold cutV rowsOf
  rw [HT.sIx_nat, HT.sIx_nat, List.length_map, ← List.map_drop, ← List.map_take]
  congr 1
  have hl : r.length = r.length := rfl
  by_cases c : j * 2 ^ h ≤ r.length
  · rw [Nat.min_eq_left c]
    by_cases c2 : j * 2 ^ h + 2 ^ h ≤ r.length
    · rw [Nat.min_eq_left c2, Nat.add_sub_cancel_left]
    · rw [Nat.min_eq_right (by omega), List.take_of_length_le (by rw [List.length_drop]; omega), List.take_of_length_le (by rw [List.length_drop]; omega)]
  · have e1 : min (j * 2 ^ h) r.length = r.length := Nat.min_eq_right (by omega)
    have e2 : min (j * 2 ^ h + 2 ^ h) r.length = r.length := Nat.min_eq_right (Nat.le_trans (by omega : r.length ≤ j * 2 ^ h) (Nat.le_add_right _ _))
    rw [e1, e2, List.drop_eq_nil_of_le (Nat.le_refl _), List.drop_eq_nil_of_le (by omega)]
    simp
theorem mem_rowsOf {r : List Str} {h j : Nat} {x : Str} (hx : x ∈ rowsOf r h j) : x ∈ r := List.mem_of_mem_drop (List.mem_of_mem_take hx)
def spAlike : Sp := fun vs H Q _ => ∃ (a b : Addr) (r o : List Str) (h j : Nat), vs = [.ref a, .ref b, .int (h : Int), .int (j : Int)] ∧ RL H a r ∧ RL H b o ∧ h ≤ 2000 ∧ j ≤ 2000 ∧ 2 ^ h ≤ 2000 ∧ ∀ H', Same H H' → Q (.bl (alike r o h j)) H'
def spFirst : Sp := fun vs H Q _ => ∃ (a b : Addr) (r o : List Str), vs = [.ref a, .ref b] ∧ RL H a r ∧ RL H b o ∧ r.length ≤ 1024 ∧ o.length ≤ 1024 ∧ ∀ H' t lk, Same H H' → H t = none → H lk = none → t ≠ lk → FirstAt H' t lk (firstU r o) → Q (.ref t) H'
theorem partsOk_le {n : Nat} : ∀ {h s : Nat} {l : List (Nat × Nat)}, partsOk n h s l → s ≤ n
  | _, _, [], p => Nat.le_of_eq p
  | _, s, (g, j) :: r, p => by
    exact Nat.le_trans (Nat.le_add_right s (2 ^ g)) (partsOk_le p.2.2)
theorem partsOk_in {n : Nat} : ∀ {h s : Nat} {l : List (Nat × Nat)}, partsOk n h s l → ∀ g j, (g, j) ∈ l → (j + 1) * 2 ^ g ≤ n
  | _, _, [], _, g, j, h => absurd h List.not_mem_nil
  | _, s, (g', j') :: r, p, g, j, h => by
    rcases List.mem_cons.mp h with e | h
    · cases e
      have h1 := partsOk_le p.2.2
      have h2 := p.2.1
      rw [Nat.add_mul, Nat.one_mul]
      omega
    · exact partsOk_in p.2.2 g j h
theorem parts_in {n g j : Nat} (h : (g, j) ∈ parts n) : (j + 1) * 2 ^ g ≤ n := partsOk_in (parts_ok n) g j h
theorem lt_two_pow' (n : Nat) : n < 2 ^ n := Nat.lt_two_pow_self
/-- the bounds of a block of a book -/
theorem blk_bounds {n h j : Nat} (c : (j + 1) * 2 ^ h ≤ n) : 2 ^ h ≤ n ∧ j < n ∧ h < n := by
  have h0 := Nat.two_pow_pos h
  have h1 := Nat.mul_le_mul_right (2 ^ h) (show 1 ≤ j + 1 by omega)
  have h2 := Nat.mul_le_mul_left (j + 1) h0
  have h3 := lt_two_pow' h
  omega
theorem firstG_true {r o : List Str} {g j : Nat} {ps : List (Nat × Nat)} (h : alike r o g j = true) : firstG r o ((g, j) :: ps) = ((firstG r o ps).1, (g, j, true) :: (firstG r o ps).2) := by
  show (if alike r o g j = true then _ else _) = _
  rw [if_pos h]
theorem firstG_false {r o : List Str} {g j : Nat} {ps : List (Nat × Nat)} (h : alike r o g j = false) : firstG r o ((g, j) :: ps) = (some (descend r o g j).1, (g, j, false) :: (descend r o g j).2) := by
  show (if alike r o g j = true then _ else _) = _
  rw [if_neg (by rw [h]; decide)]
theorem min_if (r o : List Str) : (if ((o.map V.str).length : Int) < ((r.map V.str).length : Int) then ((o.map V.str).length : Int) else ((r.map V.str).length : Int)) = ((min r.length o.length : Nat) : Int) := by
  rw [List.length_map, List.length_map]
  by_cases c : (o.length : Int) < (r.length : Int)
  · rw [if_pos c]
    omega
  · rw [if_neg c]
    omega

section
variable {P : Program} {w : World} {K : PySem.W.Frag} {mg : Str → Option Value} {base : Heap}
end

theorem descend_len (r o : List Str) : ∀ h j, (descend r o h j).2.length = h
  | 0, _ => rfl
  | h + 1, j => by
    unfold descend
    rw [List.length_cons, descend_len r o h]
theorem firstG_len (r o : List Str) : ∀ (ps : List (Nat × Nat)) (m : Nat), (∀ g j, (g, j) ∈ ps → g ≤ m) → (firstG r o ps).2.length ≤ ps.length + m
  | [], _, _ => Nat.zero_le _
  | (g, j) :: ps, m, h => by
    unfold firstG
    by_cases c : alike r o g j = true
    · rw [if_pos c]
      have := firstG_len r o ps m fun g' j' h' => h g' j' (List.mem_cons_of_mem _ h')
      simp only [List.length_cons]
      omega
    · rw [if_neg c]
      have := h g j List.mem_cons_self
      simp only [List.length_cons, descend_len]
      omega
theorem firstU_len (r o : List Str) : (firstU r o).2.length ≤ dig (min r.length o.length) + min r.length o.length := by
  have h := firstG_len r o (parts (min r.length o.length)) (min r.length o.length) fun g j h => Nat.le_of_lt (blk_bounds (parts_in h)).2.2
  have h2 := parts_len (min r.length o.length)
  show (firstG r o _).2.length ≤ _
  omega
theorem alike_comm (r o : List Str) (h j : Nat) : alike r o h j = alike o r h j := by
  unfold alike
  by_cases e : rowsOf r h j = rowsOf o h j
  · rw [decide_eq_true e, decide_eq_true e.symm]
  · rw [decide_eq_false e, decide_eq_false fun z => e z.symm]
theorem descend_comm (r o : List Str) : ∀ h j, descend r o h j = descend o r h j
  | 0, _ => rfl
  | h + 1, j => by
    unfold descend
    rw [alike_comm r o h (2 * j), descend_comm r o h]
theorem firstG_comm (r o : List Str) : ∀ ps, firstG r o ps = firstG o r ps
  | [] => rfl
  | (h, j) :: ps => by
    unfold firstG
    rw [alike_comm r o h j, descend_comm r o h j, firstG_comm r o ps]
theorem firstU_comm (r o : List Str) : firstU r o = firstU o r := by
  unfold firstU
  rw [firstG_comm r o, Nat.min_comm r.length o.length]
  by_cases e : r.length = o.length
  · rw [if_pos e, if_pos e.symm]
  · rw [if_neg e, if_neg fun z => e z.symm]
def placeD : Option Nat → PyData
  | none => .none
  | some n => .int (n : Int)
theorem placeO_dp {K : PySem.W.Frag} {H : Hp} : ∀ q : Option Nat, Dp K H (placeO q) (placeD q)
  | none => .non
  | some n => .int _
def firstD (q : Option Nat × List Look) : PyData := .tuple [placeD q.1, .list (q.2.map lookD)]
theorem FirstAt.dp {K : PySem.W.Frag} {H : Hp} {t lk : Addr} {q : Option Nat × List Look} (h : FirstAt H t lk q) : Dp K H (.ref t) (firstD q) := .tup (SqT.of h.1) (.cons (placeO_dp q.1) (.cons h.2.dp .nil))
theorem looks_ok (ls : List Look) : (PyData.list (ls.map lookD)).canLay0 = true ∧ (PyData.list (ls.map lookD)).depth ≤ 63 := by
  have h := all_shaped (m := 5) (ls.map lookD) fun d hd => by
    obtain ⟨q, _, rfl⟩ := List.mem_map.mp hd
    exact ⟨by simp [lookD, PyData.canLay0, PyData.canLayAll0], by simp [lookD, PyData.depth, PyData.depthAll]⟩
  refine ⟨by simp [PyData.canLay0, h.1], ?_⟩
  show PyData.depthAll _ + 1 ≤ 63
  omega
theorem firstD_ok (q : Option Nat × List Look) : (firstD q).canLay0 = true ∧ (firstD q).depth ≤ 63 := by
  have h := all_shaped (m := 5) (q.2.map lookD) fun d hd => by
    obtain ⟨q, _, rfl⟩ := List.mem_map.mp hd
    exact ⟨by simp [lookD, PyData.canLay0, PyData.canLayAll0], by simp [lookD, PyData.depth, PyData.depthAll]⟩
  constructor
  · cases hq : q.1 <;> simp [firstD, hq, placeD, PyData.canLay0, PyData.canLayAll0, h.1]
  · unfold firstD
    simp only [PyData.depth, PyData.depthAll]
    have e : (placeD q.1).depth ≤ 1 := by cases q.1 <;> simp [placeD, PyData.depth]
    omega

/-! ### what a change leaves -/
structure Move (W : Addr → Prop) (d l : Addr) (n : Nat) (H H' : Hp) (B B' : Nat → BS) : Prop where
  out : ∀ z o, H z = some o → Free d l n B z → ¬ W z → H' z = some o
  free : ∀ z, (∃ o, H z = some o) → Free d l n B z → (∃ o, H' z = some o) ∧ Free d l n B' z
  tup : ∀ z xs, H z = some (.tup xs) → H' z = some (.tup xs)
section
variable {W : Addr → Prop} {d l : Addr} {n : Nat} {H H' H2 : Hp} {B B' B2 : Nat → BS}
theorem Move.trans (a : Move W d l n H H' B B') (b : Move W d l n H' H2 B' B2) : Move W d l n H H2 B B2 :=
  ⟨fun z o h f w => b.out z o (a.out z o h f w) (a.free z ⟨o, h⟩ f).2 w, fun z h f => b.free z (a.free z h f).1 (a.free z h f).2, fun z xs h => b.tup z xs (a.tup z xs h)⟩
theorem Move.refl : Move W d l n H H B B := ⟨fun _ _ h _ _ => h, fun _ h f => ⟨h, f⟩, fun _ _ h => h⟩
theorem Move.same (s : Same H H') : Move W d l n H H' B B := ⟨fun z o h _ _ => s z o h, fun z ⟨o, h⟩ f => ⟨⟨o, s z o h⟩, f⟩, fun z xs h => s z _ h⟩
theorem Move.write {a : Addr} {o u : HO} (e : H a = some o) (w : W a) (nt : ∀ xs, o ≠ .tup xs) : Move W d l n H (upd H a u) B B := by
  refine ⟨fun z o' h _ nw => ?_, fun z ⟨o', h⟩ f => ⟨?_, f⟩, fun z xs h => ?_⟩
  · rw [upd_ne (fun q => nw (by rw [q]; exact w))]
    exact h
  · by_cases q : z = a
    · subst q
      exact ⟨u, upd_same⟩
    · rw [upd_ne q]
      exact ⟨o', h⟩
  · rw [upd_ne (ne_of h e fun q => nt _ q.symm)]
    exact h
theorem Move.step {x : BS} {i : Nat} (hi : i < n) (c : Chg H H' d l (B i).F) (g : Grew H (B i).F x.F) : Move W d l n H H' B (setA B i x) :=
  ⟨fun z o h f _ => (Sys.out (x := x) hi c g f h).1, fun z ⟨o, h⟩ f => ⟨⟨o, (Sys.out (x := x) hi c g f h).1⟩, (Sys.out (x := x) hi c g f h).2⟩, c.tup⟩
end
theorem LK.move {H H' : Hp} {p : Addr} {ls : List Look} (h : LK H p ls) (k : ∀ o, H p = some o → H' p = some o) (t : ∀ z xs, H z = some (.tup xs) → H' z = some (.tup xs)) : LK H' p ls := by
  obtain ⟨ts, h1, h2⟩ := h
  exact ⟨ts, k _ h1, Paired.mapP h2 fun _ _ e => t _ _ e⟩
theorem FirstAt.move {H H' : Hp} {t lk : Addr} {q : Option Nat × List Look} (h : FirstAt H t lk q) (k : ∀ o, H lk = some o → H' lk = some o) (tp : ∀ z xs, H z = some (.tup xs) → H' z = some (.tup xs)) : FirstAt H' t lk q := ⟨tp _ _ h.1, h.2.move k tp⟩
/-- the first place at which two books differ, and the looks -/
def spFU {CB : Addr} (R : Rep CB) (w : World) (C cT : Addr) : Sp := fun vs H Q E =>
  (∃ (p d l : Addr) (L : List Th) (x y : BS), vs = [.ref x.b, .ref y.b] ∧ Bk R w C H p d l L x ∧ Bk R w C H p d l L y ∧ ∀ H' t lk, Same H H' → H t = none → H lk = none → t ≠ lk → FirstAt H' t lk (firstU x.rows y.rows) → Q (.ref t) H') ∨
  ∃ (p d l : Addr) (L : List Th) (x : BS) (p' d' l' : Addr) (L' : List Th) (y : BS), vs = [.ref x.b, .ref y.b] ∧ Bk R w C H p d l L x ∧ Bk R w C H p' d' l' L' y ∧ p ≠ p' ∧ ∀ H', Same H H' → E (.ref cT) none H'

/-! ### what the looks show (nothing of the program) -/
theorem take_drop_at (r : List Str) (a m i : Nat) : ((r.drop a).take m)[i]? = if i < m then r[a + i]? else none := by
  rw [List.getElem?_take]
  by_cases h : i < m
  · rw [if_pos h, if_pos h, List.getElem?_drop]
  · rw [if_neg h, if_neg h]
theorem alike_iff (r o : List Str) (h j : Nat) : alike r o h j = true ↔ ∀ x, j * 2 ^ h ≤ x → x < (j + 1) * 2 ^ h → r[x]? = o[x]? := by
  unfold alike rowsOf
  rw [decide_eq_true_iff]
  have e1 : (j + 1) * 2 ^ h = j * 2 ^ h + 2 ^ h := by rw [Nat.add_mul, Nat.one_mul]
  constructor
  · intro e x h1 h2
    have := congrArg (fun l : List Str => l[x - j * 2 ^ h]?) e
    simp only [take_drop_at] at this
    rw [if_pos (by omega), if_pos (by omega), show j * 2 ^ h + (x - j * 2 ^ h) = x by omega] at this
    exact this
  · intro e
    apply List.ext_getElem?
    intro i
    rw [take_drop_at, take_drop_at]
    by_cases hi : i < 2 ^ h
    · rw [if_pos hi, if_pos hi]
      exact e _ (by omega) (by omega)
    · rw [if_neg hi, if_neg hi]
/-- the rows of the blocks that are alike -/
def cov : List Look → List Nat
  | [] => []
  | (h, j, al) :: ls => (if al = true then List.range' (j * 2 ^ h) (2 ^ h) else []) ++ cov ls
/-- the last block that is not alike -/
def lastN : Option (Nat × Nat) → List Look → Option (Nat × Nat)
  | u, [] => u
  | u, (h, j, al) :: ls => lastN (if al = true then u else some (j * 2 ^ h, j * 2 ^ h + 2 ^ h)) ls
/-- each look is true, of a block that both have -/
def TrueL (r o : List Str) (n : Nat) (ls : List Look) : Prop := ∀ h j al, (h, j, al) ∈ ls → (j + 1) * 2 ^ h ≤ n ∧ al = alike r o h j
theorem range'_app (s a b : Nat) : List.range' s a ++ List.range' (s + a) b = List.range' s (a + b) := by
  rw [List.range'_append_1]
structure Desc (r o : List Str) (n s : Nat) (k : Nat) (ls : List Look) : Prop where
  ge : s ≤ k
  lt : k < n
  cv : cov ls = List.range' s (k - s)
  ag : ∀ x, s ≤ x → x < k → r[x]? = o[x]?
  df : r[k]? ≠ o[k]?
  tr : TrueL r o n ls
theorem descend_ok {r o : List Str} {n : Nat} : ∀ (h j a : Nat), alike r o h j = false → (j + 1) * 2 ^ h ≤ n → a ≤ j * 2 ^ h →
    Desc r o n (j * 2 ^ h) (descend r o h j).1 (descend r o h j).2 ∧ (descend r o h j).1 < (j + 1) * 2 ^ h ∧ ∃ a', lastN (some (a, (j + 1) * 2 ^ h)) (descend r o h j).2 = some (a', (descend r o h j).1 + 1) ∧ a' ≤ (descend r o h j).1
  | 0, j, a, hf, hn, ha => by
    have e0 : 2 ^ 0 = 1 := rfl
    have hd : r[j]? ≠ o[j]? := fun z => by
      have : alike r o 0 j = true := (alike_iff r o 0 j).mpr fun x h1 h2 => by
        have : x = j := by omega
        rw [this]
        exact z
      rw [this] at hf
      cases hf
    have ej : j * 2 ^ 0 = j := by omega
    refine ⟨⟨by show j * 2 ^ 0 ≤ j; omega, by show j < n; omega, ?_, fun x h1 h2 => ?_, hd, fun _ _ _ h => absurd h List.not_mem_nil⟩, by show j < (j + 1) * 2 ^ 0; omega, a, ?_, ?_⟩
    · show [] = List.range' (j * 2 ^ 0) (j - j * 2 ^ 0)
      rw [ej, Nat.sub_self]
      rfl
    · have h2 : x < j := h2
      omega
    · show some (a, (j + 1) * 2 ^ 0) = some (a, j + 1)
      rw [e0, Nat.mul_one]
    · show a ≤ j
      omega
  | h + 1, j, a, hf, hn, ha => by
    have e2 : 2 ^ (h + 1) = 2 ^ h + 2 ^ h := by rw [Nat.pow_succ]; omega
    have eL : 2 * j * 2 ^ h = j * 2 ^ (h + 1) := by rw [Nat.pow_succ, Nat.mul_comm 2 j, Nat.mul_assoc, Nat.mul_comm 2]
    have eM : (2 * j + 1) * 2 ^ h = j * 2 ^ (h + 1) + 2 ^ h := by rw [Nat.add_mul, Nat.one_mul, eL]
    have eR : (2 * j + 1 + 1) * 2 ^ h = (j + 1) * 2 ^ (h + 1) := by rw [Nat.add_mul, Nat.one_mul, eM, Nat.add_mul, Nat.one_mul, e2, Nat.add_assoc]
    have eT : (j + 1) * 2 ^ (h + 1) = j * 2 ^ (h + 1) + 2 ^ h + 2 ^ h := by rw [Nat.add_mul, Nat.one_mul, e2, Nat.add_assoc]
    obtain ⟨A, hA⟩ : ∃ A, A = j * 2 ^ (h + 1) := ⟨_, rfl⟩
    obtain ⟨T, hT⟩ : ∃ T, T = (j + 1) * 2 ^ (h + 1) := ⟨_, rfl⟩
    have hp0 := Nat.two_pow_pos h
    rw [← hA] at eL eM eT ha
    rw [← hT] at eR eT hn
    rw [← hT, ← hA]
    cases hal : alike r o h (2 * j) with
    | true =>
      have agL := (alike_iff r o h (2 * j)).mp hal
      rw [eL, eM] at agL
      have hfR : alike r o h (2 * j + 1) = false := by
        cases hz : alike r o h (2 * j + 1) with
        | false => rfl
        | true =>
          have agR := (alike_iff r o h (2 * j + 1)).mp hz
          rw [eM, eR] at agR
          have : alike r o (h + 1) j = true := (alike_iff r o (h + 1) j).mpr fun x h1 h2 => by
            rw [← hA] at h1
            rw [← hT] at h2
            by_cases c : x < A + 2 ^ h
            · exact agL x h1 c
            · exact agR x (by omega) h2
          rw [this] at hf
          cases hf
      obtain ⟨D, d1, a', l1, l2⟩ := descend_ok h (2 * j + 1) a hfR (by rw [eR]; exact hn) (by rw [eM]; omega)
      have eu : descend r o (h + 1) j = ((descend r o h (2 * j + 1)).1, (h, 2 * j, true) :: (descend r o h (2 * j + 1)).2) := by
        show ((descend r o h (2 * j + (alike r o h (2 * j)).toNat)).1, (h, 2 * j, alike r o h (2 * j)) :: (descend r o h (2 * j + (alike r o h (2 * j)).toNat)).2) = _
        rw [hal]
        rfl
      rw [eu]
      rw [eM] at D
      rw [eR] at d1 l1
      have hge := D.ge
      refine ⟨⟨by show A ≤ (descend r o h (2 * j + 1)).1; omega, D.lt, ?_, fun x h1 h2 => ?_, D.df, fun g i al hm => ?_⟩, d1, a', ?_, l2⟩
      · show (if true = true then List.range' (2 * j * 2 ^ h) (2 ^ h) else []) ++ cov _ = _
        rw [if_pos rfl, D.cv, eL, range'_app]
        show List.range' _ (2 ^ h + ((descend r o h (2 * j + 1)).1 - (A + 2 ^ h))) = List.range' _ ((descend r o h (2 * j + 1)).1 - A)
        congr 1
        omega
      · by_cases c : x < A + 2 ^ h
        · exact agL x h1 c
        · exact D.ag x (by omega) h2
      · rcases List.mem_cons.mp hm with e | e
        · cases e
          exact ⟨by rw [eM]; omega, hal.symm⟩
        · exact D.tr g i al e
      · show lastN (if true = true then some (a, T) else some (2 * j * 2 ^ h, 2 * j * 2 ^ h + 2 ^ h)) _ = _
        rw [if_pos rfl]
        exact l1
    | false =>
      obtain ⟨D, d1, a', l1, l2⟩ := descend_ok (n := n) h (2 * j) (2 * j * 2 ^ h) hal (by rw [eM]; omega) (Nat.le_refl _)
      have eu : descend r o (h + 1) j = ((descend r o h (2 * j)).1, (h, 2 * j, false) :: (descend r o h (2 * j)).2) := by
        show ((descend r o h (2 * j + (alike r o h (2 * j)).toNat)).1, (h, 2 * j, alike r o h (2 * j)) :: (descend r o h (2 * j + (alike r o h (2 * j)).toNat)).2) = _
        rw [hal]
        rfl
      rw [eu]
      rw [eL] at D l1
      rw [eM] at d1 l1
      have hge := D.ge
      refine ⟨⟨hge, D.lt, ?_, D.ag, D.df, fun g i al hm => ?_⟩, by show (descend r o h (2 * j)).1 < T; omega, a', ?_, l2⟩
      · show (if false = true then List.range' (2 * j * 2 ^ h) (2 ^ h) else []) ++ cov _ = _
        rw [if_neg (by decide), D.cv]
        rfl
      · rcases List.mem_cons.mp hm with e | e
        · cases e
          exact ⟨by rw [eM]; omega, hal.symm⟩
        · exact D.tr g i al e
      · show lastN (if false = true then some (2 * j * 2 ^ h, 2 * j * 2 ^ h) else some (2 * j * 2 ^ h, 2 * j * 2 ^ h + 2 ^ h)) _ = _
        rw [if_neg (by decide), eL]
        exact l1
/-- all of the looks -/
theorem firstG_ok {r o : List Str} {n : Nat} : ∀ (ps : List (Nat × Nat)) (h s : Nat) (u : Option (Nat × Nat)), partsOk n h s ps →
    (firstG r o ps).2.length ≤ h ∧ TrueL r o n (firstG r o ps).2 ∧
    (((firstG r o ps).1 = none ∧ cov (firstG r o ps).2 = List.range' s (n - s) ∧ ∀ x, s ≤ x → x < n → r[x]? = o[x]?) ∨
      ∃ k, (firstG r o ps).1 = some k ∧ Desc r o n s k (firstG r o ps).2 ∧ ∃ a, lastN u (firstG r o ps).2 = some (a, k + 1) ∧ a ≤ k)
  | [], h, s, u, p => by
    have p : s = n := p
    subst p
    refine ⟨Nat.zero_le _, fun _ _ _ h => absurd h List.not_mem_nil, .inl ⟨rfl, ?_, fun x h1 h2 => by omega⟩⟩
    rw [Nat.sub_self]
    rfl
  | (g, j) :: ps, h, s, u, p => by
    obtain ⟨p1, p2, p3⟩ := p
    have hs := partsOk_le p3
    have hp0 := Nat.two_pow_pos g
    have e1 : (j + 1) * 2 ^ g = s + 2 ^ g := by rw [Nat.add_mul, Nat.one_mul, p2]
    cases hal : alike r o g j with
    | true =>
      have ag := (alike_iff r o g j).mp hal
      rw [p2, e1] at ag
      rw [firstG_true hal]
      obtain ⟨i1, i2, i3⟩ := firstG_ok (r := r) (o := o) ps g (s + 2 ^ g) u p3
      refine ⟨by simp only [List.length_cons]; omega, fun g' j' al hm => ?_, ?_⟩
      · rcases List.mem_cons.mp hm with e | e
        · cases e
          exact ⟨by omega, hal.symm⟩
        · exact i2 g' j' al e
      · rcases i3 with ⟨z1, z2, z3⟩ | ⟨k, z1, D, a, z2, z3⟩
        · refine .inl ⟨z1, ?_, fun x h1 h2 => ?_⟩
          · show (if true = true then List.range' (j * 2 ^ g) (2 ^ g) else []) ++ cov _ = _
            rw [if_pos rfl, z2, p2, range'_app]
            congr 1
            omega
          · by_cases c : x < s + 2 ^ g
            · exact ag x (by omega) c
            · exact z3 x (by omega) h2
        · have hge := D.ge
          refine .inr ⟨k, z1, ⟨by omega, D.lt, ?_, fun x h1 h2 => ?_, D.df, fun g' j' al hm => ?_⟩, a, z2, z3⟩
          · show (if true = true then List.range' (j * 2 ^ g) (2 ^ g) else []) ++ cov _ = _
            rw [if_pos rfl, D.cv, p2, range'_app]
            congr 1
            omega
          · by_cases c : x < s + 2 ^ g
            · exact ag x (by omega) c
            · exact D.ag x (by omega) h2
          · rcases List.mem_cons.mp hm with e | e
            · cases e
              exact ⟨by omega, hal.symm⟩
            · exact D.tr g' j' al e
    | false =>
      rw [firstG_false hal]
      obtain ⟨D, d1, a', l1, l2⟩ := descend_ok (n := n) g j (j * 2 ^ g) hal (by omega) (Nat.le_refl _)
      rw [p2] at D
      refine ⟨by simp only [List.length_cons, descend_len]; omega, fun g' j' al hm => ?_, .inr ⟨_, rfl, ⟨D.ge, D.lt, ?_, D.ag, D.df, fun g' j' al hm => ?_⟩, a', ?_, l2⟩⟩
      · rcases List.mem_cons.mp hm with e | e
        · cases e
          exact ⟨by omega, hal.symm⟩
        · exact D.tr g' j' al e
      · show (if false = true then _ else []) ++ cov _ = _
        rw [if_neg (by decide), D.cv]
        rfl
      · rcases List.mem_cons.mp hm with e | e
        · cases e
          exact ⟨by omega, hal.symm⟩
        · exact D.tr g' j' al e
      · show lastN (if false = true then u else some (j * 2 ^ g, j * 2 ^ g + 2 ^ g)) _ = _
        rw [if_neg (by decide), show j * 2 ^ g + 2 ^ g = (j + 1) * 2 ^ g by omega]
        exact l1

/-! ### all places (nothing of the program) -/
def into (r o : List Str) : Nat → Nat → List Nat × List Look
  | 0, j => ([j], [])
  | h + 1, j =>
    if alike r o h (2 * j) = true then ((into r o h (2 * j + 1)).1, (h, 2 * j, true) :: (into r o h (2 * j + 1)).2)
    else if alike r o h (2 * j + 1) = true then ((into r o h (2 * j)).1, (h, 2 * j, false) :: ((into r o h (2 * j)).2 ++ [(h, 2 * j + 1, true)]))
    else ((into r o h (2 * j)).1 ++ (into r o h (2 * j + 1)).1, (h, 2 * j, false) :: ((into r o h (2 * j)).2 ++ (h, 2 * j + 1, false) :: (into r o h (2 * j + 1)).2))
def allG (r o : List Str) : List (Nat × Nat) → List Nat × List Look
  | [] => ([], [])
  | (h, j) :: ps => if alike r o h j = true then ((allG r o ps).1, (h, j, true) :: (allG r o ps).2) else ((into r o h j).1 ++ (allG r o ps).1, (h, j, false) :: ((into r o h j).2 ++ (allG r o ps).2))
def allU (r o : List Str) : List Nat × List Look := allG r o (parts (min r.length o.length))
theorem into_len (r o : List Str) : ∀ h j, (into r o h j).1.length ≤ 2 ^ h ∧ (into r o h j).2.length + 2 ≤ 2 * 2 ^ h
  | 0, j => ⟨Nat.le_refl _, Nat.le_refl _⟩
  | h + 1, j => by
    obtain ⟨a1, a2⟩ := into_len r o h (2 * j)
    obtain ⟨b1, b2⟩ := into_len r o h (2 * j + 1)
    have e : 2 ^ (h + 1) = 2 ^ h + 2 ^ h := by rw [Nat.pow_succ]; omega
    unfold into
    by_cases c1 : alike r o h (2 * j) = true
    · rw [if_pos c1]
      simp only [List.length_cons]
      omega
    · rw [if_neg c1]
      by_cases c2 : alike r o h (2 * j + 1) = true
      · rw [if_pos c2]
        simp only [List.length_cons, List.length_append, List.length_nil]
        omega
      · rw [if_neg c2]
        simp only [List.length_cons, List.length_append]
        omega
def natV (n : Nat) : V := .int (n : Int)
def spIntoH (h : Nat) : Sp := fun vs H Q _ => ∃ (a b pl lk : Addr) (r o : List Str) (j : Nat) (ps : List Nat) (ls : List Look), vs = [.ref a, .ref b, .int (h : Int), .int (j : Int), .ref pl, .ref lk] ∧ RL H a r ∧ RL H b o ∧ (j + 1) * 2 ^ h ≤ 1024 ∧ H pl = some (.lst (ps.map natV)) ∧ LK H lk ls ∧
  pl ≠ lk ∧ a ≠ pl ∧ a ≠ lk ∧ b ≠ pl ∧ b ≠ lk ∧ ps.length + 2 ^ h ≤ 100000 ∧ ls.length + 2 * 2 ^ h ≤ 100000 ∧
  ∀ H', (∀ z u, H z = some u → z ≠ pl → z ≠ lk → H' z = some u) → H' pl = some (.lst ((ps ++ (into r o h j).1).map natV)) → LK H' lk (ls ++ (into r o h j).2) → Q .non H'
def spInto : Sp := fun vs H Q E => ∃ h ≤ 12, spIntoH h vs H Q E
/-- a look appended: what stays -/
theorem look_put {H : Hp} {lk u : Addr} {xs : List V} {x : HO} (hu : H u = none) : ∀ z y, H z = some y → z ≠ lk → (upd (upd H u x) lk (.lst xs)) z = some y := fun z y e n => by
  rw [upd_ne n, upd_ne (ne_of_none e hu)]
  exact e
theorem LK.snocE {H : Hp} {p t : Addr} {ls : List Look} {ts : List Addr} {q : Look} {x : HO} (hx : x = .tup [.int (q.1 : Int), .int (q.2.1 : Int), .bl q.2.2]) (h1 : H p = some (.lst (ts.map V.ref)))
    (h2 : Paired (fun t (q : Look) => H t = some (.tup [.int (q.1 : Int), .int (q.2.1 : Int), .bl q.2.2])) ts ls) (ht : H t = none) : LK (upd (upd H t x) p (.lst (ts.map V.ref ++ [.ref t]))) p (ls ++ [q]) := by
  subst hx
  exact LK.snoc h1 h2 ht
/-- looks stay where their list does, and all tuples -/
theorem LK.off {H H' : Hp} {pl lk : Addr} {ls : List Look} {us : List V} (h : LK H lk ls) (hp : H pl = some (.lst us)) (n : lk ≠ pl) (k : ∀ z y, H z = some y → z ≠ pl → H' z = some y) : LK H' lk ls :=
  h.move (fun o e => k _ _ e n) fun z xs e => k _ _ e (ne_of e hp (by intro q; cases q))
def AllAt (H : Hp) (t pl lk : Addr) (q : List Nat × List Look) : Prop := H t = some (.tup [.ref pl, .ref lk]) ∧ H pl = some (.lst (q.1.map natV)) ∧ LK H lk q.2
theorem AllAt.same {H H' : Hp} {t pl lk : Addr} {q : List Nat × List Look} (s : Same H H') (h : AllAt H t pl lk q) : AllAt H' t pl lk q := ⟨s _ _ h.1, s _ _ h.2.1, h.2.2.same s⟩
def spAll : Sp := fun vs H Q _ => ∃ (a b : Addr) (r o : List Str), vs = [.ref a, .ref b] ∧ RL H a r ∧ RL H b o ∧ r.length ≤ 1024 ∧ o.length ≤ 1024 ∧ ∀ H' t pl lk, Same H H' → H t = none → H pl = none → H lk = none → pl ≠ lk → t ≠ pl → t ≠ lk → AllAt H' t pl lk (allU r o) → Q (.ref t) H'
theorem allG_true {r o : List Str} {g j : Nat} {ps : List (Nat × Nat)} (h : alike r o g j = true) : allG r o ((g, j) :: ps) = ((allG r o ps).1, (g, j, true) :: (allG r o ps).2) := by
  show (if alike r o g j = true then _ else _) = _
  rw [if_pos h]
theorem allG_false {r o : List Str} {g j : Nat} {ps : List (Nat × Nat)} (h : alike r o g j = false) : allG r o ((g, j) :: ps) = ((into r o g j).1 ++ (allG r o ps).1, (g, j, false) :: ((into r o g j).2 ++ (allG r o ps).2)) := by
  show (if alike r o g j = true then _ else _) = _
  rw [if_neg (by rw [h]; decide)]
theorem into_comm (r o : List Str) : ∀ h j, into r o h j = into o r h j
  | 0, _ => rfl
  | h + 1, j => by
    unfold into
    rw [alike_comm r o h (2 * j), alike_comm r o h (2 * j + 1), into_comm r o h, into_comm r o h]
theorem allG_comm (r o : List Str) : ∀ ps, allG r o ps = allG o r ps
  | [] => rfl
  | (h, j) :: ps => by
    unfold allG
    rw [alike_comm r o h j, into_comm r o h j, allG_comm r o ps]
theorem allU_comm (r o : List Str) : allU r o = allU o r := by
  unfold allU
  rw [allG_comm r o, Nat.min_comm]
theorem allG_len (r o : List Str) : ∀ ps : List (Nat × Nat), (∀ g j, (g, j) ∈ ps → 2 ^ g ≤ 1024) → (allG r o ps).1.length ≤ 1024 * ps.length ∧ (allG r o ps).2.length ≤ 2049 * ps.length
  | [], _ => ⟨Nat.le_refl _, Nat.le_refl _⟩
  | (h, j) :: ps, hp => by
    obtain ⟨a1, a2⟩ := allG_len r o ps fun g j h => hp g j (List.mem_cons_of_mem _ h)
    obtain ⟨b1, b2⟩ := into_len r o h j
    have c := hp h j List.mem_cons_self
    unfold allG
    by_cases z : alike r o h j = true
    · rw [if_pos z]
      simp only [List.length_cons]
      omega
    · rw [if_neg z]
      simp only [List.length_cons, List.length_append]
      omega
theorem allU_len {r o : List Str} (h : r.length ≤ 1024) : (allU r o).1.length ≤ 11264 ∧ (allU r o).2.length ≤ 22539 := by
  obtain ⟨a1, a2⟩ := allG_len r o (parts (min r.length o.length)) fun g j hm => by
    have := (blk_bounds (parts_in hm)).1
    omega
  have h2 : (parts (min r.length o.length)).length ≤ 11 := Nat.le_trans (parts_len _) (dig_small (by omega))
  unfold allU
  omega
theorem AllAt.move {H H' : Hp} {t pl lk : Addr} {q : List Nat × List Look} (h : AllAt H t pl lk q) (k1 : ∀ o, H pl = some o → H' pl = some o) (k2 : ∀ o, H lk = some o → H' lk = some o) (tp : ∀ z xs, H z = some (.tup xs) → H' z = some (.tup xs)) : AllAt H' t pl lk q := ⟨tp _ _ h.1, k1 _ h.2.1, h.2.2.move k2 tp⟩
/-- all places at which two books differ, and the looks -/
def spAU {CB : Addr} (R : Rep CB) (w : World) (C cT : Addr) : Sp := fun vs H Q E =>
  (∃ (p d l : Addr) (L : List Th) (x y : BS), vs = [.ref x.b, .ref y.b] ∧ Bk R w C H p d l L x ∧ Bk R w C H p d l L y ∧ ∀ H' t pl lk, Same H H' → H t = none → H pl = none → H lk = none → pl ≠ lk → t ≠ pl → t ≠ lk → AllAt H' t pl lk (allU x.rows y.rows) → Q (.ref t) H') ∨
  ∃ (p d l : Addr) (L : List Th) (x : BS) (p' d' l' : Addr) (L' : List Th) (y : BS), vs = [.ref x.b, .ref y.b] ∧ Bk R w C H p d l L x ∧ Bk R w C H p' d' l' L' y ∧ p ≠ p' ∧ ∀ H', Same H H' → E (.ref cT) none H'
theorem ints_dp {K : PySem.W.Frag} {H : Hp} {a : Addr} {zs : List Int} (h : H a = some (.lst (zs.map V.int))) : Dp K H (.ref a) (.list (zs.map PyData.int)) := by
  refine .lst (SqL.of h) ?_
  clear h
  induction zs with
  | nil => exact .nil
  | cons x r ih => exact .cons (.int _) ih
theorem ints_all (zs : List Int) : PyData.canLayAll0 (zs.map PyData.int) = true ∧ PyData.depthAll (zs.map PyData.int) ≤ 5 := all_shaped _ fun d hd => by
  obtain ⟨q, _, rfl⟩ := List.mem_map.mp hd
  exact ⟨by simp [PyData.canLay0], by simp [PyData.depth]⟩
theorem nat_ints (ps : List Nat) : ps.map natV = (ps.map fun n : Nat => (n : Int)).map V.int := by
  rw [List.map_map]
  rfl

section
variable {P : Program} {w : World} {K : PySem.W.Frag} {mg : Str → Option Value} {base : Heap}
theorem ok_digits (D : Dfn K mg "digits" s_digits ["count"]) : COk P w K mg base CX0 "digits" 1 ["count"] spDig := by
  refine c_mk D sc_digits (fun vs H Q E h => ?_) (fun f cdv A outer s H vs Q E hr h => ?_)
  · obtain ⟨n, rfl, _⟩ := h
    rfl
  · obtain ⟨n, rfl, q⟩ := h
    refine ⟨_, (pss_one (ps_ret (pe_bits (pv 0)))), ?_⟩
    refine ⟨_, rfl, n, rfl, ?_⟩
    rw [dig_bits]
    exact q
theorem ok_parted (D : Dfn K mg "parted" s_parted ["count"]) (B : Bi mg) (C_digits : COk P w K mg base CX0 "digits" 1 ["count"] spDig) : COk P w K mg base CX0 "parted" 2 ["count"] spParted := by
  refine c_mk D sc_parted (fun vs H Q E h => ?_) (fun f cdv A outer s H vs Q E hr h => ?_)
  · obtain ⟨n, rfl, _⟩ := h
    rfl
  · obtain ⟨n, rfl, hn, q⟩ := h
    have hd : dig n ≤ 28 := dig_le hn
    refine ⟨_, (pss_cons (ps_set (i := 1) sc_parted.nd rfl (.inl rfl) (pe_lst pa_nil))
      (pss_cons (ps_set (i := 2) sc_parted.nd rfl (.inl rfl) pe_int)
      (pss_cons (ps_for PassesOwn.never rfl (pi_revR (by rfl) B.reversed (prg_1 (by rfl) B.range (pe_c C_digits hr (by rfl) (pa_cons (pv 0) pa_nil)))) (pg_name (i := 3) sc_parted.nd rfl (.inl rfl))
      (pss_cons (ps_set (i := 4) sc_parted.nd rfl (.inl rfl) (pe_op op_oneShl pe_int (pv 3)))
      (pss_one (ps_if (pt_cmpR op_le (pv 4) (pe_op op_sub (pv 0) (pv 2)) (nomark _)) (pss_cons (ps_expr (pe_bm PySem.F.plainAttrs_list PySem.F.slot_list_append PySem.F.type_list_append mt_append (pv 1) (pa_cons (pe_tup (pa_cons (pv 3) (pa_cons (pe_op op_fdiv (pv 2) (pv 4)) pa_nil))) pa_nil)))
      (pss_one (ps_aug (i := 2) sc_parted.nd rfl (.inl rfl) (pv 4) ip_add))) pss_nil))))
      (pss_one (ps_ret (pv 1)))))), ?_⟩
    refine ⟨Nat.zero_le _, fun p hp => ?_⟩
    refine ⟨_, rfl, n, rfl, ?_⟩
    refine ⟨(dig n : Int), rfl, by decide, by decide, by omega, by omega, ?_⟩
    have e1 : ((dig n : Int) - 0).toNat = dig n := by omega
    rw [e1]
    refine for_rangeC (fun i σ H1 => ∃ (s : Nat) (done : List (Nat × Nat)) (y3 y4 : Option V), σ = [some (.int (n : Int)), some (.ref p), some (.int (s : Int)), y3, y4] ∧ s ≤ n ∧ done.length ≤ i ∧ done ++ partsG n (dig n - i) s = parts n ∧ Same H H1 ∧ PL H1 p done) ?_ ?_ ?_
    · refine ⟨0, [], none, none, rfl, Nat.zero_le _, Nat.le_refl _, rfl, same_upd hp, [], upd_same, .nil⟩
    · rintro i σ H1 hi ⟨s, done, y3, y4, rfl, hs, hl, hparts, sm, ts, hp1, hts⟩
      obtain ⟨g, eg⟩ : ∃ g, dig n - i = g + 1 := ⟨dig n - i - 1, by omega⟩
      have ei : (0 : Int) + ((dig n : Nat) : Int) - 1 + (i : Int) * -1 = (g : Int) := by omega
      rw [ei]
      refine ⟨_, rfl, g, rfl, rfl, by omega, ?_⟩
      refine ⟨_, rfl, _, rfl, _, rfl, _, _, rfl, rfl, _, _, rfl, rfl, _, rfl, ite2 (fun e => ?_) (fun e => ?_)⟩
      · have h2 : s + 2 ^ g ≤ n := by
          have := of_decide_eq_true e
          have e2 : ((2 ^ g : Nat) : Int) = 2 ^ g := by simp
          omega
        rw [eg] at hparts
        unfold partsG at hparts
        rw [if_pos h2] at hparts
        have hg : (2 : Nat) ^ g < 2 ^ 28 := by omega
        refine ⟨_, rfl, .inl ⟨rfl, _, SqL.of hp1⟩, _, rfl, _, rfl, _, rfl, _, _, rfl, rfl, ⟨?_, ?_⟩, by show 2 ≤ sizeLine; decide, fun t ht => ?_⟩
        · show (0 : Int) < 2 ^ g
          exact p2_pos g
        · show (2 : Int) ^ g < 1073741824
          have e2 : ((2 ^ g : Nat) : Int) = 2 ^ g := by simp
          omega
        have ev : (s : Int) / 2 ^ g = ((s / 2 ^ g : Nat) : Int) := by simp
        have hp2 : (upd H1 t (.tup [.int (g : Int), .int ((s : Int) / 2 ^ g)])) p = some (.lst (ts.map V.ref)) := by
          rw [upd_ne (ne_of_none hp1 ht)]
          exact hp1
        have hlen : (ts.map V.ref).length < sizeLine := by
          rw [List.length_map, Paired.length hts]
          exact small (by omega)
        refine ⟨p, _, _, rfl, rfl, hp2, hlen, ?_⟩
        refine ⟨_, rfl, _, rfl, _, _, rfl, rfl, ?_⟩
        refine ⟨s + 2 ^ g, done ++ [(g, s / 2 ^ g)], some (.int (g : Int)), some (.int (2 ^ g)), ?_, h2, ?_, ?_, ?_, ?_⟩
        · show [some (V.int (n : Int)), some (V.ref p), some (V.int ((s : Int) + 2 ^ g)), some (V.int (g : Int)), some (V.int (2 ^ g))] = _
          rw [show (s : Int) + 2 ^ g = ((s + 2 ^ g : Nat) : Int) by simp]
        · rw [List.length_append]
          exact Nat.succ_le_succ hl
        · rw [show dig n - (i + 1) = g by omega, ← hparts, List.append_assoc]
          rfl
        · intro b o e
          have nb : b ≠ p := ne_of_none e hp
          rw [upd_ne nb, upd_ne (ne_of_none (sm _ _ e) ht)]
          exact sm _ _ e
        · show PL (upd (upd H1 t (.tup [.int (g : Int), .int ((s : Int) / 2 ^ g)])) p _) p _
          rw [ev]
          exact PL.snoc hp1 hts ht
      · have h2 : ¬ s + 2 ^ g ≤ n := fun z => e (decide_eq_true (by
          have e2 : ((2 ^ g : Nat) : Int) = 2 ^ g := by simp
          omega))
        rw [eg] at hparts
        unfold partsG at hparts
        rw [if_neg h2] at hparts
        refine ⟨s, done, _, _, rfl, hs, by omega, ?_, sm, ts, hp1, hts⟩
        rw [show dig n - (i + 1) = g by omega]
        exact hparts
    · rintro σ H1 ⟨s, done, y3, y4, rfl, hs, hl, hparts, sm, hpl⟩
      rw [Nat.sub_self] at hparts
      unfold partsG at hparts
      rw [List.append_nil] at hparts
      rw [hparts] at hpl
      exact ⟨_, rfl, q _ _ sm hp hpl⟩

end

/-! ### rules of the program's side -/
section
variable {X : Cx} {tg : Expr}
/-- a range object that stands, walked -/
def iRngV (t : TE) : TI := fun σ H R => t σ H fun x H1 => ∃ a lo hi, x = .ref a ∧ H1 a = some (.rng lo hi) ∧ (-(2 ^ 62) ≤ lo ∧ lo < 2 ^ 62 ∧ -(2 ^ 62) ≤ hi ∧ hi < 2 ^ 62) ∧ R (Itr lo (hi - lo).toNat) H1
theorem pi_rngV {e : Expr} {t : TE} (he : PE X e t) : PI X tg e (iRngV t) := by
  refine ⟨fun pins s σ H R I h => ?_⟩
  refine thn (he.run pins s σ H _ I h) fun v s1 ⟨x, H1, I1, r1, q1⟩ => ?_
  obtain ⟨a, lo, hi, e, ha, ⟨q1, q2, q3, q4⟩, q⟩ := q1
  subst e
  cases r1
  obtain ⟨t, u, w, hz⟩ := I1.hok a _ ha
  refine wpAny_pyIter_range hz (small_one q1 q2 q3 q4) ?_
  refine ⟨s1.heap.objs.size, [s1.heap.objs.size], _, _, H1, rfl, I1.kept (t' := s1.toks) fun b o e => Heap.get?_push_of_some _ e, turn_range _ lo (hi - lo).toNat, ?_, fun b hb => ?_, q⟩
  · have e1 : lo + ((0 : Nat) : Int) * 1 = lo := by simp
    have e2 : (((hi - lo).toNat : Nat) : Int) - ((0 : Nat) : Int) = Builtin.Range.rangeSize lo hi 1 := by rw [rangeSize_one]; split <;> omega
    show IsRangeIter _ _ (lo + ((0 : Nat) : Int) * 1) ((((hi - lo).toNat : Nat) : Int) - ((0 : Nat) : Int)) 1
    rw [e1, e2]
    exact Heap.get?_push_size _ rfl
  · have e : b = s1.heap.objs.size := by simpa using hb
    subst e
    exact I1.fpOk (Nat.le_refl _) (I1.hok.fresh (Nat.le_refl _))
theorem cr_range1 : CallR X (.type "range") (fun vs H Q => ∃ j, vs = [V.int j] ∧ ∀ p, H p = none → Q (.ref p) (upd H p (.rng 0 j))) := by
  intro pins s σ H vs us Q I r h
  obtain ⟨j, rfl, q⟩ := h
  cases r with
  | cons r rr =>
    cases rr
    obtain ⟨t, rfl⟩ := r
    refine call_range_1 ⟨.ref s.heap.objs.size, upd H s.heap.objs.size (.rng 0 j), I.laid (t' := s.toks + 1 + 1) (fun b o e => Heap.get?_push_of_some _ e) (Nat.le_refl _) ?_, rfl, q _ (I.hok.fresh (Nat.le_refl _))⟩
    exact ⟨s.toks, t, s.toks + 1, Heap.get?_push_size _ rfl⟩
theorem KT_drop {H : Hp} {kvs : List (List Key × V)} {xs : List (List Key × Addr × Value)} (r : KT H kvs xs) (k : List Key) : KT H (dropK kvs k) (withoutH xs k) := by
  unfold dropK withoutH
  induction r with
  | nil => exact .nil
  | @cons p q ps qs h t ih =>
    rw [List.filter_cons, List.filter_cons]
    by_cases e : p.1 = k
    · rw [decide_eq_false (fun z => z e), decide_eq_false (fun z => z (h.1.symm.trans e))]
      exact ih
    · rw [decide_eq_true (p := p.1 ≠ k) e, decide_eq_true (p := q.1 ≠ k) (fun z => e (h.1.trans z))]
      exact .cons h ih
/-- del d[y], y a tuple that is a key -/
def sDDelT (td ty : TE) : TS := fun D σ H => td σ H fun x H1 => ty σ H1 fun y H2 => ∃ a kvs k b, x = .ref a ∧ H2 a = some (.dT kvs) ∧ y = .ref b ∧ H2 b = some (.tup (k.map kV)) ∧ (valV kvs k).isSome = true ∧ D.nx σ (upd H2 a (.dT (dropK kvs k)))
theorem ps_ddelT {o i : Expr} {td ty : TE} {pos tpos : Pos} (hu : X.A.units + 1 < cLine) (ho : PE X o td) (hi : PE X i ty) : PS X (.Delete [.Subscript o i tpos] pos) (sDDelT td ty) := by
  refine ⟨fun pins s σ H D I h => ?_⟩
  refine wpAny_Delete (wpAny_deleteEach_cons (wpAny_delete_Subscript (thn (ho.run pins s σ H _ I h) fun u s1 ⟨x, H1, I1, rx, q1⟩ => thn (hi.run pins s1 σ H1 _ I1 q1) fun iv s2 ⟨y, H2, I2, ry, a, kvs, k, b, ex, e, ey, eb, l, q2⟩ => ?_)))
  subst ex ey
  obtain rfl : u = Value.ref a := rx
  obtain rfl : iv = Value.ref b := ry
  obtain ⟨z, hd, xs, rel, dd⟩ := dt_of I2.hok e
  have hz : xs.length ≤ sizeLine := by rw [← Paired.length rel]; exact z
  have r := KT.val rel k
  cases hw : atKey xs k with
  | none =>
    rw [hw] at r
    rw [RelO.isSome_eq r] at l
    cases l
  | some p =>
    refine wpAny_delItem_heap (hsz := hz) (tupleKind_room_in1 hu) (key_of I2.hok eb) hd dd hw fun h' dd' hs => ?_
    obtain ⟨q, es, ep, hq, h2, h3, h4, _, h5⟩ := dd'
    refine wpAny_deleteEach_nil ⟨σ, upd H2 a (.dT (dropK kvs k)), d_write I2 (by rw [e]; exact True.intro) hs ⟨q, hq⟩ ⟨Nat.le_trans (dropK_le kvs k) z, hd, _, (KT_drop rel k).keeps fun c ys ec => ?_, q, es, ep, hq, h2, h3, h4, h5⟩, q2⟩
    rw [upd_ne (ne_of ec e (fun z => nomatch z))]
    exact ec
end
theorem valV_drop {κ : Type} [DecidableEq κ] (k j : κ) : ∀ kvs : List (κ × V), valV (dropK kvs k) j = if j = k then none else valV kvs j
  | [] => by
    show none = _
    by_cases h : j = k
    · rw [if_pos h]
    · rw [if_neg h]
      rfl
  | p :: r => by
    have ih := valV_drop k j r
    unfold dropK at ih ⊢
    rw [List.filter_cons]
    by_cases e : p.1 = k
    · rw [decide_eq_false (fun z => z e)]
      show valV (List.filter _ r) j = _
      rw [ih]
      by_cases h : j = k
      · rw [if_pos h, if_pos h]
      · rw [if_neg h, if_neg h, valV_neg (fun z => h (z.symm.trans e))]
    · rw [decide_eq_true (p := p.1 ≠ k) e]
      show valV (p :: List.filter _ r) j = _
      by_cases h2 : p.1 = j
      · rw [valV_pos h2, if_neg (fun z => e (h2.trans z)), valV_pos h2]
      · rw [valV_neg h2, ih, valV_neg h2]
theorem putK_len {κ : Type} [DecidableEq κ] {k : κ} {v : V} {kvs : List (κ × V)} (h : (valV kvs k).isSome = true) : (putK kvs k v).length = kvs.length := by
  unfold putK
  rw [valV_any, if_pos h, List.length_map]
theorem dropK_len {κ : Type} [DecidableEq κ] {k : κ} : ∀ {kvs : List (κ × V)}, (valV kvs k).isSome = true → (dropK kvs k).length + 1 ≤ kvs.length
  | [], h => by cases h
  | p :: r, h => by
    unfold dropK
    rw [List.filter_cons]
    by_cases e : p.1 = k
    · rw [decide_eq_false (fun z => z e)]
      exact Nat.succ_le_succ (dropK_le r k)
    · rw [decide_eq_true (p := p.1 ≠ k) e]
      rw [valV_neg e] at h
      exact Nat.succ_le_succ (dropK_len h)

/-! ### the program's side: blocks -/
theorem blk_run (n : Nat) : ∀ k h j m, m < blk n k h j ↔ m < k ∧ (j / 2 ^ m + 1) * 2 ^ (h + m) ≤ n
  | 0, h, j, m => by
    unfold blk
    exact ⟨fun z => absurd z (Nat.not_lt_zero _), fun z => absurd z.1 (Nat.not_lt_zero _)⟩
  | k + 1, h, j, m => by
    unfold blk
    by_cases c : (j + 1) * 2 ^ h ≤ n
    · rw [if_pos c]
      cases m with
      | zero =>
        rw [Nat.pow_zero, Nat.div_one, Nat.add_zero]
        exact ⟨fun _ => ⟨Nat.succ_pos _, c⟩, fun _ => Nat.succ_pos _⟩
      | succ m =>
        have ih := blk_run n k (h + 1) (j / 2) m
        have e : j / 2 / 2 ^ m = j / 2 ^ (m + 1) := by rw [Nat.div_div_eq_div_mul, Nat.pow_succ, Nat.mul_comm]
        rw [Nat.succ_lt_succ_iff, ih, Nat.succ_lt_succ_iff, e, show h + 1 + m = h + (m + 1) by omega]
    · rw [if_neg c]
      refine ⟨fun z => absurd z (Nat.not_lt_zero _), fun ⟨_, z⟩ => absurd ?_ c⟩
      refine Nat.le_trans ?_ z
      have e : (j / 2 ^ m + 1) * 2 ^ (h + m) = (j / 2 ^ m + 1) * 2 ^ m * 2 ^ h := by rw [Nat.mul_assoc, ← Nat.pow_add, Nat.add_comm m h]
      rw [e]
      refine Nat.mul_le_mul_right _ ?_
      have h1 := Nat.div_add_mod j (2 ^ m)
      have h2 := Nat.mod_lt j (Nat.two_pow_pos m)
      rw [Nat.add_mul, Nat.one_mul, Nat.mul_comm]
      omega
theorem in_dig {n j m : Nat} (z : (j + 1) * 2 ^ m ≤ n) : m < dig n := by
  have h1 : 2 ^ m ≤ n := Nat.le_trans (by rw [Nat.add_mul, Nat.one_mul]; exact Nat.le_add_left _ _) z
  exact (Nat.pow_lt_pow_iff_right (by decide)).mp (Nat.lt_of_le_of_lt h1 (dig_lt n))
theorem blocks_iff {n i m : Nat} : m < blocks n i ↔ (i / 2 ^ m + 1) * 2 ^ m ≤ n := by
  unfold blocks
  rw [blk_run, Nat.zero_add]
  exact ⟨fun z => z.2, fun z => ⟨by have := in_dig z; omega, z⟩⟩
theorem blocks_dig {n i : Nat} : blocks n i ≤ dig n := by
  cases h : blocks n i with
  | zero => exact Nat.zero_le _
  | succ k =>
    have : k < blocks n i := by omega
    exact in_dig (blocks_iff.mp this)
def blkL (n i : Nat) : List (Nat × Nat) := (List.range (blocks n i)).map fun h => (h, i / 2 ^ h)
def blkU (n i k : Nat) : List (Nat × Nat) := (List.range (min k (blocks n i))).map fun h => (h, i / 2 ^ h)
theorem blkU_pos {n i k : Nat} (h : k < blocks n i) : blkU n i (k + 1) = blkU n i k ++ [(k, i / 2 ^ k)] := by
  unfold blkU
  rw [Nat.min_eq_left h, Nat.min_eq_left (Nat.le_of_lt h), List.range_succ, List.map_append]
  rfl
theorem blkU_neg {n i k : Nat} (h : ¬ k < blocks n i) : blkU n i (k + 1) = blkU n i k := by
  unfold blkU
  rw [Nat.min_eq_right (by omega), Nat.min_eq_right (by omega)]
theorem blkU_all (n i : Nat) : blkU n i (dig n) = blkL n i := by
  unfold blkU blkL
  rw [Nat.min_eq_right blocks_dig]
theorem blkL_len (n i : Nat) : (blkL n i).length = blocks n i := by
  unfold blkL
  rw [List.length_map, List.length_range]
/-- the blocks of a count that is greater by one -/
theorem dom_succ {k h j : Nat} : (j + 1) * 2 ^ h ≤ k + 1 ↔ (j + 1) * 2 ^ h ≤ k ∨ (h < blocks (k + 1) k ∧ j = k / 2 ^ h) := by
  constructor
  · intro c
    by_cases z : (j + 1) * 2 ^ h ≤ k
    · exact .inl z
    · right
      have hp := Nat.two_pow_pos h
      have e : k = 2 ^ h * j + (2 ^ h - 1) := by
        rw [Nat.add_mul, Nat.one_mul, Nat.mul_comm] at c z
        omega
      have ej : j = k / 2 ^ h := by
        rw [e, Nat.mul_add_div hp, Nat.div_eq_of_lt (by omega)]
        rfl
      exact ⟨blocks_iff.mpr (by rw [← ej]; exact c), ej⟩
  · rintro (z | ⟨z1, z2⟩)
    · omega
    · rw [z2]
      exact blocks_iff.mp z1
theorem dom_old {k h j : Nat} (c : (j + 1) * 2 ^ h ≤ k) : j ≠ k / 2 ^ h := by
  have := (Nat.le_div_iff_mul_le (Nat.two_pow_pos h)).mpr c
  omega
/-- how many blocks a count has -/
def tot : Nat → Nat
  | 0 => 0
  | n + 1 => tot n + blocks (n + 1) n
theorem tot_le : ∀ {n : Nat}, n ≤ 2000 → tot n ≤ 12 * n
  | 0, _ => Nat.le_refl _
  | n + 1, h => by
    have h1 := tot_le (n := n) (by omega)
    have h2 : blocks (n + 1) n ≤ 12 := blocks_le h
    show tot n + blocks (n + 1) n ≤ _
    omega
theorem iteT' {A B : Prop} {b : Bool} (e : b = true) (h : A) : if b = true then A else B := by
  rw [if_pos e]
  exact h
theorem iteF' {A B : Prop} {b : Bool} (e : b = false) (h : B) : if b = true then A else B := by
  rw [if_neg (by rw [e]; exact Bool.false_ne_true)]
  exact h
def spBlocksAt : Sp := fun vs H Q _ => ∃ n i : Nat, vs = [.int (n : Int), .int (i : Int)] ∧ n ≤ 2000 ∧ ∀ H' p, Same H H' → H p = none → PL H' p (blkL n i) → Q (.ref p) H'
def spCheckPlace (cP : Addr) : Sp := fun vs H Q E => ∃ (v : V) (n : Nat), vs = [v, .int (n : Int)] ∧ AnyV H v ∧ (∀ i, placeV n v = some i → Q .non H) ∧ (placeV n v = none → E (.ref cP) none H)
section
variable {P : Program} {w : World} {K : PySem.W.Frag} {mg : Str → Option Value} {base : Heap} {cP : Addr}
theorem ok_blocks_at (D : Dfn K mg "blocks_at" s_blocks_at ["count", "place"]) (B : Bi mg) (C_digits : COk P w K mg base CX0 "digits" 1 ["count"] spDig) : COk P w K mg base CX0 "blocks_at" 2 ["count", "place"] spBlocksAt := by
  refine c_mk D sc_blocks_at (fun vs H Q E h => ?_) (fun f cdv A outer s H vs Q E hr h => ?_)
  · obtain ⟨n, i, rfl, _⟩ := h
    rfl
  · obtain ⟨n, i, rfl, hn, q⟩ := h
    refine ⟨_, (pss_cons (ps_set (i := 2) sc_blocks_at.nd rfl (.inl rfl) (pe_callTy (T := "range") cr_range1 (by rfl) B.range (by decide +kernel) (pa_cons (pe_c C_digits hr (by rfl) (pa_cons (pv 0) pa_nil)) pa_nil)))
      (pss_one (ps_ret (pe_lc (own := [("height", 3)]) (g := gName 3) rfl sc_blocks_at.nd (pi_rngV (pv 2)) (blkOk_by (N := ["count", "place", "heights", "height"]) (sc := defScope s_blocks_at) (by decide +kernel)) (fun _ _ _ _ _ => pg_name (i := 3) sc_blocks_at.nd rfl (Or.inl rfl)) (fun _ _ _ _ _ => pts_one (pt_cmpR op_lt (pe_op op_shr (pv 1) (pv 3)) (pe_op op_shr (pv 0) (pv 3)) (nomark _))) (fun _ _ _ _ _ => (pe_tup (pa_cons (pv 3) (pa_cons (pe_op op_shr (pv 1) (pv 3)) pa_nil)))))))), ?_⟩
    have hd : dig n ≤ 11 := dig_small (by omega)
    refine ⟨_, rfl, n, rfl, _, rfl, fun pr hpr => ?_⟩
    have s0 := same_upd (o := .rng 0 (dig n : Int)) hpr
    refine ⟨_, rfl, pr, 0, _, rfl, upd_same, ⟨by decide, by decide, by omega, by omega⟩, fun Dl hD => ?_⟩
    rw [show ((dig n : Int) - 0).toNat = dig n by omega]
    refine lc_range (fun k H' => Same H H' ∧ PL H' Dl (blkU n i k)) ⟨s0.trans (same_upd hD), [], upd_same, .nil⟩ ?_ ?_
    · rintro k H' hk ⟨sm, ts, hl, hts⟩
      have hlen : ts.length ≤ 12 := by
        have e1 := Paired.length hts
        unfold blkU at e1
        rw [List.length_map, List.length_range] at e1
        have : blocks n i ≤ 12 := blocks_le (by omega)
        omega
      have hsh : ∀ x : Nat, (x : Int) / 2 ^ ((0 : Int) + (k : Int)).toNat = ((x / 2 ^ k : Nat) : Int) := fun x => by
        rw [show ((0 : Int) + (k : Int)).toNat = k by omega]
        simp
      refine ⟨rfl, ?_⟩
      refine ⟨_, rfl, _, rfl, _, _, rfl, rfl, by omega, _, rfl, _, rfl, _, _, rfl, rfl, by omega, _, _, rfl, rfl, ?_⟩
      rw [hsh, hsh]
      by_cases c : k < blocks n i
      · have c2 : ((i / 2 ^ k : Nat) : Int) < ((n / 2 ^ k : Nat) : Int) := by
          have := (Nat.le_div_iff_mul_le (Nat.two_pow_pos k)).mpr (blocks_iff.mp c)
          omega
        refine ⟨_, rfl, iteT' (decide_eq_true c2) ?_⟩
        refine ⟨_, rfl, _, rfl, _, rfl, _, _, rfl, rfl, by omega, sl40 (by show 2 ≤ 1000000; decide), fun t ht => ?_⟩
        dsimp only
        rw [hsh]
        have hl2 : (upd H' t (.tup [.int ((0 : Int) + (k : Int)), .int ((i / 2 ^ k : Nat) : Int)])) Dl = some (.lst (ts.map V.ref)) := same_upd ht _ _ hl
        refine ⟨_, hl2, ?_, ?_, ?_⟩
        · rw [List.length_map]
          exact Nat.lt_of_lt_of_le (show ts.length < 1000000 by omega) (by decide)
        · exact upd_keep (sm.trans (same_upd ht)) (Same.free s0 hD)
        · rw [blkU_pos c, show (0 : Int) + (k : Int) = (k : Int) by omega]
          exact PL.snoc hl hts ht
      · have c2 : ¬ ((i / 2 ^ k : Nat) : Int) < ((n / 2 ^ k : Nat) : Int) := fun z => c (blocks_iff.mpr ((Nat.le_div_iff_mul_le (Nat.two_pow_pos k)).mp (by omega)))
        refine ⟨_, rfl, iteF' (decide_eq_false c2) ?_⟩
        rw [blkU_neg c]
        exact ⟨sm, ts, hl, hts⟩
    · rintro H' ⟨sm, hl⟩
      rw [blkU_all] at hl
      exact q _ _ sm (Same.free s0 hD) hl
theorem ok_check_place (D : Dfn K mg "check_place" s_check_place ["thing", "count"]) (X_NoPlace : ExT K mg "NoPlace" cP) (C_is_whole : COk P w K mg base CX0 "is_whole" 1 ["thing"] spIsWhole) : COk P w K mg base (L2.CX P w) "check_place" 2 ["thing", "count"] (spCheckPlace cP) := by
  refine c_mkX D sc_check_place (fun vs H Q E h => ?_) (fun f cdv A outer s H vs Q E hr h => ?_)
  · obtain ⟨v, n, rfl, _⟩ := h
    rfl
  · obtain ⟨v, n, rfl, hv, q1, q2⟩ := h
    refine ⟨_, (pss_one (ps_if ((pw_or (pt_not (pt_val (pe_c C_is_whole hr (by rfl) (pa_cons (pv 0) pa_nil)))) (pw_or1 (pt_not (pt_chain op_le op_lt pe_int (pv 0) (pv 1)))))).pt (pss_one (ps_own X_NoPlace rfl (takes_of rfl rfl rfl rfl) (by rfl))) pss_nil)), ?_⟩
    refine ⟨_, rfl, v, rfl, hv, wholeV v, rfl, ?_⟩
    cases hv with
    | int i =>
      refine iteF ?_
      refine ⟨_, rfl, 0, i, rfl, rfl, _, rfl, ite2 (fun e => ?_) (fun e => ?_)⟩
      · have h0 := of_decide_eq_true e
        refine ⟨_, rfl, i, _, rfl, rfl, _, rfl, ?_⟩
        by_cases h1 : i < (n : Int)
        · refine iteF' (by rw [decide_eq_true h1]; rfl) (q1 i.toNat (if_pos ⟨h0, h1⟩))
        · refine iteT' (by rw [decide_eq_false h1]; rfl) (q2 (if_neg fun z => h1 z.2))
      · have h0 : ¬ 0 ≤ i := fun z => e (decide_eq_true z)
        exact ⟨_, rfl, iteT (q2 (if_neg fun z => h0 z.1))⟩
    | bl b => exact iteT (q2 rfl)
    | str x hx => exact iteT (q2 rfl)
    | non => exact iteT (q2 rfl)
    | tup ht => exact iteT (q2 rfl)
end

/-! ### the program's side: books -/
abbrev ky (h j : Int) : List Key := [.inl h, .inl j]
theorem ky_iff {h j g k : Int} : ky h j = ky g k ↔ h = g ∧ j = k := by simp [ky]
structure TBo (K : PySem.W.Frag) (mg : Str → Option Value) (CB : Addr) : Prop where
  cl : Cls K CB
  nL : NoAttr K CB "ledger"
  nR : NoAttr K CB "_rows"
  nS : NoAttr K CB "_sums"
  g : mg "Book" = some (.ref CB)
theorem TBo.bk {K : PySem.W.Frag} {mg : Str → Option Value} {CB : Addr} (T : TBo K mg CB) : TBk K mg CB := ⟨T.cl, T.g⟩
def ObjB (CB : Addr) (H : Hp) (b p rl sd : Addr) : Prop := ∃ dx fs, H b = some (.ins CB dx fs) ∧ fs.lookup ("ledger" : Str) = some (V.ref p) ∧ fs.lookup ("_rows" : Str) = some (V.ref rl) ∧ fs.lookup ("_sums" : Str) = some (V.ref sd) ∧ ∀ m : Str, m ≠ "ledger" → m ≠ "_rows" → m ≠ "_sums" → fs.lookup m = none
structure Mid (CB : Addr) (H : Hp) (b p rl sd : Addr) (rows : List Str) (kvs : List (List Key × V)) : Prop where
  ob : ObjB CB H b p rl sd
  rl : H rl = some (.lst (rows.map V.str))
  sd : H sd = some (.dT kvs)
section
variable {CB : Addr} {H H' : Hp} {b p rl sd : Addr} {rows : List Str} {kvs : List (List Key × V)}
theorem Mid.keep (m : Mid CB H b p rl sd rows kvs) (k : ∀ a, a = b ∨ a = rl ∨ a = sd → ∀ o, H a = some o → H' a = some o) : Mid CB H' b p rl sd rows kvs := by
  obtain ⟨⟨dx, fs, h1, h2⟩, h3, h4⟩ := m
  exact ⟨⟨dx, fs, k _ (.inl rfl) _ h1, h2⟩, k _ (.inr (.inl rfl)) _ h3, k _ (.inr (.inr rfl)) _ h4⟩
theorem Mid.same (m : Mid CB H b p rl sd rows kvs) (s : Same H H') : Mid CB H' b p rl sd rows kvs := m.keep fun a _ o e => s a o e
theorem Mid.br (m : Mid CB H b p rl sd rows kvs) : b ≠ rl := by
  obtain ⟨⟨dx, fs, h1, h2⟩, h3, h4⟩ := m
  exact ne_of h1 h3 (by intro z; cases z)
theorem Mid.bs (m : Mid CB H b p rl sd rows kvs) : b ≠ sd := by
  obtain ⟨⟨dx, fs, h1, h2⟩, h3, h4⟩ := m
  exact ne_of h1 h4 (by intro z; cases z)
theorem Mid.rs (m : Mid CB H b p rl sd rows kvs) : rl ≠ sd := ne_of m.rl m.sd (by intro z; cases z)
end
/-- the dict's keys are the blocks of D, its values their sums -/
def Dic (kvs : List (List Key × V)) (D : Nat → Nat → Prop) (v : Lev) : Prop := (∀ h j : Nat, D h j → valV kvs (ky (h : Int) (j : Int)) = some (.int ((v h j : Nat) : Int))) ∧ ∀ h j : Int, (∀ g k : Nat, h = (g : Int) → j = (k : Int) → ¬ D g k) → valV kvs (ky h j) = none
theorem Dic.imp {kvs : List (List Key × V)} {D D' : Nat → Nat → Prop} {v : Lev} (d : Dic kvs D v) (e : ∀ h j, D h j ↔ D' h j) : Dic kvs D' v :=
  ⟨fun h j z => d.1 h j ((e h j).mpr z), fun h j z => d.2 h j fun g k e1 e2 y => z g k e1 e2 ((e g k).mp y)⟩
theorem Dic.put {kvs : List (List Key × V)} {D : Nat → Nat → Prop} {v : Lev} (d : Dic kvs D v) (h j m : Nat) : Dic (putK kvs (ky (h : Int) (j : Int)) (.int (m : Int))) (fun g k => D g k ∨ (g = h ∧ k = j)) (put2 v h j m) := by
  refine ⟨fun g k z => ?_, fun g k z => ?_⟩
  · rw [valV_put]
    by_cases c : g = h ∧ k = j
    · obtain ⟨rfl, rfl⟩ := c
      rw [if_pos rfl, put2_at]
    · rw [if_neg (fun e => c (by have := ky_iff.mp e; omega)), put2_ne c]
      exact d.1 g k (z.resolve_right c)
  · rw [valV_put, if_neg (fun e => by
      obtain ⟨e1, e2⟩ := ky_iff.mp e
      exact z h j e1 e2 (.inr ⟨rfl, rfl⟩))]
    exact d.2 g k fun a b e1 e2 y => z a b e1 e2 (.inl y)
theorem Dic.drop {kvs : List (List Key × V)} {D : Nat → Nat → Prop} {v : Lev} (d : Dic kvs D v) (h j : Nat) : Dic (dropK kvs (ky (h : Int) (j : Int))) (fun g k => D g k ∧ ¬ (g = h ∧ k = j)) v := by
  refine ⟨fun g k z => ?_, fun g k z => ?_⟩
  · rw [valV_drop, if_neg (fun e => z.2 (by have := ky_iff.mp e; omega))]
    exact d.1 g k z.1
  · rw [valV_drop]
    by_cases c : ky g k = ky (h : Int) (j : Int)
    · rw [if_pos c]
    · rw [if_neg c]
      refine d.2 g k fun a b e1 e2 y => z a b e1 e2 ⟨y, fun e => c ?_⟩
      rw [e1, e2, e.1, e.2]
theorem Dic.nil : Dic [] (fun h j => (j + 1) * 2 ^ h ≤ 0) v0 := ⟨fun h j z => by
  have h1 := Nat.two_pow_pos h
  have h2 := Nat.mul_le_mul_right (2 ^ h) (show 1 ≤ j + 1 by omega)
  omega, fun _ _ _ => rfl⟩
theorem Dic.isSome {kvs : List (List Key × V)} {D : Nat → Nat → Prop} {v : Lev} (d : Dic kvs D v) {h j : Nat} (z : D h j) : (valV kvs (ky (h : Int) (j : Int))).isSome = true := by
  rw [d.1 h j z]
  rfl
def spCnt (CB : Addr) : Sp := fun vs H Q _ => ∃ (b p rl sd : Addr) (rows : List Str) (kvs : List (List Key × V)), vs = [.ref b] ∧ Mid CB H b p rl sd rows kvs ∧ Q (.int (rows.length : Nat)) H
def spSumG (CB cB : Addr) : Sp := fun vs H Q E => ∃ (b p rl sd : Addr) (rows : List Str) (kvs : List (List Key × V)) (y z : V), vs = [.ref b, y, z] ∧ Mid CB H b p rl sd rows kvs ∧ AnyV H y ∧ AnyV H z ∧
  (∀ (h j : Int) (u : V), y = .int h → z = .int j → valV kvs (ky h j) = some u → ∀ H', Same H H' → Q u H') ∧ ((∀ h j : Int, y = .int h → z = .int j → valV kvs (ky h j) = none) → ∀ H', Same H H' → E (.ref cB) none H')
def spAskedB (CB : Addr) (w : World) (C : Addr) : Sp := fun vs H Q _ => ∃ (b p d l rl sd : Addr) (L : List Th) (rows : List Str) (kvs : List (List Key × V)) (h j : Nat), vs = [.ref b, .int (h : Int), .int (j : Int)] ∧ Mid CB H b p rl sd rows kvs ∧ LedAt w C H p d l L ∧ L.length < 1000000 ∧
  ((h = 0 ∧ ∃ x, rows[j]? = some x ∧ okS 40 x ∧ ∀ H', Keep H H' d l → LedAt w C H' p d l (give L (.row x)) → Q (.int ((numOf L (.row x) : Nat) : Int)) H') ∨
    ∃ g m k : Nat, h = g + 1 ∧ valV kvs (ky (g : Int) ((2 * j : Nat) : Int)) = some (.int (m : Int)) ∧ valV kvs (ky (g : Int) ((2 * j + 1 : Nat) : Int)) = some (.int (k : Int)) ∧ m < L.length ∧ k < L.length ∧
      ∀ H', Keep H H' d l → LedAt w C H' p d l (give L (.pair m k)) → Q (.int ((numOf L (.pair m k) : Nat) : Int)) H')
theorem gave_in {L : List Th} {m : Nat} (h : m < L.length) : gaveV L (.int (m : Int)) = some m := by
  show (if _ then _ else _) = _
  rw [if_pos ⟨by omega, by omega⟩, Int.toNat_natCast]
theorem MOk.mono {P : Program} {w : World} {K : PySem.W.Frag} {mg : Str → Option Value} {base : Heap} {CX : CXT} {C : Addr} {m : Str} {j k : Nat} {ps : List Str} {sp : Sp} (M : MOk P w K mg base CX C m j ps sp) (h : j ≤ k) : MOk P w K mg base CX C m k ps sp := by
  obtain ⟨f, fd, F, a, b⟩ := M.ex
  exact ⟨f, fd, F.mono h, a, b⟩
theorem MOk.imp {P : Program} {w : World} {K : PySem.W.Frag} {mg : Str → Option Value} {base : Heap} {CX : CXT} {C : Addr} {m : Str} {k : Nat} {ps : List Str} {sp sp' : Sp} (M : MOk P w K mg base CX C m k ps sp) (h : ∀ vs H Q E, sp' vs H Q E → sp vs H Q E) : MOk P w K mg base CX C m k ps sp' := by
  obtain ⟨f, fd, F, a, b⟩ := M.ex
  exact ⟨f, fd, F.imp h, a, b⟩
section
variable {P : Program} {w : World} {K : PySem.W.Frag} {mg : Str → Option Value} {base : Heap} {C CB cR cP cB cS cF : Addr}
theorem ok_cnt (D : Mth K CB "count" "Book.count" s_Book_count ["self"]) (T_Book : TBo K mg CB) (B : Bi mg) : MOk P w K mg base CX0 CB "count" 1 ["self"] (spCnt CB) := by
  refine m_mk D sc_Book_count (fun vs H Q E h => ?_) (fun f cdv A outer s H vs Q E hr h => ?_)
  · obtain ⟨b, p, rl, sd, rows, kvs, rfl, _⟩ := h
    rfl
  · obtain ⟨b, p, rl, sd, rows, kvs, rfl, m, q⟩ := h
    refine ⟨_, (pss_one (ps_ret (pe_callB (id := "len") call_len_seq (by rfl) B.len (by decide +kernel) (pa_cons (pe_fld (pv 0) rfl) pa_nil)))), ?_⟩
    obtain ⟨dx, fs, hb, hfL, hfR, hfS, hno⟩ := m.ob
    refine ⟨_, rfl, b, CB, dx, fs, _, rfl, hb, T_Book.cl, T_Book.nR, hfR, rl, _, rfl, .inl (SqL.of m.rl), ?_⟩
    rw [List.length_map]
    exact q
theorem ok_sumG (D : Mth K CB "sum_of" "Book.sum_of" s_Book_sum_of ["self", "height", "number"]) (T_Book : TBo K mg CB) (X_NoBlock : ExT K mg "NoBlock" cB) (C_is_whole : COk P w K mg base CX0 "is_whole" 1 ["thing"] spIsWhole) :
    MOk P w K mg base (L2.CX P w) CB "sum_of" 2 ["self", "height", "number"] (spSumG CB cB) := by
  refine m_mkX D sc_Book_sum_of (fun vs H Q E h => ?_) (fun f cdv A outer s H vs Q E hr h => ?_)
  · obtain ⟨b, p, rl, sd, rows, kvs, y, z, rfl, _⟩ := h
    rfl
  · obtain ⟨b, p, rl, sd, rows, kvs, y, z, rfl, m, hy, hz, q1, q2⟩ := h
    refine ⟨_, (pss_cons (ps_if ((pw_or (pt_not (pt_val (pe_c C_is_whole hr (by rfl) (pa_cons (pv 1) pa_nil)))) (pw_or (pt_not (pt_val (pe_c C_is_whole hr (by rfl) (pa_cons (pv 2) pa_nil)))) (pw_or1 (pt_cmp (pc_dnotin (hu_of hr) (pe_tup (pa_cons (pv 1) (pa_cons (pv 2) pa_nil))) (pe_fld (pv 0) rfl))))))).pt (pss_one (ps_own X_NoBlock rfl (takes_of rfl rfl rfl rfl) (by rfl))) pss_nil)
      (pss_one (ps_ret (pe_dget (hu_of hr) (pe_fld (pv 0) rfl) (pe_tup (pa_cons (pv 1) (pa_cons (pv 2) pa_nil))) (fun _ _ => rfl))))), ?_⟩
    refine ⟨_, rfl, y, rfl, hy, wholeV y, rfl, ?_⟩
    cases hy with
    | int h =>
      refine iteF ?_
      refine ⟨_, rfl, z, rfl, hz, wholeV z, rfl, ?_⟩
      cases hz with
      | int j =>
        refine iteF ?_
        refine ⟨_, rfl, _, rfl, sl40 (by show 2 ≤ 1000000; decide), fun t ht => ?_⟩
        have s1 := same_upd (o := .tup [.int h, .int j]) ht
        have m1 := m.same s1
        obtain ⟨dx, fs, hb, hfL, hfR, hfS, hno⟩ := m1.ob
        refine ⟨_, rfl, b, CB, dx, fs, _, rfl, hb, T_Book.cl, T_Book.nS, hfS, sd, _, rfl, DGet.t (k := ky h j) m1.sd upd_same, _, rfl, ?_⟩
        cases hv : valV kvs (ky h j) with
        | none =>
          refine iteT (q2 (fun g k e1 e2 => ?_) _ s1)
          cases e1
          cases e2
          exact hv
        | some u =>
          refine iteF ?_
          refine ⟨_, rfl, b, CB, dx, fs, _, rfl, hb, T_Book.cl, T_Book.nS, hfS, _, rfl, _, rfl, sl40 (by show 2 ≤ 1000000; decide), fun t2 ht2 => ?_⟩
          have s2 := same_upd (o := .tup [.int h, .int j]) ht2
          refine ⟨sd, u, rfl, ?_, q1 h j u rfl rfl hv _ (s1.trans s2)⟩
          rw [← hv]
          exact DGet.t (k := ky h j) (m1.same s2).sd upd_same
      | bl b => exact iteT (q2 (fun _ _ _ e => nomatch e) _ fun _ _ e => e)
      | str x hx => exact iteT (q2 (fun _ _ _ e => nomatch e) _ fun _ _ e => e)
      | non => exact iteT (q2 (fun _ _ _ e => nomatch e) _ fun _ _ e => e)
      | tup ht => exact iteT (q2 (fun _ _ _ e => nomatch e) _ fun _ _ e => e)
    | bl b => exact iteT (q2 (fun _ _ e => nomatch e) _ fun _ _ e => e)
    | str x hx => exact iteT (q2 (fun _ _ e => nomatch e) _ fun _ _ e => e)
    | non => exact iteT (q2 (fun _ _ e => nomatch e) _ fun _ _ e => e)
    | tup ht => exact iteT (q2 (fun _ _ e => nomatch e) _ fun _ _ e => e)
theorem ok_askedB (D : Mth K CB "_asked" "Book._asked" s_Book__asked ["self", "height", "number"]) (T_Book : TBo K mg CB) (T_Ledger : TLed K mg C) (M_Book_sum_of : MOk P w K mg base (L2.CX P w) CB "sum_of" 2 ["self", "height", "number"] (spSumG CB cB))
    (M_Ledger_of_row : MOk P w K mg base (L2.CX P w) C "of_row" 3 ["self", "row"] (spOfRow w C cR)) (M_Ledger_of_pair : MOk P w K mg base (L2.CX P w) C "of_pair" 3 ["self", "one", "other"] (spOfPair w C cS)) :
    MOk P w K mg base CX0 CB "_asked" 4 ["self", "height", "number"] (spAskedB CB w C) := by
  obtain ⟨f_Book_sum_of, d_Book_sum_of, G_Book_sum_of, m_Book_sum_of, b_Book_sum_of⟩ := M_Book_sum_of.ex
  obtain ⟨f_Ledger_of_pair, d_Ledger_of_pair, G_Ledger_of_pair, m_Ledger_of_pair, b_Ledger_of_pair⟩ := M_Ledger_of_pair.ex
  obtain ⟨f_Ledger_of_row, d_Ledger_of_row, G_Ledger_of_row, m_Ledger_of_row, b_Ledger_of_row⟩ := M_Ledger_of_row.ex
  refine m_mk D sc_Book__asked (fun vs H Q E h => ?_) (fun f cdv A outer s H vs Q E hr h => ?_)
  · obtain ⟨b, p, d, l, rl, sd, L, rows, kvs, h, j, rfl, _⟩ := h
    rfl
  · obtain ⟨b, p, d, l, rl, sd, L, rows, kvs, h, j, rfl, m, hL, hlen, q⟩ := h
    refine ⟨_, (pss_cons (ps_if (pt_cmpR op_eq (pv 1) pe_int (nomark _)) (pss_one (ps_ret (pe_meth (pe_fld (pv 0) rfl) T_Ledger.cl m_Ledger_of_row G_Ledger_of_row (hr.mono (by decide)) b_Ledger_of_row .nil passL (pa_cons (pe_ix ix_list (pe_fld (pv 0) rfl) (pv 2) (fun _ _ => rfl)) pa_nil)))) pss_nil)
      (pss_cons (ps_set (i := 3) sc_Book__asked.nd rfl (.inl rfl) (pe_meth (pv 0) T_Book.cl m_Book_sum_of G_Book_sum_of (hr.mono (by decide)) b_Book_sum_of .nil passL (pa_cons (pe_op op_sub (pv 1) pe_int) (pa_cons (pe_op op_mul pe_int (pv 2)) pa_nil))))
      (pss_cons (ps_set (i := 4) sc_Book__asked.nd rfl (.inl rfl) (pe_meth (pv 0) T_Book.cl m_Book_sum_of G_Book_sum_of (hr.mono (by decide)) b_Book_sum_of .nil passL (pa_cons (pe_op op_sub (pv 1) pe_int) (pa_cons (pe_op op_add (pe_op op_mul pe_int (pv 2)) pe_int) pa_nil))))
      (pss_one (ps_ret (pe_meth (pe_fld (pv 0) rfl) T_Ledger.cl m_Ledger_of_pair G_Ledger_of_pair (hr.mono (by decide)) b_Ledger_of_pair .nil passL (pa_cons (pv 3) (pa_cons (pv 4) pa_nil)))))))), ?_⟩
    obtain ⟨dx, fs, hb, hfL, hfR, hfS, hno⟩ := m.ob
    rcases q with ⟨rfl, x, hx, ox, q⟩ | ⟨g, mm, k, rfl, hm, hk, lm, lk, q⟩
    · refine ⟨_, rfl, rfl, _, rfl, iteT ?_⟩
      obtain ⟨dx2, fs2, hp, hpS, hpT, hpno⟩ := hL.ob
      refine ⟨_, rfl, b, CB, dx, fs, _, rfl, hb, T_Book.cl, T_Book.nL, hfL, p, dx2, fs2, rfl, hp, hpno _ (by decide +kernel) (by decide +kernel), ?_⟩
      refine ⟨_, rfl, b, CB, dx, fs, _, rfl, hb, T_Book.cl, T_Book.nR, hfR, _, rfl, rl, _, (j : Int), .str x, rfl, rfl, SqL.of m.rl, atI_nat ?_, ?_⟩
      · rw [List.getElem?_map, hx]
        rfl
      refine ⟨p, d, l, L, .str x, rfl, hL, .str x (sl40 (by have := ox.1; omega)), hlen, fun x' e _ H' k' l' => ?_, fun z => ?_⟩
      · cases e
        exact q H' k' l'
      · have : rowStr x = false := z
        rw [okS_row ox] at this
        cases this
    · refine ⟨_, rfl, rfl, _, rfl, iteF' (decide_eq_false ?_) ?_⟩
      · intro e
        injection e with e
        omega
      have e1 : ((g + 1 : Nat) : Int) - 1 = (g : Int) := by omega
      have e2 : (2 : Int) * (j : Int) = ((2 * j : Nat) : Int) := by omega
      have e3 : (2 : Int) * (j : Int) + 1 = ((2 * j + 1 : Nat) : Int) := by omega
      refine ⟨_, rfl, b, dx, fs, rfl, hb, hno _ (by decide +kernel) (by decide +kernel) (by decide +kernel), _, rfl, _, _, rfl, rfl, _, rfl, _, _, rfl, rfl, .inl ⟨by decide, by decide⟩, ?_⟩
      refine ⟨b, p, rl, sd, rows, kvs, .int (g : Int), .int ((2 * j : Nat) : Int), ?_, m, .int _, .int _, fun h' j' u f1 f2 f3 H1 s1 => ?_, fun z => ?_⟩
      · show [V.ref b, .int (((g + 1 : Nat) : Int) - 1), .int (2 * (j : Int))] = _
        rw [e1, e2]
      rotate_left
      · rw [z _ _ rfl rfl] at hm
        cases hm
      cases f1
      cases f2
      rw [hm] at f3
      cases f3
      have m1 := m.same s1
      obtain ⟨dx, fs, hb, hfL, hfR, hfS, hno⟩ := m1.ob
      refine ⟨_, rfl, b, dx, fs, rfl, hb, hno _ (by decide +kernel) (by decide +kernel) (by decide +kernel), _, rfl, _, _, rfl, rfl, _, rfl, _, _, rfl, rfl, .inl ⟨by decide, by decide⟩, _, _, rfl, rfl, ?_⟩
      refine ⟨b, p, rl, sd, rows, kvs, .int (g : Int), .int ((2 * j + 1 : Nat) : Int), ?_, m1, .int _, .int _, fun h' j' u f1 f2 f3 H2 s2 => ?_, fun z => ?_⟩
      · show [V.ref b, .int (((g + 1 : Nat) : Int) - 1), .int (2 * (j : Int) + 1)] = _
        rw [e1, e3]
      rotate_left
      · rw [z _ _ rfl rfl] at hk
        cases hk
      cases f1
      cases f2
      rw [hk] at f3
      cases f3
      have m2 := m1.same s2
      have hL2 := (hL.same s1).same s2
      obtain ⟨dx, fs, hb, hfL, hfR, hfS, hno⟩ := m2.ob
      obtain ⟨dx2, fs2, hp, hpS, hpT, hpno⟩ := hL2.ob
      refine ⟨_, rfl, b, CB, dx, fs, _, rfl, hb, T_Book.cl, T_Book.nL, hfL, p, dx2, fs2, rfl, hp, hpno _ (by decide +kernel) (by decide +kernel), _, rfl, _, rfl, ?_⟩
      refine ⟨p, d, l, L, .int (mm : Int), .int (k : Int), rfl, hL2, .int _, .int _, hlen, fun i' j' g1 g2 H3 k3 l3 => ?_, fun z => ?_⟩
      · rw [gave_in lm] at g1
        rw [gave_in lk] at g2
        cases g1
        cases g2
        exact q H3 (fun a o e h1 h2 => k3 a o (s2 _ _ (s1 _ _ e)) h1 h2) l3
      · rw [gave_in lm, gave_in lk] at z
        rcases z with z | z <;> cases z
end

/-! ### the program's side: sums asked for, from below -/
/-- what the climb needs to know -/
structure Step (n i : Nat) (n0 : Nat) : Prop where
  lt : i < n
  few : n ≤ 1024
  or_ : n0 = n ∨ (n0 + 1 = n ∧ i = n0)
def domK (n0 i k : Nat) : Nat → Nat → Prop := fun h j => (j + 1) * 2 ^ h ≤ n0 ∨ (h < k ∧ j = i / 2 ^ h)
theorem domK_zero {n0 i h j : Nat} : (j + 1) * 2 ^ h ≤ n0 ↔ domK n0 i 0 h j := ⟨.inl, fun z => z.elim id fun y => absurd y.1 (Nat.not_lt_zero _)⟩
theorem domK_succ {n0 i k h j : Nat} : domK n0 i k h j ∨ (h = k ∧ j = i / 2 ^ k) ↔ domK n0 i (k + 1) h j := by
  unfold domK
  constructor
  · rintro ((z | ⟨z1, z2⟩) | ⟨z1, z2⟩)
    · exact .inl z
    · exact .inr ⟨by omega, z2⟩
    · subst z1
      exact .inr ⟨by omega, z2⟩
  · rintro (z | ⟨z1, z2⟩)
    · exact .inl (.inl z)
    · by_cases e : h = k
      · subst e
        exact .inr ⟨rfl, z2⟩
      · exact .inl (.inr ⟨by omega, z2⟩)
theorem domK_all {n i n0 : Nat} (s : Step n i n0) {h j : Nat} : domK n0 i (blocks n i) h j ↔ (j + 1) * 2 ^ h ≤ n := by
  unfold domK
  rcases s.or_ with rfl | ⟨rfl, rfl⟩
  · refine ⟨?_, .inl⟩
    rintro (z | ⟨z1, z2⟩)
    · exact z
    · rw [z2]
      exact blocks_iff.mp z1
  · exact dom_succ.symm
/-- the two halves of a block that is climbed to are there -/
theorem halves {n i n0 k : Nat} (s : Step n i n0) (h : k + 1 < blocks n i) : domK n0 i (k + 1) k (2 * (i / 2 ^ (k + 1))) ∧ domK n0 i (k + 1) k (2 * (i / 2 ^ (k + 1)) + 1) := by
  have c := blocks_iff.mp h
  have e : i / 2 ^ (k + 1) = i / 2 ^ k / 2 := by rw [Nat.div_div_eq_div_mul, Nat.pow_succ]
  have hp := Nat.two_pow_pos k
  have e2 : 2 ^ (k + 1) = 2 * 2 ^ k := by rw [Nat.pow_succ, Nat.mul_comm]
  have hd : 2 * (i / 2 ^ (k + 1)) = i / 2 ^ k ∨ 2 * (i / 2 ^ (k + 1)) + 1 = i / 2 ^ k := by rw [e]; omega
  have hm := Nat.div_mul_le_self i (2 ^ k)
  rcases hd with z | z
  · refine ⟨.inr ⟨by omega, z⟩, ?_⟩
    rcases s.or_ with hn | ⟨hn, hi⟩
    · left
      rw [hn]
      refine Nat.le_trans (Nat.le_of_eq ?_) c
      generalize i / 2 ^ (k + 1) = x
      rw [e2, ← Nat.mul_assoc]
      congr 1
      omega
    · exfalso
      have c1 : (i / 2 ^ (k + 1) + 1) * 2 ^ (k + 1) = (i / 2 ^ k + 2) * 2 ^ k := by
        rw [← z]
        generalize i / 2 ^ (k + 1) = x
        rw [e2, ← Nat.mul_assoc]
        congr 1
        omega
      rw [c1, Nat.add_mul] at c
      have h1 := Nat.div_add_mod i (2 ^ k)
      have h2 := Nat.mod_lt i hp
      rw [Nat.mul_comm] at h1
      omega
  · refine ⟨.inl ?_, .inr ⟨by omega, z⟩⟩
    have : (2 * (i / 2 ^ (k + 1)) + 1) * 2 ^ k ≤ i := by
      rw [z]
      exact hm
    rcases s.or_ with hn | ⟨hn, hi⟩
    · exact Nat.le_trans this (by rw [hn]; exact Nat.le_of_lt s.lt)
    · exact Nat.le_trans this (Nat.le_of_eq hi)
/-- what is left of the climb at the k-th block -/
def Climb (n i : Nat) (t : Str) (L0 : List Th) (v0 : Lev) (k : Nat) (L : List Th) (v : Lev) : Prop := (k = 0 ∧ L = L0 ∧ v = v0) ∨ (0 < k ∧ settle n i t L0 v0 = up n (dig n + 1 - k) (k - 1) (i / 2 ^ k) L v)
theorem climb_first {n i : Nat} {t : Str} {L : List Th} {v : Lev} : Climb n i t L v 1 (give L (.row t)) (put2 v 0 i (numOf L (.row t))) := .inr ⟨by decide, by
  show up n (dig n) 0 (i / 2) _ _ = up n (dig n + 1 - 1) (1 - 1) (i / 2 ^ 1) _ _
  rw [Nat.add_sub_cancel, Nat.pow_one]⟩
theorem climb_next {n i k : Nat} {t : Str} {L0 L : List Th} {v0 v : Lev} (c : Climb n i t L0 v0 (k + 1) L v) (h : k + 1 < blocks n i) :
    Climb n i t L0 v0 (k + 1 + 1) (give L (.pair (v k (2 * (i / 2 ^ (k + 1))) : Nat) (v k (2 * (i / 2 ^ (k + 1)) + 1) : Nat))) (put2 v (k + 1) (i / 2 ^ (k + 1)) (numOf L (.pair (v k (2 * (i / 2 ^ (k + 1))) : Nat) (v k (2 * (i / 2 ^ (k + 1)) + 1) : Nat)))) := by
  rcases c with ⟨z, _⟩ | ⟨_, c⟩
  · omega
  · right
    refine ⟨by omega, c.trans ?_⟩
    have hd : k + 1 < dig n := in_dig (blocks_iff.mp h)
    have e : dig n + 1 - (k + 1) = (dig n + 1 - (k + 1 + 1)) + 1 := by omega
    have e3 : i / 2 ^ (k + 1) / 2 = i / 2 ^ (k + 1 + 1) := by rw [Nat.div_div_eq_div_mul, ← Nat.pow_succ]
    rw [e]
    show up n _ k (i / 2 ^ (k + 1)) L v = _
    rw [up, if_pos (blocks_iff.mp h), e3]
    rfl
theorem climb_end {n i : Nat} {t : Str} {L0 L : List Th} {v0 v : Lev} (hi : i < n) (c : Climb n i t L0 v0 (blocks n i) L v) : settle n i t L0 v0 = (L, v) := by
  rcases c with ⟨z, _⟩ | ⟨h0, c⟩
  · have : 0 < blocks n i := blocks_iff.mpr (by rw [Nat.pow_zero, Nat.div_one]; omega)
    omega
  · rw [c]
    cases hk : dig n + 1 - blocks n i with
    | zero => rfl
    | succ f =>
      rw [up, if_neg]
      intro z
      rw [Nat.sub_add_cancel h0] at z
      have := blocks_iff.mpr z
      omega
def spSumUp (CB : Addr) (w : World) (C : Addr) : Sp := fun vs H Q _ => ∃ (b p d l rl sd : Addr) (L : List Th) (rows : List Str) (kvs : List (List Key × V)) (v : Lev) (n0 i : Nat) (t : Str), vs = [.ref b, .int (i : Int)] ∧ Mid CB H b p rl sd rows kvs ∧ LedAt w C H p d l L ∧ Step rows.length i n0 ∧ rows[i]? = some t ∧ okS 40 t ∧
  Dic kvs (fun h j => (j + 1) * 2 ^ h ≤ n0) v ∧ (∀ h j, (j + 1) * 2 ^ h ≤ n0 → v h j < L.length) ∧ kvs.length ≤ tot n0 ∧ (∀ a, a = b ∨ a = rl ∨ a = sd → a ≠ d ∧ a ≠ l) ∧ p ≠ sd ∧ L.length < 900100 ∧
  ∀ H' kvs', (∀ a o, H a = some o → a ≠ sd → a ≠ d → a ≠ l → H' a = some o) → LedAt w C H' p d l (settle rows.length i t L v).1 → H' sd = some (.dT kvs') → Dic kvs' (fun h j => (j + 1) * 2 ^ h ≤ rows.length) (settle rows.length i t L v).2 → kvs'.length ≤ tot rows.length →
    Q (.int (blocks rows.length i : Nat)) H'
theorem PL.get {H : Hp} {ts : List Addr} {ps : List (Nat × Nat)} (h : Paired (fun t (q : Nat × Nat) => H t = some (.tup [.int (q.1 : Int), .int (q.2 : Int)])) ts ps) {i : Nat} {v : V} (hv : (ts.map V.ref)[i]? = some v) :
    ∃ t q, v = .ref t ∧ ps[i]? = some q ∧ H t = some (.tup [.int (q.1 : Int), .int (q.2 : Int)]) := by
  induction h generalizing i with
  | nil => simp at hv
  | @cons a b l1 l2 e _ ih =>
    cases i with
    | zero =>
      have : V.ref a = v := Option.some.inj hv
      exact ⟨a, b, this.symm, rfl, e⟩
    | succ i => exact ih hv
theorem blkL_at {n i k : Nat} {q : Nat × Nat} (h : (blkL n i)[k]? = some q) : k < blocks n i ∧ q = (k, i / 2 ^ k) := by
  have hl := (List.getElem?_eq_some_iff.mp h).1
  rw [blkL_len] at hl
  refine ⟨hl, ?_⟩
  unfold blkL at h
  rw [List.getElem?_map, List.getElem?_range hl] at h
  exact (Option.some.inj h).symm
theorem give_lt (L : List Th) (t : Th) : numOf L t < (give L t).length := (List.getElem?_eq_some_iff.mp (give_at L t)).1
theorem pre_len {L L' : List Th} (p : L <+: L') : L.length ≤ L'.length := p.length_le
section
variable {P : Program} {w : World} {K : PySem.W.Frag} {mg : Str → Option Value} {base : Heap} {C CB cR cP cB cS cF : Addr}
theorem ok_sumUp (D : Mth K CB "_sum_up" "Book._sum_up" s_Book__sum_up ["self", "place"]) (T_Book : TBo K mg CB) (B : Bi mg) (M_Book_count : MOk P w K mg base CX0 CB "count" 1 ["self"] (spCnt CB)) (M_Book__asked : MOk P w K mg base CX0 CB "_asked" 4 ["self", "height", "number"] (spAskedB CB w C))
    (C_blocks_at : COk P w K mg base CX0 "blocks_at" 2 ["count", "place"] spBlocksAt) : MOk P w K mg base CX0 CB "_sum_up" 5 ["self", "place"] (spSumUp CB w C) := by
  obtain ⟨f_Book__asked, d_Book__asked, G_Book__asked, m_Book__asked, b_Book__asked⟩ := M_Book__asked.ex
  obtain ⟨f_Book_count, d_Book_count, G_Book_count, m_Book_count, b_Book_count⟩ := M_Book_count.ex
  refine m_mk D sc_Book__sum_up (fun vs H Q E h => ?_) (fun f cdv A outer s H vs Q E hr h => ?_)
  · obtain ⟨b, p, d, l, rl, sd, L, rows, kvs, v, n0, i, t, rfl, _⟩ := h
    rfl
  · obtain ⟨b, p, d, l, rl, sd, L, rows, kvs, v, n0, i, t, rfl, m, hL, st, ht, ot, dic, hv, hk, sep, hps, hlen, q⟩ := h
    refine ⟨_, (pss_cons (ps_set (i := 2) sc_Book__sum_up.nd rfl (.inl rfl) (pe_c C_blocks_at hr (by rfl) (pa_cons (pe_meth0 (pv 0) T_Book.cl m_Book_count G_Book_count (hr.mono (by decide)) b_Book_count .nil pass0) (pa_cons (pv 1) pa_nil))))
      (pss_cons (ps_for PassesOwn.never rfl (pi_list (pv 2)) (pg_tup rfl (pgs_cons (pg_name (i := 3) sc_Book__sum_up.nd rfl (.inl rfl)) (pgs_cons (pg_name (i := 4) sc_Book__sum_up.nd rfl (.inl rfl)) pgs_nil)))
      (pss_one (ps_dput (hu_of hr) (pe_fld (pv 0) rfl) (pe_tup (pa_cons (pv 3) (pa_cons (pv 4) pa_nil))) (pe_meth (pv 0) T_Book.cl m_Book__asked G_Book__asked (hr.mono (by decide)) b_Book__asked .nil pass0 (pa_cons (pv 3) (pa_cons (pv 4) pa_nil))) rfl)))
      (pss_one (ps_ret (pe_callB (id := "len") call_len_seq (by rfl) B.len (by decide +kernel) (pa_cons (pv 2) pa_nil)))))), ?_⟩
    obtain ⟨dx, fs, hb, hfL, hfR, hfS, hno⟩ := m.ob
    have hn := st.few
    refine ⟨_, rfl, b, dx, fs, rfl, hb, hno _ (by decide +kernel) (by decide +kernel) (by decide +kernel), b, p, rl, sd, rows, kvs, rfl, m, _, rfl, ?_⟩
    refine ⟨rows.length, i, rfl, by omega, fun H1 bp sm hbp hpl => ?_⟩
    obtain ⟨ts, h1, h2⟩ := hpl
    have lts : ts.length = blocks rows.length i := by rw [Paired.length h2, blkL_len]
    have hb12 : blocks rows.length i ≤ 12 := blocks_le (by omega)
    have ht0 : tot n0 ≤ 12 * n0 := tot_le (by rcases st.or_ with z | z <;> omega)
    have hn0 : n0 ≤ 1024 := by rcases st.or_ with z | z <;> omega
    refine ⟨_, rfl, bp, rfl, ⟨_, SqL.of h1⟩, ?_⟩
    refine for_list (xs := ts.map V.ref) (fun k σ H' => ∃ (L' : List Th) (v' : Lev) (kvs' : List (List Key × V)) (y3 y4 : Option V), (∀ a o, H1 a = some o → a ≠ sd → a ≠ d → a ≠ l → H' a = some o) ∧ LedAt w C H' p d l L' ∧ H' sd = some (.dT kvs') ∧ Climb rows.length i t L v k L' v' ∧
      Dic kvs' (domK n0 i k) v' ∧ (∀ h j, domK n0 i k h j → v' h j < L'.length) ∧ kvs'.length ≤ tot n0 + (if n0 = rows.length then 0 else k) ∧ L'.length ≤ L.length + k ∧
      σ = [some (.ref b), some (.int (i : Int)), some (.ref bp), y3, y4]) ⟨L, v, kvs, none, none, fun a o e _ _ _ => e, hL.same sm, sm _ _ m.sd, .inl ⟨rfl, rfl, rfl⟩, dic.imp fun h j => domK_zero, fun h j z => hv h j (domK_zero.mpr z), by split <;> omega, Nat.le_refl _, rfl⟩ ?_ ?_ ?_
    · rintro k σ H' _ ⟨L', v', kvs', y3, y4, kp, hL', hsd, _, _, _, _, _, rfl⟩
      refine SqL.of (kp _ _ h1 ?_ ?_ ?_)
      · exact (ne_of_none m.sd hbp).symm
      · obtain ⟨E, hd⟩ := hL.dict
        exact (ne_of_none hd hbp).symm
      · obtain ⟨vs, hl, _⟩ := hL.tl
        exact (ne_of_none hl hbp).symm
    · rintro k x σ H' hx ⟨L', v', kvs', y3, y4, kp, hL', hsd, hc, hdic, hv', hk', hl', rfl⟩
      obtain ⟨tt, qq, rfl, hq, htt⟩ := PL.get h2 hx
      obtain ⟨hkb, rfl⟩ := blkL_at hq
      obtain ⟨E0, hd0⟩ := hL.dict
      obtain ⟨vs0, hl0, _⟩ := hL.tl
      have tup1 : ∀ a xs, H1 a = some (.tup xs) → H' a = some (.tup xs) := fun a xs e => kp a _ e (ne_of e (sm _ _ m.sd) (by intro z; cases z)) (ne_of e (sm _ _ hd0) (by intro z; cases z)) (ne_of e (sm _ _ hl0) (by intro z; cases z))
      have m1 := m.same sm
      have m' : Mid CB H' b p rl sd rows kvs' := by
        obtain ⟨dx, fs, hb, hx⟩ := m1.ob
        exact ⟨⟨dx, fs, kp _ _ hb m.bs (sep _ (.inl rfl)).1 (sep _ (.inl rfl)).2, hx⟩, kp _ _ m1.rl m.rs (sep _ (.inr (.inl rfl))).1 (sep _ (.inr (.inl rfl))).2, hsd⟩
      refine ⟨tt, _, rfl, SqT.of (tup1 _ _ htt), rfl, _, _, rfl, _, _, rfl, rfl, ?_⟩
      obtain ⟨dx, fs, hb', hfL, hfR, hfS, hno⟩ := m'.ob
      -- what is asked for, and what follows
      have key : ∀ (th : Th) (H2 : Hp), Keep H' H2 d l → LedAt w C H2 p d l (give L' th) → Climb rows.length i t L v (k + 1) (give L' th) (put2 v' k (i / 2 ^ k) (numOf L' th)) →
          ∀ u, H2 u = none → ∃ a H4, V.ref sd = V.ref a ∧ DPut (upd H2 u (.tup [.int (k : Int), .int ((i / 2 ^ k : Nat) : Int)])) a (.ref u) (.int ((numOf L' th : Nat) : Int)) H4 ∧
            ∃ (L' : List Th) (v' : Lev) (kvs' : List (List Key × V)) (y3 y4 : Option V), (∀ a o, H1 a = some o → a ≠ sd → a ≠ d → a ≠ l → H4 a = some o) ∧ LedAt w C H4 p d l L' ∧ H4 sd = some (.dT kvs') ∧ Climb rows.length i t L v (k + 1) L' v' ∧
              Dic kvs' (domK n0 i (k + 1)) v' ∧ (∀ h j, domK n0 i (k + 1) h j → v' h j < L'.length) ∧ kvs'.length ≤ tot n0 + (if n0 = rows.length then 0 else k + 1) ∧ L'.length ≤ L.length + (k + 1) ∧
              [some (.ref b), some (.int (i : Int)), some (.ref bp), some (V.int (k : Int)), some (V.int ((i / 2 ^ k : Nat) : Int))] = [some (.ref b), some (.int (i : Int)), some (.ref bp), y3, y4] := fun th H2 k2 l2 c2 u hu => by
        have s2 := same_upd (o := .tup [.int (k : Int), .int ((i / 2 ^ k : Nat) : Int)]) hu
        have hsd2 : H2 sd = some (.dT kvs') := k2 _ _ hsd (sep _ (.inr (.inr rfl))).1 (sep _ (.inr (.inr rfl))).2
        have hsd3 := s2 _ _ hsd2
        have hz : kvs'.length < sizeLine := Nat.lt_of_le_of_lt (show kvs'.length ≤ 20000 by split at hk' <;> omega) (by decide)
        refine ⟨sd, _, rfl, DPut.t (k := ky (k : Int) ((i / 2 ^ k : Nat) : Int)) hsd3 upd_same hz, give L' th, put2 v' k (i / 2 ^ k) (numOf L' th), putK kvs' (ky (k : Int) ((i / 2 ^ k : Nat) : Int)) (.int ((numOf L' th : Nat) : Int)), _, _, ?_, ?_, upd_same, c2, (hdic.put k (i / 2 ^ k) (numOf L' th)).imp fun h j => domK_succ, ?_, ?_, ?_, rfl⟩
        · intro a o e n1 n2 n3
          rw [upd_ne n1]
          exact s2 _ _ (k2 _ _ (kp a o e n1 n2 n3) n2 n3)
        · have l3 := l2.same s2
          have ksd : Keep (upd H2 u (.tup [.int (k : Int), .int ((i / 2 ^ k : Nat) : Int)])) (upd (upd H2 u (.tup [.int (k : Int), .int ((i / 2 ^ k : Nat) : Int)])) sd (.dT (putK kvs' (ky (k : Int) ((i / 2 ^ k : Nat) : Int)) (.int ((numOf L' th : Nat) : Int))))) sd sd := fun a o e n1 _ => by rw [upd_ne n1]; exact e
          have nsd := sep _ (.inr (.inr rfl))
          refine l3.other ksd nsd.1.symm nsd.1.symm nsd.2.symm nsd.2.symm hps hps fun a xs e => ?_
          rw [upd_ne (ne_of e hsd3 (by intro z; cases z))]
          exact e
        · intro h j z
          rcases domK_succ.mpr z with z | ⟨rfl, rfl⟩
          · by_cases c : h = k ∧ j = i / 2 ^ k
            · obtain ⟨rfl, rfl⟩ := c
              rw [put2_at]
              exact give_lt L' th
            · rw [put2_ne c]
              exact Nat.lt_of_lt_of_le (hv' h j z) (pre_len (give_pre L' th))
          · rw [put2_at]
            exact give_lt L' th
        · by_cases c : n0 = rows.length
          · rw [if_pos c] at hk' ⊢
            rw [putK_len (hdic.isSome (.inl (by rw [c]; exact blocks_iff.mp hkb)))]
            exact hk'
          · rw [if_neg c] at hk' ⊢
            have := length_putK kvs' (ky (k : Int) ((i / 2 ^ k : Nat) : Int)) (.int ((numOf L' th : Nat) : Int))
            omega
        · have := give_len L' th
          omega
      refine ⟨_, rfl, b, dx, fs, rfl, hb', hno _ (by decide +kernel) (by decide +kernel) (by decide +kernel), _, rfl, _, rfl, b, p, d, l, rl, sd, L', rows, kvs', k, i / 2 ^ k, rfl, m', hL', by omega, ?_⟩
      have fin : ∀ (H2 : Hp), Keep H' H2 d l → H2 b = some (.ins CB dx fs) := fun H2 k2 => k2 _ _ hb' (sep _ (.inl rfl)).1 (sep _ (.inl rfl)).2
      cases k with
      | zero =>
        left
        refine ⟨rfl, t, by rw [Nat.pow_zero, Nat.div_one]; exact ht, ot, fun H2 k2 l2 => ?_⟩
        rcases hc with ⟨_, rfl, rfl⟩ | ⟨z, _⟩
        · refine ⟨_, rfl, b, CB, dx, fs, _, rfl, fin H2 k2, T_Book.cl, T_Book.nS, hfS, _, rfl, _, rfl, sl40 (by show 2 ≤ 1000000; decide), fun u hu => ?_⟩
          refine key (.row t) H2 k2 l2 ?_ u hu
          rw [Nat.pow_zero, Nat.div_one]
          exact climb_first
        · omega
      | succ k =>
        right
        obtain ⟨a1, a2⟩ := halves st hkb
        refine ⟨k, _, _, rfl, hdic.1 _ _ a1, hdic.1 _ _ a2, hv' _ _ a1, hv' _ _ a2, fun H2 k2 l2 => ?_⟩
        refine ⟨_, rfl, b, CB, dx, fs, _, rfl, fin H2 k2, T_Book.cl, T_Book.nS, hfS, _, rfl, _, rfl, sl40 (by show 2 ≤ 1000000; decide), fun u hu => ?_⟩
        exact key _ H2 k2 l2 (climb_next hc hkb) u hu
    · rintro σ H' ⟨L', v', kvs', y3, y4, kp, hL', hsd, hc, hdic, hv', hk', hl', rfl⟩
      rw [List.length_map, lts] at hc hdic hk'
      have e := climb_end st.lt hc
      have hbp' : H' bp = some (.lst (ts.map V.ref)) := by
        refine kp _ _ h1 ?_ ?_ ?_
        · exact (ne_of_none m.sd hbp).symm
        · obtain ⟨E, hd⟩ := hL.dict
          exact (ne_of_none hd hbp).symm
        · obtain ⟨vs, hl, _⟩ := hL.tl
          exact (ne_of_none hl hbp).symm
      refine ⟨_, rfl, bp, _, rfl, .inl (SqL.of hbp'), ?_⟩
      rw [List.length_map, lts]
      refine q H' kvs' (fun a o e n1 n2 n3 => kp a o (sm _ _ e) n1 n2 n3) (by rw [e]; exact hL') hsd (by rw [e]; exact hdic.imp fun h j => domK_all st) ?_
      rcases st.or_ with z | ⟨z1, z2⟩
      · rw [if_pos z] at hk'
        rw [← z]
        exact hk'
      · rw [if_neg (by omega)] at hk'
        rw [← z1]
        have e5 : blocks (n0 + 1) n0 = blocks rows.length i := by rw [z1, z2]
        show _ ≤ tot n0 + blocks (n0 + 1) n0
        rw [e5]
        exact hk'
end

/-! ### the program's side: how a book stands, and its deeds -/
def repB (CB : Addr) : Rep CB where
  At H p x := ∃ rl sd kvs, Mid CB H x.b p rl sd x.rows kvs ∧ Dic kvs (fun h j => (j + 1) * 2 ^ h ≤ x.rows.length) x.v ∧ kvs.length ≤ tot x.rows.length ∧ ∀ a, x.F a ↔ a = x.b ∨ a = rl ∨ a = sd
  frame := by
    rintro H H' p x ⟨rl, sd, kvs, m, d, n, f⟩ k
    exact ⟨rl, sd, kvs, m.keep fun a ha o e => k a o ((f a).mpr ha) e, d, n, f⟩
  alive := by
    rintro H p x ⟨rl, sd, kvs, m, d, n, f⟩ a ha
    obtain ⟨dx, fs, hb, _⟩ := m.ob
    rcases (f a).mp ha with rfl | rfl | rfl
    · exact ⟨_, hb⟩
    · exact ⟨_, m.rl⟩
    · exact ⟨_, m.sd⟩
  fb := by
    rintro H p x ⟨rl, sd, kvs, m, d, n, f⟩
    exact (f _).mpr (.inl rfl)
  ob := by
    rintro H p x ⟨rl, sd, kvs, m, d, n, f⟩
    obtain ⟨dx, fs, hb, _, _, _, hno⟩ := m.ob
    refine ⟨dx, fs, hb, fun y hy => hno y ?_ ?_ ?_⟩
    all_goals
      rintro rfl
      revert hy
      decide +kernel
theorem Good.lt {L : List Th} {rows : List Str} {v : Lev} (g : Good L rows v) : ∀ h j, (j + 1) * 2 ^ h ≤ rows.length → v h j < L.length
  | 0, j, c => by
    have hj : j < rows.length := by have : 2 ^ 0 = 1 := rfl; omega
    exact (List.getElem?_eq_some_iff.mp (g.row j _ (List.getElem?_eq_getElem hj))).1
  | h + 1, j, c => (List.getElem?_eq_some_iff.mp (g.pair h j c)).1
theorem placeV_lt {n : Nat} {y : V} {i : Nat} (h : placeV n y = some i) : y = .int (i : Int) ∧ i < n := by
  unfold placeV at h
  split at h
  · split at h
    · rename_i j hj
      have e := Option.some.inj h
      constructor
      · rw [← e, Int.toNat_of_nonneg hj.1]
      · omega
    · cases h
  · cases h
section
variable {P : Program} {w : World} {K : PySem.W.Frag} {mg : Str → Option Value} {base : Heap} {C CB cR cP cB cS cF : Addr}
theorem ok_put (D : Mth K CB "put" "Book.put" s_Book_put ["self", "place", "row"]) (T_Book : TBo K mg CB) (M_Book_count : MOk P w K mg base CX0 CB "count" 1 ["self"] (spCnt CB)) (M_Book__sum_up : MOk P w K mg base CX0 CB "_sum_up" 5 ["self", "place"] (spSumUp CB w C))
    (C_check_place : COk P w K mg base (L2.CX P w) "check_place" 2 ["thing", "count"] (spCheckPlace cP)) (C_check_row : COk P w K mg base (L2.CX P w) "check_row" 2 ["thing"] (spCheckRow cR)) :
    MOk P w K mg base (L2.CX P w) CB "put" 6 ["self", "place", "row"] (spPut (repB CB) w C cR cP) := by
  obtain ⟨f_Book__sum_up, d_Book__sum_up, G_Book__sum_up, m_Book__sum_up, b_Book__sum_up⟩ := M_Book__sum_up.ex
  obtain ⟨f_Book_count, d_Book_count, G_Book_count, m_Book_count, b_Book_count⟩ := M_Book_count.ex
  refine m_mkX D sc_Book_put (fun vs H Q E h => ?_) (fun f cdv A outer s H vs Q E hr h => ?_)
  · obtain ⟨p, d, l, L, x, y, z, rfl, _⟩ := h
    rfl
  · obtain ⟨p, d, l, L, x, y, z, rfl, bk, hy, hz, hlen, q1, q2, q3⟩ := h
    refine ⟨_, (pss_cons (ps_expr (pe_cx C_check_place (passUp (takes_of rfl rfl rfl rfl)) hr (by rfl) (pa_cons (pv 1) (pa_cons (pe_meth0 (pv 0) T_Book.cl m_Book_count G_Book_count (hr.mono (by decide)) b_Book_count .nil pass0) pa_nil))))
      (pss_cons (ps_expr (pe_cx C_check_row (passUp (takes_of rfl rfl rfl rfl)) hr (by rfl) (pa_cons (pv 2) pa_nil)))
      (pss_cons (ps_asg (pv 2) (pg_sub (pe_fld (pv 0) rfl) (pv 1) set_list))
      (pss_one (ps_ret (pe_meth (pv 0) T_Book.cl m_Book__sum_up G_Book__sum_up (hr.mono (by decide)) b_Book__sum_up .nil pass0 (pa_cons (pv 1) pa_nil))))))), ?_⟩
    obtain ⟨rl, sd, kvs, m, dic, hk, hF⟩ := bk.at_
    obtain ⟨dx, fs, hb, hfL, hfR, hfS, hno⟩ := m.ob
    refine ⟨_, rfl, _, rfl, x.b, dx, fs, rfl, hb, hno _ (by decide +kernel) (by decide +kernel) (by decide +kernel), x.b, p, rl, sd, x.rows, kvs, rfl, m, y, x.rows.length, rfl, hy, fun i hi => ?_, fun z => q1 z _ fun _ _ e => e⟩
    obtain ⟨rfl, hlt⟩ := placeV_lt hi
    refine ⟨_, rfl, z, rfl, hz, fun hb H1 s1 => ?_, fun hb H1 s1 => q2 i hi hb H1 s1⟩
    cases hz with
    | str t ht =>
      have ot : okS 40 t := row_okS hb
      have m1 := m.same s1
      have hL1 := bk.led.same s1
      obtain ⟨dx, fs, hb1, hfL, hfR, hfS, hno⟩ := m1.ob
      refine ⟨_, rfl, _, rfl, x.b, CB, dx, fs, _, rfl, hb1, T_Book.cl, T_Book.nR, hfR, _, rfl, rl, _, (i : Int), i, rfl, rfl, m1.rl, ixN_nat (by rw [List.length_map]; exact hlt), ?_⟩
      have own : ∀ a, a = x.b ∨ a = rl ∨ a = sd → a ≠ p ∧ a ≠ d ∧ a ≠ l := fun a ha => bk.own a ((hF a).mpr ha)
      have or_ := own rl (.inr (.inl rfl))
      have k2 : ∀ a o, H1 a = some o → a ≠ rl → (upd H1 rl (.lst ((x.rows.map V.str).set i (.str t)))) a = some o := fun a o e n => by rw [upd_ne n]; exact e
      have m2 : Mid CB (upd H1 rl (.lst ((x.rows.map V.str).set i (.str t)))) x.b p rl sd (x.rows.set i t) kvs := ⟨⟨dx, fs, k2 _ _ hb1 m.br, hfL, hfR, hfS, hno⟩, by rw [upd_same, List.map_set], k2 _ _ m1.sd m.rs.symm⟩
      have tk2 : ∀ a xs, H1 a = some (.tup xs) → (upd H1 rl (.lst ((x.rows.map V.str).set i (.str t)))) a = some (.tup xs) := fun a xs e => k2 a _ e (ne_of e m1.rl (by intro z; cases z))
      have hL2 : LedAt w C (upd H1 rl (.lst ((x.rows.map V.str).set i (.str t)))) p d l L := hL1.other (d' := rl) (l' := rl) (fun a o e n _ => k2 a o e n) or_.2.1.symm or_.2.1.symm or_.2.2.symm or_.2.2.symm or_.1.symm or_.1.symm tk2
      have hb2 : (upd H1 rl (.lst ((x.rows.map V.str).set i (.str t)))) x.b = some (.ins CB dx fs) := k2 _ _ hb1 m.br
      generalize upd H1 rl (.lst ((x.rows.map V.str).set i (.str t))) = H2 at k2 m2 tk2 hL2 hb2 ⊢
      have hset : (x.rows.set i t).length = x.rows.length := List.length_set
      refine ⟨_, rfl, x.b, dx, fs, rfl, hb2, hno _ (by decide +kernel) (by decide +kernel) (by decide +kernel), _, rfl, x.b, p, d, l, rl, sd, L, x.rows.set i t, kvs, x.v, x.rows.length, i, t, rfl, m2, hL2, ⟨by rw [hset]; exact hlt, by rw [hset]; exact bk.few, .inl hset.symm⟩, by rw [List.getElem?_set_self hlt], ot, dic, bk.good.lt, hk,
        fun a ha => ⟨(own a ha).2.1, (own a ha).2.2⟩, (own sd (.inr (.inr rfl))).1.symm, by omega, fun H3 kvs3 k3 l3 sd3 dic3 hk3 => ?_⟩
      rw [hset] at l3 dic3 hk3 ⊢
      refine q3 i t hi rfl hb H3 x.F ⟨fun a o e nf n1 n2 => ?_, fun a xs e => ?_⟩ (fun a h => .inl h) ⟨l3, ⟨rl, sd, kvs3, ⟨?_, ?_, sd3⟩, ?_, ?_, hF⟩, ?_, bk.own, fun u hu => ?_, ?_⟩
      · have nrl : a ≠ rl := fun z => nf ((hF a).mpr (.inr (.inl z)))
        have nsd : a ≠ sd := fun z => nf ((hF a).mpr (.inr (.inr z)))
        exact k3 a o (k2 a o (s1 a o e) nrl) nsd n1 n2
      · obtain ⟨E0, hd0⟩ := bk.led.dict
        obtain ⟨vs0, hl0, _⟩ := bk.led.tl
        exact k3 a _ (tk2 a xs (s1 a _ e)) (ne_of e m.sd (by intro z; cases z)) (ne_of e hd0 (by intro z; cases z)) (ne_of e hl0 (by intro z; cases z))
      · exact ⟨dx, fs, k3 _ _ hb2 m.bs (own _ (.inl rfl)).2.1 (own _ (.inl rfl)).2.2, hfL, hfR, hfS, hno⟩
      · exact k3 _ _ m2.rl m.rs or_.2.1 or_.2.2
      · refine dic3.imp fun h j => ?_
        show _ ↔ (j + 1) * 2 ^ h ≤ (x.rows.set i t).length
        rw [hset]
      · show _ ≤ tot (x.rows.set i t).length
        rw [hset]
        exact hk3
      · have g := settle_good (i := i) (t := t) (rows := x.rows) (rows' := x.rows.set i t) bk.good (by rw [hset]; exact hlt) (fun j hj => .inl (by rw [List.getElem?_set_ne (fun e => hj e.symm)])) (by rw [List.getElem?_set_self hlt]) (.inl (by rw [hset]; exact Nat.le_refl _))
        rw [hset] at g
        exact g
      · rcases List.mem_or_eq_of_mem_set hu with h | h
        · exact bk.ok u h
        · rw [h]
          exact ot
      · show (x.rows.set i t).length ≤ 1024
        rw [hset]
        exact bk.few
    | int i => cases hb
    | bl b => cases hb
    | non => cases hb
    | tup ht => cases hb
theorem ok_add (D : Mth K CB "add" "Book.add" s_Book_add ["self", "row"]) (T_Book : TBo K mg CB) (V_ : ∃ t, mg "MOST_ROWS" = some (.int 1024 t)) (X_Full : ExT K mg "Full" cF) (M_Book_count : MOk P w K mg base CX0 CB "count" 1 ["self"] (spCnt CB)) (M_Book__sum_up : MOk P w K mg base CX0 CB "_sum_up" 5 ["self", "place"] (spSumUp CB w C))
    (C_check_row : COk P w K mg base (L2.CX P w) "check_row" 2 ["thing"] (spCheckRow cR)) : MOk P w K mg base (L2.CX P w) CB "add" 6 ["self", "row"] (spAdd (repB CB) w C cR cF) := by
  obtain ⟨f_Book__sum_up, d_Book__sum_up, G_Book__sum_up, m_Book__sum_up, b_Book__sum_up⟩ := M_Book__sum_up.ex
  obtain ⟨f_Book_count, d_Book_count, G_Book_count, m_Book_count, b_Book_count⟩ := M_Book_count.ex
  obtain ⟨tM, mMOST_ROWS⟩ := V_
  refine m_mkX D sc_Book_add (fun vs H Q E h => ?_) (fun f cdv A outer s H vs Q E hr h => ?_)
  · obtain ⟨p, d, l, L, x, z, rfl, _⟩ := h
    rfl
  · obtain ⟨p, d, l, L, x, z, rfl, bk, hz, hlen, q1, q2, q3⟩ := h
    refine ⟨_, (pss_cons (ps_expr (pe_cx C_check_row (passUp (takes_of rfl rfl rfl rfl)) hr (by rfl) (pa_cons (pv 1) pa_nil)))
      (pss_cons (ps_if (pt_cmpR op_eq (pe_meth0 (pv 0) T_Book.cl m_Book_count G_Book_count (hr.mono (by decide)) b_Book_count .nil pass0) (pe_glob (v := .int 1024) (by rfl) mMOST_ROWS ⟨_, rfl⟩) (nomark _)) (pss_one (ps_own X_Full rfl (takes_of rfl rfl rfl rfl) (by rfl))) pss_nil)
      (pss_cons (ps_expr (pe_bm PySem.F.plainAttrs_list PySem.F.slot_list_append PySem.F.type_list_append mt_append (pe_fld (pv 0) rfl) (pa_cons (pv 1) pa_nil)))
      (pss_one (ps_ret (pe_meth (pv 0) T_Book.cl m_Book__sum_up G_Book__sum_up (hr.mono (by decide)) b_Book__sum_up .nil pass0 (pa_cons (pe_op op_sub (pe_meth0 (pv 0) T_Book.cl m_Book_count G_Book_count (hr.mono (by decide)) b_Book_count .nil pass0) pe_int) pa_nil))))))), ?_⟩
    obtain ⟨rl, sd, kvs, m, dic, hk, hF⟩ := bk.at_
    refine ⟨_, rfl, z, rfl, hz, fun hb H1 s1 => ?_, fun hb H1 s1 => q1 hb H1 s1⟩
    have m1 := m.same s1
    have hL1 := bk.led.same s1
    obtain ⟨dx, fs, hb1, hfL, hfR, hfS, hno⟩ := m1.ob
    refine ⟨_, rfl, x.b, dx, fs, rfl, hb1, hno _ (by decide +kernel) (by decide +kernel) (by decide +kernel), x.b, p, rl, sd, x.rows, kvs, rfl, m1, rfl, _, rfl, ite2 (fun e => ?_) (fun e => ?_)⟩
    · have e := of_decide_eq_true e
      injection e with e
      exact q2 hb (by omega) H1 s1
    have hlt : x.rows.length < 1024 := by
      have h1 := bk.few
      have h2 : x.rows.length ≠ 1024 := fun z => e (decide_eq_true (by rw [z]; rfl))
      omega
    cases hz with
    | str t ht =>
      have ot : okS 40 t := row_okS hb
      refine ⟨_, rfl, x.b, CB, dx, fs, _, rfl, hb1, T_Book.cl, T_Book.nR, hfR, .inl ⟨rfl, _, SqL.of m1.rl⟩, _, rfl, rl, _, .str t, rfl, rfl, m1.rl, ?_, ?_⟩
      · rw [List.length_map]
        exact Nat.lt_of_lt_of_le (show x.rows.length < 1000000 by omega) (by decide)
      have own : ∀ a, a = x.b ∨ a = rl ∨ a = sd → a ≠ p ∧ a ≠ d ∧ a ≠ l := fun a ha => bk.own a ((hF a).mpr ha)
      have or_ := own rl (.inr (.inl rfl))
      have k2 : ∀ a o, H1 a = some o → a ≠ rl → (upd H1 rl (.lst (x.rows.map V.str ++ [.str t]))) a = some o := fun a o e n => by rw [upd_ne n]; exact e
      have m2 : Mid CB (upd H1 rl (.lst (x.rows.map V.str ++ [.str t]))) x.b p rl sd (x.rows ++ [t]) kvs := ⟨⟨dx, fs, k2 _ _ hb1 m.br, hfL, hfR, hfS, hno⟩, by rw [upd_same, List.map_append]; rfl, k2 _ _ m1.sd m.rs.symm⟩
      have tk2 : ∀ a xs, H1 a = some (.tup xs) → (upd H1 rl (.lst (x.rows.map V.str ++ [.str t]))) a = some (.tup xs) := fun a xs e => k2 a _ e (ne_of e m1.rl (by intro z; cases z))
      have hL2 : LedAt w C (upd H1 rl (.lst (x.rows.map V.str ++ [.str t]))) p d l L := hL1.other (d' := rl) (l' := rl) (fun a o e n _ => k2 a o e n) or_.2.1.symm or_.2.1.symm or_.2.2.symm or_.2.2.symm or_.1.symm or_.1.symm tk2
      have hb2 : (upd H1 rl (.lst (x.rows.map V.str ++ [.str t]))) x.b = some (.ins CB dx fs) := k2 _ _ hb1 m.br
      generalize upd H1 rl (.lst (x.rows.map V.str ++ [.str t])) = H2 at k2 m2 tk2 hL2 hb2 ⊢
      have happ : (x.rows ++ [t]).length = x.rows.length + 1 := by rw [List.length_append]; rfl
      have hat : (x.rows ++ [t])[x.rows.length]? = some t := by rw [List.getElem?_append_right (Nat.le_refl _), Nat.sub_self]; rfl
      refine ⟨_, rfl, x.b, dx, fs, rfl, hb2, hno _ (by decide +kernel) (by decide +kernel) (by decide +kernel), _, rfl, x.b, dx, fs, rfl, hb2, hno _ (by decide +kernel) (by decide +kernel) (by decide +kernel), x.b, p, rl, sd, x.rows ++ [t], kvs, rfl, m2, _, _, rfl, rfl, ?_⟩
      refine ⟨x.b, p, d, l, rl, sd, L, x.rows ++ [t], kvs, x.v, x.rows.length, x.rows.length, t, ?_, m2, hL2, ⟨by omega, by omega, .inr ⟨happ.symm, rfl⟩⟩, hat, ot, dic, bk.good.lt, hk,
        fun a ha => ⟨(own a ha).2.1, (own a ha).2.2⟩, (own sd (.inr (.inr rfl))).1.symm, by omega, fun H3 kvs3 k3 l3 sd3 dic3 hk3 => ?_⟩
      · show [V.ref x.b, .int (((x.rows ++ [t]).length : Int) - 1)] = _
        rw [happ, show ((x.rows.length + 1 : Nat) : Int) - 1 = (x.rows.length : Int) by omega]
      have g := settle_good (i := x.rows.length) (t := t) (rows := x.rows) (rows' := x.rows ++ [t]) bk.good (by omega) (fun j hj => by
        by_cases c : j < x.rows.length
        · exact .inl (List.getElem?_append_left c)
        · exact .inr (List.getElem?_eq_none (by omega))) hat (.inr ⟨happ, rfl⟩)
      have dic4 : Dic kvs3 (fun h j => (j + 1) * 2 ^ h ≤ (x.rows ++ [t]).length) (settle (x.rows ++ [t]).length x.rows.length t L x.v).2 := dic3
      rw [happ] at l3 g ⊢
      rw [show (settle (x.rows ++ [t]).length x.rows.length t L x.v).2 = (settle (x.rows.length + 1) x.rows.length t L x.v).2 by rw [happ]] at dic4
      refine q3 t rfl hb hlt H3 x.F ⟨fun a o e nf n1 n2 => ?_, fun a xs e => ?_⟩ (fun a h => .inl h) ⟨l3, ⟨rl, sd, kvs3, ⟨?_, ?_, sd3⟩, dic4, hk3, hF⟩, g, bk.own, fun u hu => ?_, ?_⟩
      · have nrl : a ≠ rl := fun z => nf ((hF a).mpr (.inr (.inl z)))
        have nsd : a ≠ sd := fun z => nf ((hF a).mpr (.inr (.inr z)))
        exact k3 a o (k2 a o (s1 a o e) nrl) nsd n1 n2
      · obtain ⟨E0, hd0⟩ := bk.led.dict
        obtain ⟨vs0, hl0, _⟩ := bk.led.tl
        exact k3 a _ (tk2 a xs (s1 a _ e)) (ne_of e m.sd (by intro z; cases z)) (ne_of e hd0 (by intro z; cases z)) (ne_of e hl0 (by intro z; cases z))
      · exact ⟨dx, fs, k3 _ _ hb2 m.bs (own _ (.inl rfl)).2.1 (own _ (.inl rfl)).2.2, hfL, hfR, hfS, hno⟩
      · exact k3 _ _ m2.rl m.rs or_.2.1 or_.2.2
      · rcases List.mem_append.mp hu with h | h
        · exact bk.ok u h
        · have : u = t := by simpa using h
          rw [this]
          exact ot
      · show (x.rows ++ [t]).length ≤ 1024
        omega
    | int i => cases hb
    | bl b => cases hb
    | non => cases hb
    | tup ht => cases hb
end

/-! ### the program's side: cut, and what a book tells -/
section
variable {P : Program} {w : World} {K : PySem.W.Frag} {mg : Str → Option Value} {base : Heap} {C CB cR cP cB cS cF : Addr}
theorem ok_cut (D : Mth K CB "cut" "Book.cut" s_Book_cut ["self"]) (T_Book : TBo K mg CB) (B : Bi mg) (X_NoPlace : ExT K mg "NoPlace" cP) (M_Book_count : MOk P w K mg base CX0 CB "count" 1 ["self"] (spCnt CB)) (C_blocks_at : COk P w K mg base CX0 "blocks_at" 2 ["count", "place"] spBlocksAt) :
    MOk P w K mg base (L2.CX P w) CB "cut" 3 ["self"] (spCut (repB CB) w C cP) := by
  obtain ⟨f_Book_count, d_Book_count, G_Book_count, m_Book_count, b_Book_count⟩ := M_Book_count.ex
  refine m_mkX D sc_Book_cut (fun vs H Q E h => ?_) (fun f cdv A outer s H vs Q E hr h => ?_)
  · obtain ⟨p, d, l, L, x, rfl, _⟩ := h
    rfl
  · obtain ⟨p, d, l, L, x, rfl, bk, q1, q2⟩ := h
    refine ⟨_, (pss_cons (ps_if (pt_cmpR op_eq (pe_meth0 (pv 0) T_Book.cl m_Book_count G_Book_count (hr.mono (by decide)) b_Book_count .nil pass0) pe_int (nomark _)) (pss_one (ps_own X_NoPlace rfl (takes_of rfl rfl rfl rfl) (by rfl))) pss_nil)
      (pss_cons (ps_set (i := 1) sc_Book_cut.nd rfl (.inl rfl) (pe_c C_blocks_at hr (by rfl) (pa_cons (pe_meth0 (pv 0) T_Book.cl m_Book_count G_Book_count (hr.mono (by decide)) b_Book_count .nil pass0) (pa_cons (pe_op op_sub (pe_meth0 (pv 0) T_Book.cl m_Book_count G_Book_count (hr.mono (by decide)) b_Book_count .nil pass0) pe_int) pa_nil))))
      (pss_cons (ps_expr (pe_bm0 PySem.F.plainAttrs_list PySem.F.slot_list_pop PySem.F.type_list_pop mt_pop (pe_fld (pv 0) rfl)))
      (pss_cons (ps_for (passes_of rfl) rfl (pi_list (pv 1)) (pg_name (i := 2) sc_Book_cut.nd rfl (.inl rfl))
      (pss_one (ps_ddelT (hu_of hr) (pe_fld (pv 0) rfl) (pv 2))))
      (pss_one (ps_ret (pe_callB (id := "len") call_len_seq (by rfl) B.len (by decide +kernel) (pa_cons (pv 1) pa_nil)))))))), ?_⟩
    obtain ⟨rl, sd, kvs, m, dic, hk, hF⟩ := bk.at_
    obtain ⟨dx, fs, hb, hfL, hfR, hfS, hno⟩ := m.ob
    refine ⟨_, rfl, x.b, dx, fs, rfl, hb, hno _ (by decide +kernel) (by decide +kernel) (by decide +kernel), x.b, p, rl, sd, x.rows, kvs, rfl, m, rfl, _, rfl, ite2 (fun e => ?_) (fun e => ?_)⟩
    · have e := of_decide_eq_true e
      injection e with e
      exact q1 (List.eq_nil_of_length_eq_zero (by omega)) H fun _ _ e => e
    have h0 : 0 < x.rows.length := by
      have h2 : x.rows.length ≠ 0 := fun z => e (decide_eq_true (by rw [z]; rfl))
      omega
    have hfew := bk.few
    obtain ⟨k, ek⟩ : ∃ k, x.rows.length = k + 1 := ⟨x.rows.length - 1, by omega⟩
    refine ⟨_, rfl, x.b, dx, fs, rfl, hb, hno _ (by decide +kernel) (by decide +kernel) (by decide +kernel), x.b, p, rl, sd, x.rows, kvs, rfl, m, _, rfl, x.b, dx, fs, rfl, hb, hno _ (by decide +kernel) (by decide +kernel) (by decide +kernel), x.b, p, rl, sd, x.rows, kvs, rfl, m, _, _, rfl, rfl, ?_⟩
    refine ⟨x.rows.length, k, ?_, by omega, fun H1 gp s1 hgp hpl => ?_⟩
    · show [V.int (x.rows.length : Int), .int ((x.rows.length : Int) - 1)] = _
      rw [ek, show ((k + 1 : Nat) : Int) - 1 = (k : Int) by omega]
    have m1 := m.same s1
    obtain ⟨ts, h1, h2⟩ := hpl
    have lts : ts.length = blocks x.rows.length k := by rw [Paired.length h2, blkL_len]
    have own : ∀ a, a = x.b ∨ a = rl ∨ a = sd → a ≠ p ∧ a ≠ d ∧ a ≠ l := fun a ha => bk.own a ((hF a).mpr ha)
    -- self._rows.pop()
    have hat : (x.rows.map V.str)[(x.rows.map V.str).length - 1]? = some (.str (x.rows[k]'(by omega))) := by
      rw [List.length_map, show x.rows.length - 1 = k by omega, List.getElem?_map, List.getElem?_eq_getElem (by omega)]
      rfl
    obtain ⟨dx, fs, hb1, hfL, hfR, hfS, hno⟩ := m1.ob
    refine ⟨_, rfl, x.b, CB, dx, fs, _, rfl, hb1, T_Book.cl, T_Book.nR, hfR, .inl ⟨rfl, _, SqL.of m1.rl⟩, rl, _, _, rfl, rfl, m1.rl, hat, ?_⟩
    have k2 : ∀ a o, H1 a = some o → a ≠ rl → (upd H1 rl (.lst (x.rows.map V.str).dropLast)) a = some o := fun a o e n => by rw [upd_ne n]; exact e
    have hrl2 : (upd H1 rl (.lst (x.rows.map V.str).dropLast)) rl = some (.lst (x.rows.dropLast.map V.str)) := by rw [upd_same, List.map_dropLast]
    generalize upd H1 rl (.lst (x.rows.map V.str).dropLast) = H2 at k2 hrl2 ⊢
    have hgrl : gp ≠ rl := (ne_of_none m.rl hgp).symm
    have hgsd : gp ≠ sd := (ne_of_none m.sd hgp).symm
    refine ⟨_, rfl, gp, rfl, ⟨_, SqL.of (k2 _ _ h1 hgrl)⟩, ?_⟩
    refine for_list (xs := ts.map V.ref) (fun i σ H' => ∃ (kvs' : List (List Key × V)) (y2 : Option V), (∀ a o, H2 a = some o → a ≠ sd → H' a = some o) ∧ H' sd = some (.dT kvs') ∧ Dic kvs' (fun h j => (j + 1) * 2 ^ h ≤ k + 1 ∧ ¬ (h < i ∧ j = k / 2 ^ h)) x.v ∧ kvs'.length + i ≤ tot (k + 1) ∧
      σ = [some (.ref x.b), some (.ref gp), y2]) ⟨kvs, none, fun a o e _ => e, k2 _ _ m1.sd m.rs.symm, dic.imp fun h j => ?_, by rw [← ek]; exact hk, rfl⟩ ?_ ?_ ?_
    · show (j + 1) * 2 ^ h ≤ x.rows.length ↔ _
      rw [ek]
      exact ⟨fun z => ⟨z, fun y => absurd y.1 (Nat.not_lt_zero _)⟩, fun z => z.1⟩
    · rintro i σ H' _ ⟨kvs', y2, kp, hsd, _, _, rfl⟩
      exact SqL.of (kp _ _ (k2 _ _ h1 hgrl) hgsd)
    · rintro i v σ H' hv ⟨kvs', y2, kp, hsd, hd, hk', rfl⟩
      obtain ⟨tt, qq, rfl, hq, htt⟩ := PL.get h2 hv
      obtain ⟨hkb, rfl⟩ := blkL_at hq
      rw [ek] at hkb
      have tup' : H' tt = some (.tup [.int (i : Int), .int ((k / 2 ^ i : Nat) : Int)]) := kp _ _ (k2 _ _ htt (ne_of htt m1.rl (by intro z; cases z))) (ne_of htt m1.sd (by intro z; cases z))
      have hb' := kp _ _ (k2 _ _ hb1 m.br) m.bs
      have hin : (k / 2 ^ i + 1) * 2 ^ i ≤ k + 1 ∧ ¬ (i < i ∧ k / 2 ^ i = k / 2 ^ i) := ⟨blocks_iff.mp hkb, fun z => Nat.lt_irrefl _ z.1⟩
      have hs := hd.isSome hin
      refine ⟨_, rfl, x.b, CB, dx, fs, _, rfl, hb', T_Book.cl, T_Book.nS, hfS, _, rfl, sd, kvs', ky (i : Int) ((k / 2 ^ i : Nat) : Int), tt, rfl, hsd, rfl, tup', hs, ?_⟩
      refine ⟨dropK kvs' (ky (i : Int) ((k / 2 ^ i : Nat) : Int)), _, fun a o e n => by rw [upd_ne n]; exact kp a o e n, upd_same, (hd.drop i (k / 2 ^ i)).imp fun h j => ?_, ?_, rfl⟩
      · constructor
        · rintro ⟨⟨z1, z2⟩, z3⟩
          refine ⟨z1, fun ⟨y1, y2⟩ => ?_⟩
          by_cases c : h = i
          · exact z3 ⟨c, by rw [← c]; exact y2⟩
          · exact z2 ⟨by omega, y2⟩
        · rintro ⟨z1, z2⟩
          refine ⟨⟨z1, fun y => z2 ⟨by omega, y.2⟩⟩, fun ⟨y1, y2⟩ => z2 ⟨by omega, ?_⟩⟩
          rw [y1]
          exact y2
      · have := dropK_len hs
        omega
    · rintro σ H' ⟨kvs', y2, kp, hsd, hd, hk', rfl⟩
      rw [List.length_map, lts, ek] at hd hk'
      refine ⟨_, rfl, gp, _, rfl, .inl (SqL.of (kp _ _ (k2 _ _ h1 hgrl) hgsd)), ?_⟩
      rw [List.length_map, lts, show k = x.rows.length - 1 by omega]
      have hdl : x.rows.dropLast.length = k := by rw [List.length_dropLast]; omega
      refine q2 (List.ne_nil_of_length_pos h0) H' x.F ⟨fun a o e nf n1 n2 => ?_, fun a xs e => ?_⟩ (fun a h => .inl h) ⟨?_, ⟨rl, sd, kvs', ⟨?_, ?_, hsd⟩, hd.imp fun h j => ?_, ?_, hF⟩, bk.good.cut (List.dropLast_prefix _), bk.own, fun u hu => bk.ok u (List.dropLast_subset _ hu), ?_⟩
      · exact kp a o (k2 a o (s1 a o e) fun z => nf ((hF a).mpr (.inr (.inl z)))) fun z => nf ((hF a).mpr (.inr (.inr z)))
      · exact kp a _ (k2 a _ (s1 a _ e) (ne_of e m.rl (by intro z; cases z))) (ne_of e m.sd (by intro z; cases z))
      · obtain ⟨E0, hd0⟩ := bk.led.dict
        have o1 := own rl (.inr (.inl rfl))
        have o2 := own sd (.inr (.inr rfl))
        have l1 : LedAt w C H2 p d l L := (bk.led.same s1).other (d' := rl) (l' := rl) (fun a o e n _ => k2 a o e n) o1.2.1.symm o1.2.1.symm o1.2.2.symm o1.2.2.symm o1.1.symm o1.1.symm fun a xs e => k2 a _ e (ne_of e m1.rl (by intro z; cases z))
        have hsd2 := k2 _ _ m1.sd m.rs.symm
        exact l1.other (d' := sd) (l' := sd) (fun a o e n _ => kp a o e n) o2.2.1.symm o2.2.1.symm o2.2.2.symm o2.2.2.symm o2.1.symm o2.1.symm fun a xs e => kp a _ e (ne_of e hsd2 (by intro z; cases z))
      · exact ⟨dx, fs, kp _ _ (k2 _ _ hb1 m.br) m.bs, hfL, hfR, hfS, hno⟩
      · exact kp _ _ hrl2 m.rs
      · show _ ↔ (j + 1) * 2 ^ h ≤ x.rows.dropLast.length
        rw [hdl]
        constructor
        · rintro ⟨z1, z2⟩
          rcases dom_succ.mp z1 with z | z
          · exact z
          · exact absurd z z2
        · exact fun z => ⟨by omega, fun y => dom_old z y.2⟩
      · show _ ≤ tot x.rows.dropLast.length
        rw [hdl]
        have : tot (k + 1) = tot k + blocks (k + 1) k := rfl
        omega
      · show x.rows.dropLast.length ≤ 1024
        omega
theorem ok_row (D : Mth K CB "row" "Book.row" s_Book_row ["self", "place"]) (T_Book : TBo K mg CB) (M_Book_count : MOk P w K mg base CX0 CB "count" 1 ["self"] (spCnt CB)) (C_check_place : COk P w K mg base (L2.CX P w) "check_place" 2 ["thing", "count"] (spCheckPlace cP)) :
    MOk P w K mg base (L2.CX P w) CB "row" 3 ["self", "place"] (spRow (repB CB) cP) := by
  obtain ⟨f_Book_count, d_Book_count, G_Book_count, m_Book_count, b_Book_count⟩ := M_Book_count.ex
  refine m_mkX D sc_Book_row (fun vs H Q E h => ?_) (fun f cdv A outer s H vs Q E hr h => ?_)
  · obtain ⟨p, x, y, rfl, _⟩ := h
    rfl
  · obtain ⟨p, x, y, rfl, at_, hy, q1, q2⟩ := h
    refine ⟨_, (pss_cons (ps_expr (pe_cx C_check_place (passUp (takes_of rfl rfl rfl rfl)) hr (by rfl) (pa_cons (pv 1) (pa_cons (pe_meth0 (pv 0) T_Book.cl m_Book_count G_Book_count (hr.mono (by decide)) b_Book_count .nil pass0) pa_nil))))
      (pss_one (ps_ret (pe_ix ix_list (pe_fld (pv 0) rfl) (pv 1) (fun _ _ => rfl))))), ?_⟩
    obtain ⟨rl, sd, kvs, m, dic, hk, hF⟩ := at_
    obtain ⟨dx, fs, hb, hfL, hfR, hfS, hno⟩ := m.ob
    refine ⟨_, rfl, _, rfl, x.b, dx, fs, rfl, hb, hno _ (by decide +kernel) (by decide +kernel) (by decide +kernel), x.b, p, rl, sd, x.rows, kvs, rfl, m, y, x.rows.length, rfl, hy, fun i hi => ?_, fun z => q1 z _ fun _ _ e => e⟩
    obtain ⟨rfl, hlt⟩ := placeV_lt hi
    refine ⟨_, rfl, x.b, CB, dx, fs, _, rfl, hb, T_Book.cl, T_Book.nR, hfR, _, rfl, rl, _, (i : Int), .str x.rows[i], rfl, rfl, SqL.of m.rl, atI_nat ?_, q2 i _ hi (List.getElem?_eq_getElem hlt) _ fun _ _ e => e⟩
    rw [List.getElem?_map, List.getElem?_eq_getElem hlt]
    rfl
theorem ok_rowsB (D : Mth K CB "rows" "Book.rows" s_Book_rows ["self"]) (T_Book : TBo K mg CB) (B : Bi mg) : MOk P w K mg base CX0 CB "rows" 1 ["self"] (spRowsB (repB CB)) := by
  refine m_mk D sc_Book_rows (fun vs H Q E h => ?_) (fun f cdv A outer s H vs Q E hr h => ?_)
  · obtain ⟨p, x, rfl, _⟩ := h
    rfl
  · obtain ⟨p, x, rfl, at_, q⟩ := h
    refine ⟨_, (pss_one (ps_ret (pe_callTy (T := "list") call_list_of (by rfl) B.list (by decide +kernel) (pa_cons (pe_fld (pv 0) rfl) pa_nil)))), ?_⟩
    obtain ⟨rl, sd, kvs, m, dic, hk, hF⟩ := at_
    obtain ⟨dx, fs, hb, hfL, hfR, hfS, hno⟩ := m.ob
    exact ⟨_, rfl, x.b, CB, dx, fs, _, rfl, hb, T_Book.cl, T_Book.nR, hfR, rl, _, rfl, .inl (SqL.of m.rl), fun t ht => q _ t (same_upd ht) ht upd_same⟩
theorem blockV_some {n h j : Nat} (c : (j + 1) * 2 ^ h ≤ n) : blockV n (.int (h : Int)) (.int (j : Int)) = some (h, j) := by
  show (if _ then _ else _) = _
  rw [Int.toNat_natCast, Int.toNat_natCast, if_pos ⟨by omega, by omega, c⟩]
theorem blockV_none {n : Nat} {h j : Int} (c : blockV n (.int h) (.int j) = none) : ∀ g k : Nat, h = (g : Int) → j = (k : Int) → ¬ (k + 1) * 2 ^ g ≤ n := fun g k e1 e2 z => by
  subst e1 e2
  rw [blockV_some z] at c
  cases c
theorem blockV_at {n : Nat} {y z : V} {h j : Nat} (c : blockV n y z = some (h, j)) : y = .int (h : Int) ∧ z = .int (j : Int) ∧ (j + 1) * 2 ^ h ≤ n := by
  unfold blockV at c
  split at c
  · split at c
    · rename_i g k hg
      injection c with c
      injection c with c1 c2
      subst c1 c2
      exact ⟨by rw [Int.toNat_of_nonneg hg.1], by rw [Int.toNat_of_nonneg hg.2.1], hg.2.2⟩
    · cases c
  · cases c
theorem sumOf_of (M : MOk P w K mg base (L2.CX P w) CB "sum_of" 2 ["self", "height", "number"] (spSumG CB cB)) : MOk P w K mg base (L2.CX P w) CB "sum_of" 2 ["self", "height", "number"] (spSumOf (repB CB) cB) := by
  refine M.imp fun vs H Q E h => ?_
  obtain ⟨p, x, y, z, rfl, at_, hy, hz, hn, q1, q2⟩ := h
  obtain ⟨rl, sd, kvs, m, dic, hk, hF⟩ := at_
  refine ⟨x.b, p, rl, sd, x.rows, kvs, y, z, rfl, m, hy, hz, fun h j u e1 e2 hu H' s => ?_, fun hn H' s => ?_⟩
  · subst e1 e2
    cases hv : blockV x.rows.length (.int h) (.int j) with
    | none =>
      rw [dic.2 h j (blockV_none hv)] at hu
      cases hu
    | some q =>
      obtain ⟨g, k⟩ := q
      obtain ⟨e1, e2, c⟩ := blockV_at hv
      injection e1 with e1
      injection e2 with e2
      subst e1 e2
      rw [dic.1 g k c] at hu
      cases hu
      exact q2 g k hv H' s
  · refine q1 ?_ H' s
    cases hv : blockV x.rows.length y z with
    | none => rfl
    | some q =>
      obtain ⟨g, k⟩ := q
      obtain ⟨e1, e2, c⟩ := blockV_at hv
      have := hn _ _ e1 e2
      rw [dic.1 g k c] at this
      cases this
theorem count_of (M : MOk P w K mg base CX0 CB "count" 1 ["self"] (spCnt CB)) : MOk P w K mg base CX0 CB "count" 1 ["self"] (spCount (repB CB)) := by
  refine M.imp fun vs H Q E h => ?_
  obtain ⟨p, x, rfl, ⟨rl, sd, kvs, m, dic, hk, hF⟩, q⟩ := h
  exact ⟨x.b, p, rl, sd, x.rows, kvs, rfl, m, q H fun _ _ e => e⟩
theorem all_rows : ∀ us : List V, (∀ u ∈ us, rowV u = true) → ∃ rows : List Str, us = rows.map V.str ∧ ∀ t ∈ rows, okS 40 t
  | [], _ => ⟨[], rfl, fun _ h => absurd h List.not_mem_nil⟩
  | u :: us, h => by
    obtain ⟨rows, e, ok⟩ := all_rows us fun x hx => h x (List.mem_cons_of_mem _ hx)
    have hu := h u List.mem_cons_self
    cases u with
    | str t =>
      refine ⟨t :: rows, by rw [e]; rfl, fun x hx => ?_⟩
      rcases List.mem_cons.mp hx with e | hx
      · rw [e]
        exact row_okS hu
      · exact ok x hx
    | _ => cases hu
theorem ok_bookInit (D : Mth K CB "__init__" "Book.__init__" s_Book___init__ ["self", "ledger", "rows"]) (T_Book : TBo K mg CB) (B : Bi mg) (V_ : ∃ t, mg "MOST_ROWS" = some (.int 1024 t)) (X_Full : ExT K mg "Full" cF) (C_check_row : COk P w K mg base (L2.CX P w) "check_row" 2 ["thing"] (spCheckRow cR))
    (M_Book_add : MOk P w K mg base (L2.CX P w) CB "add" 6 ["self", "row"] (spAdd (repB CB) w C cR cF)) : MOk P w K mg base (L2.CX P w) CB "__init__" 7 ["self", "ledger", "rows"] (spBook (repB CB) w C cR cF) := by
  obtain ⟨f_Book_add, d_Book_add, G_Book_add, m_Book_add, b_Book_add⟩ := M_Book_add.ex
  obtain ⟨tM, mMOST_ROWS⟩ := V_
  refine m_mkX D sc_Book___init__ (fun vs H Q E h => ?_) (fun f cdv A outer s H vs Q E hr h => ?_)
  · obtain ⟨x, p, d, l, a, dx, L, us, rfl, _⟩ := h
    rfl
  · obtain ⟨x, p, d, l, a, dx, L, us, rfl, hx, hL, ha, nal, hany, hlen, hul, q1, q2, q3⟩ := h
    refine ⟨_, (pss_cons (ps_for (passes_of rfl) rfl (pi_list (pv 2)) (pg_name (i := 3) sc_Book___init__.nd rfl (.inl rfl))
      (pss_one (ps_expr (pe_cx C_check_row (passUp (takes_of rfl rfl rfl rfl)) hr (by rfl) (pa_cons (pv 3) pa_nil)))))
      (pss_cons (ps_if (pt_cmpR op_gt (pe_callB (id := "len") call_len_seq (by rfl) B.len (by decide +kernel) (pa_cons (pv 2) pa_nil)) (pe_glob (v := .int 1024) (by rfl) mMOST_ROWS ⟨_, rfl⟩) (nomark _)) (pss_one (ps_own X_Full rfl (takes_of rfl rfl rfl rfl) (by rfl))) pss_nil)
      (pss_cons (ps_fld (pv 0) (pv 1) rfl)
      (pss_cons (ps_fld (pv 0) (pe_lst pa_nil) rfl)
      (pss_cons (ps_fld (pv 0) pe_dnewT rfl)
      (pss_one (ps_for (passes_of rfl) rfl (pi_list (pv 2)) (pg_name (i := 3) sc_Book___init__.nd rfl (.inl rfl))
      (pss_one (ps_expr (pe_meth (pv 0) T_Book.cl m_Book_add G_Book_add (hr.mono (by decide)) b_Book_add .nil (passUp (takes_of rfl rfl rfl rfl)) (pa_cons (pv 3) pa_nil))))))))))), ?_⟩
    refine ⟨_, rfl, a, rfl, ⟨_, SqL.of ha⟩, ?_⟩
    refine for_list (xs := us) (fun k σ H' => ∃ y : Option V, Same H H' ∧ (∀ j u, j < k → us[j]? = some u → rowV u = true) ∧ σ = [some (.ref x), some (.ref p), some (.ref a), y]) ⟨none, fun _ _ e => e, fun j u hj => absurd hj (Nat.not_lt_zero _), rfl⟩ ?_ ?_ ?_
    · rintro k σ H' _ ⟨y, sm, _, rfl⟩
      exact SqL.of (sm _ _ ha)
    · rintro k u σ H' hu ⟨y, sm, hall, rfl⟩
      refine ⟨_, rfl, u, rfl, (hany u (List.mem_of_getElem? hu)).keep fun b xs e => sm _ _ e, fun hb H2 s2 => ?_, fun hb H2 s2 => q1 ⟨u, List.mem_of_getElem? hu, hb⟩ H2 fun b o e _ => s2 _ _ (sm _ _ e)⟩
      refine ⟨_, sm.trans s2, fun j u' hj hu' => ?_, rfl⟩
      by_cases e : j = k
      · subst e
        rw [hu] at hu'
        cases hu'
        exact hb
      · exact hall j u' (by omega) hu'
    rintro σ H1 ⟨y, sm, hall, rfl⟩
    have hrow : ∀ u ∈ us, rowV u = true := fun u hu => by
      obtain ⟨j, hj⟩ := List.mem_iff_getElem?.mp hu
      exact hall j u (List.getElem?_eq_some_iff.mp hj).1 hj
    refine ⟨_, rfl, a, _, rfl, .inl (SqL.of (sm _ _ ha)), _, _, rfl, rfl, _, rfl, ite2 (fun e => ?_) (fun e => ?_)⟩
    · have e := of_decide_eq_true e
      exact q2 hrow (by omega) H1 fun b o e _ => sm _ _ e
    have hul2 : us.length ≤ 1024 := by
      have : ¬ (1024 : Int) < (us.length : Int) := fun z => e (decide_eq_true z)
      omega
    obtain ⟨rows, rfl, hok⟩ := all_rows us hrow
    rw [List.length_map] at hul2
    -- the fields
    have hx1 := sm _ _ hx
    have hL1 := hL.same sm
    refine ⟨_, rfl, _, rfl, x, CB, dx, _, rfl, hx1, T_Book.cl, T_Book.nL, (by show 0 < 1000; decide), ?_⟩
    have hx2 : (upd H1 x (.ins CB dx (putF "ledger" (.ref p) []))) x = some (.ins CB dx (putF "ledger" (.ref p) [])) := upd_same
    have k2 : ∀ b o, H1 b = some o → b ≠ x → (upd H1 x (.ins CB dx (putF "ledger" (.ref p) []))) b = some o := fun b o e n => by rw [upd_ne n]; exact e
    generalize upd H1 x (.ins CB dx (putF "ledger" (.ref p) [])) = H2 at hx2 k2 ⊢
    refine ⟨Nat.zero_le _, fun rl hrl => ?_⟩
    have nx : x ≠ rl := ne_of_none hx2 hrl
    refine ⟨_, rfl, x, CB, dx, _, rfl, (by rw [upd_ne nx]; exact hx2), T_Book.cl, T_Book.nR, (by show 1 < 1000; decide), ?_⟩
    have hx3 : (upd (upd H2 rl (.lst [])) x (.ins CB dx (putF "_rows" (.ref rl) (putF "ledger" (.ref p) [])))) x = some (.ins CB dx (putF "_rows" (.ref rl) (putF "ledger" (.ref p) []))) := upd_same
    have hrl3 : (upd (upd H2 rl (.lst [])) x (.ins CB dx (putF "_rows" (.ref rl) (putF "ledger" (.ref p) [])))) rl = some (.lst []) := by rw [upd_ne nx.symm, upd_same]
    have k3 : ∀ b o, H2 b = some o → b ≠ x → (upd (upd H2 rl (.lst [])) x (.ins CB dx (putF "_rows" (.ref rl) (putF "ledger" (.ref p) [])))) b = some o := fun b o e n => by rw [upd_ne n, upd_ne (ne_of_none e hrl)]; exact e
    generalize upd (upd H2 rl (.lst [])) x (.ins CB dx (putF "_rows" (.ref rl) (putF "ledger" (.ref p) []))) = H3 at hx3 hrl3 k3 ⊢
    refine fun sd hsd => ?_
    have nx4 : x ≠ sd := ne_of_none hx3 hsd
    refine ⟨_, rfl, x, CB, dx, _, rfl, (by rw [upd_ne nx4]; exact hx3), T_Book.cl, T_Book.nS, (by show 2 < 1000; decide), ?_⟩
    have hx4 : (upd (upd H3 sd (.dT [])) x (.ins CB dx (putF "_sums" (.ref sd) (putF "_rows" (.ref rl) (putF "ledger" (.ref p) []))))) x = some (.ins CB dx (putF "_sums" (.ref sd) (putF "_rows" (.ref rl) (putF "ledger" (.ref p) [])))) := upd_same
    have hsd4 : (upd (upd H3 sd (.dT [])) x (.ins CB dx (putF "_sums" (.ref sd) (putF "_rows" (.ref rl) (putF "ledger" (.ref p) []))))) sd = some (.dT []) := by rw [upd_ne nx4.symm, upd_same]
    have k4 : ∀ b o, H3 b = some o → b ≠ x → (upd (upd H3 sd (.dT [])) x (.ins CB dx (putF "_sums" (.ref sd) (putF "_rows" (.ref rl) (putF "ledger" (.ref p) []))))) b = some o := fun b o e n => by rw [upd_ne n, upd_ne (ne_of_none e hsd)]; exact e
    generalize upd (upd H3 sd (.dT [])) x (.ins CB dx (putF "_sums" (.ref sd) (putF "_rows" (.ref rl) (putF "ledger" (.ref p) [])))) = H4 at hx4 hsd4 k4 ⊢
    have hrl4 := k4 _ _ hrl3 nx.symm
    have k14 : ∀ b o, H b = some o → b ≠ x → H4 b = some o := fun b o e n => k4 _ _ (k3 _ _ (k2 _ _ (sm _ _ e) n) n) n
    have frl : H rl = none := Same.free sm (by
      cases z : H1 rl with
      | none => rfl
      | some o =>
        rw [k2 _ _ z nx.symm] at hrl
        cases hrl)
    have fsd : H sd = none := by
      cases z : H sd with
      | none => rfl
      | some o =>
        rw [k3 _ _ (k2 _ _ (sm _ _ z) nx4.symm) nx4.symm] at hsd
        cases hsd
    have npx : p ≠ x := by
      obtain ⟨dx', fs', hp, hS, _⟩ := hL.ob
      refine ne_of hp hx fun z => ?_
      injection z with z1 z2 z3
      subst z3
      cases hS
    have ndx : d ≠ x := by
      obtain ⟨E, hd⟩ := hL.dict
      exact ne_of hd hx (by intro z; cases z)
    have nlx : l ≠ x := by
      obtain ⟨vs, hl, _⟩ := hL.tl
      exact ne_of hl hx (by intro z; cases z)
    have tk14 : ∀ b xs, H b = some (.tup xs) → H4 b = some (.tup xs) := fun b xs e => k14 _ _ e (ne_of e hx (by intro z; cases z))
    have hL4 : LedAt w C H4 p d l L := hL.other (d' := x) (l' := x) (fun b o e n _ => k14 b o e n) ndx ndx nlx nlx npx npx tk14
    have hob : ObjB CB H4 x p rl sd := ⟨dx, _, hx4, by rw [lookup_putF, if_neg (by decide +kernel), lookup_putF, if_neg (by decide +kernel), lookup_putF, if_pos rfl], by rw [lookup_putF, if_neg (by decide +kernel), lookup_putF, if_pos rfl], by rw [lookup_putF, if_pos rfl], fun m h1 h2 h3 => by
      rw [lookup_putF, if_neg h3, lookup_putF, if_neg h2, lookup_putF, if_neg h1]
      rfl⟩
    have bk4 : Bk (repB CB) w C H4 p d l L ⟨x, fun a => a = x ∨ a = rl ∨ a = sd, [], v0⟩ := by
      refine ⟨hL4, ⟨rl, sd, [], ⟨hob, hrl4, hsd4⟩, Dic.nil, Nat.le_refl _, fun a => Iff.rfl⟩, ⟨fun j t h => (by cases h), fun h j c => ?_⟩, ?_, fun t h => absurd h List.not_mem_nil, Nat.zero_le _⟩
      · have h1 := Nat.two_pow_pos (h + 1)
        have h2 := Nat.mul_le_mul_right (2 ^ (h + 1)) (show 1 ≤ j + 1 by omega)
        have c : (j + 1) * 2 ^ (h + 1) ≤ 0 := c
        omega
      · obtain ⟨_, _, hp, _⟩ := hL.ob
        obtain ⟨E, hd⟩ := hL.dict
        obtain ⟨vs, hl, _⟩ := hL.tl
        rintro a (rfl | rfl | rfl)
        · exact ⟨npx.symm, ndx.symm, nlx.symm⟩
        · exact ⟨(ne_of_none hp frl).symm, (ne_of_none hd frl).symm, (ne_of_none hl frl).symm⟩
        · exact ⟨(ne_of_none hp fsd).symm, (ne_of_none hd fsd).symm, (ne_of_none hl fsd).symm⟩
    have nax : a ≠ x := ne_of ha hx (by intro z; cases z)
    have nad : a ≠ d := by
      obtain ⟨E, hd⟩ := hL.dict
      exact ne_of ha hd (by intro z; cases z)
    refine ⟨_, rfl, a, rfl, ⟨_, SqL.of (k14 _ _ ha nax)⟩, ?_⟩
    refine for_list (xs := rows.map V.str) (fun k σ H' => ∃ (F : Addr → Prop) (L' : List Th) (v' : Lev) (y : Option V), Bk (repB CB) w C H' p d l L' ⟨x, F, rows.take k, v'⟩ ∧ making (rows.drop k) k L' v' = making rows 0 L v0 ∧ Chg H H' d l (fun b => b = x) ∧ Grew H (fun b => b = x) F ∧
      L'.length ≤ L.length + 12 * k ∧ σ = [some (.ref x), some (.ref p), some (.ref a), y]) ⟨fun a => a = x ∨ a = rl ∨ a = sd, L, v0, y, bk4, rfl, ⟨fun b o e n _ _ => k14 b o e n, tk14⟩, ?_, Nat.le_refl _, rfl⟩ ?_ ?_ ?_
    · rintro b (rfl | rfl | rfl)
      · exact .inl rfl
      · exact .inr frl
      · exact .inr fsd
    · rintro k σ H' _ ⟨F, L', v', y, bk, _, cg, _, _, rfl⟩
      exact SqL.of (cg.out _ _ ha nax nad nal)
    · rintro k u σ H' hu ⟨F, L', v', y, bk, hmk, cg, gr, hl', rfl⟩
      have hkl : k < rows.length := by
        have := (List.getElem?_eq_some_iff.mp hu).1
        rw [List.length_map] at this
        exact this
      rw [List.getElem?_map, List.getElem?_eq_getElem hkl] at hu
      cases hu
      have ot := hok _ (List.getElem_mem hkl)
      obtain ⟨dx5, fs5, hb5, hno5⟩ := (repB CB).ob bk.at_
      have tl : (rows.take k).length = k := by rw [List.length_take]; omega
      refine ⟨_, rfl, x, dx5, fs5, rfl, hb5, hno5 _ (by decide +kernel), _, rfl, p, d, l, L', ⟨x, F, rows.take k, v'⟩, .str rows[k], rfl, bk, .str _ (sl40 (by have := ot.1; omega)), by omega, fun z => ?_, fun _ z => ?_, fun t e1 e2 _ H6 F' cg2 gr2 bk2 => ?_⟩
      · have : rowStr rows[k] = false := z
        rw [okS_row ot] at this
        cases this
      · have z : (rows.take k).length = 1024 := z
        omega
      cases e1
      have bk2 : Bk (repB CB) w C H6 p d l (settle (k + 1) k rows[k] L' v').1 ⟨x, F', rows.take (k + 1), (settle (k + 1) k rows[k] L' v').2⟩ := by
        have e : rows.take (k + 1) = rows.take k ++ [rows[k]] := by
          rw [List.take_add_one, List.getElem?_eq_getElem hkl]
          rfl
        rw [e]
        have bk2 : Bk (repB CB) w C H6 p d l (settle ((rows.take k).length + 1) (rows.take k).length rows[k] L' v').1 ⟨x, F', rows.take k ++ [rows[k]], (settle ((rows.take k).length + 1) (rows.take k).length rows[k] L' v').2⟩ := bk2
        rw [tl] at bk2
        exact bk2
      have notF : ∀ b o, H b = some o → b ≠ x → ¬ F b := fun b o e n z => by
        rcases gr b z with y | y
        · exact n y
        · rw [e] at y
          cases y
      have hlen2 := settle_len (n := k + 1) (i := k) (t := rows[k]) (L := L') (v := v') (by omega)
      have hb12 : blocks (k + 1) k ≤ 12 := blocks_le (by omega)
      refine ⟨F', _, _, _, bk2, ?_, ⟨fun b o e n1 n2 n3 => cg2.out b o (cg.out b o e n1 n2 n3) (notF b o e n1) n2 n3, fun b xs e => cg2.tup b xs (cg.tup b xs e)⟩, fun b hb => ?_, by omega, rfl⟩
      · rw [← hmk, List.drop_eq_getElem_cons hkl]
        rfl
      · rcases gr2 b hb with z | z
        · exact gr b z
        · cases hH : H b with
          | none => exact .inr rfl
          | some o =>
            left
            apply Classical.byContradiction
            intro n1
            have z : H' b = none := z
            by_cases n2 : b = d
            · subst n2
              obtain ⟨E, hd⟩ := bk.led.dict
              rw [hd] at z
              cases z
            · by_cases n3 : b = l
              · subst n3
                obtain ⟨vs, hl, _⟩ := bk.led.tl
                rw [hl] at z
                cases z
              · rw [cg.out b o hH n1 n2 n3] at z
                cases z
    · rintro σ H' ⟨F, L', v', y, bk, hmk, cg, gr, hl', rfl⟩
      rw [List.length_map, List.drop_length] at hmk
      rw [List.length_map, List.take_length] at bk
      have hmk : (L', v') = making rows 0 L v0 := hmk
      refine q3 rows rfl hok hul2 H' F cg gr ?_
      rw [← hmk]
      exact bk
end

/-! ### != of two objects of a class without __eq__ and __ne__ of its own -/
structure PlainC (K : PySem.W.Frag) (C : Addr) : Prop where
  m : PySem.W.mroIn K C (.type "object") = some true
  eq : PySem.W.findIn K (.ref C) "__eq__" = some (some (.builtin "object.__eq__"))
  ne : PySem.W.findIn K (.ref C) "__ne__" = some (some (.builtin "object.__ne__"))
section
open PySem.SeqAt
variable {prog : Program} {w : World} {A : Around} {E : Value → Shared → Prop} {s : Shared} {K : PySem.W.Frag} {x y C : Addr} {ox oy : Obj} {od oe : Option Obj}
theorem pl_ifBoundE {args : List Value} {Q : Option Value → Shared → Prop} (X : K.In s.heap) (I : PySem.W.InstAt s.heap x ox C od) (hs : PySem.W.findIn K (.ref C) "__eq__" = some (some (.builtin "object.__eq__")))
    (h : wpAny (model prog w) A (call (.builtin "object.__eq__") (.ref x :: args)) (fun v => Q (some v)) E s) : wpAny (model prog w) A (callSpecialIfBound? (.ref x) "__eq__" args) Q E s := by
  simp only [callSpecialIfBound?, bindSpecialIfBound?]
  refine wpAny_holding (wpAny_bind (wpAny_bind (wpAny_bind (I.type.here ((PySem.W.looks_findIn X hs).here ?_)))))
  refine wpAny_bind (wpAny_askSetting (wpAny_ite ?_))
  have fin : wpAny (model prog w) A (call (.builtin "object.__eq__") ([.ref x] ++ args) >>= fun v => pure (some v)) Q E s := wpAny_bind (wpAny_mono h (fun v s' h' => wpAny_pure h') fun _ _ h' => h')
  split
  · exact wpAny_bind (wpAny_of_eq (F.cmp_object.eq.bind _) (wpAny_pure (by exact fin)))
  · exact wpAny_tryCatch (wpAny_bind (wpAny_of_eq (F.cmp_object.eq.bind _) (wpAny_pure (by exact fin))))
theorem pl_eq_same {Q : Option Value → Shared → Prop} (X : K.In s.heap) (I : PySem.W.InstAt s.heap x ox C od) (p : PlainC K C) (hq : Q (some (.bool true)) s) : wpAny (model prog w) A (callSpecialIfBound? (.ref x) "__eq__" [.ref x]) Q E s :=
  pl_ifBoundE X I p.eq (wpAny_call (codeAny_call_builtin F.cmp_object.eq.plain F.cmpEntry_eq (PySem.W.check_slot F.cmpKind_eq F.cmpSplit_eq (I.type.andThen (PySem.W.looks_mroIn X p.m)) (F.cmpArgs_eq _ _) (objEq_entry_same hq))))
theorem pl_eq_other {Q : Option Value → Shared → Prop} (X : K.In s.heap) (I : PySem.W.InstAt s.heap x ox C od) (J : PySem.W.InstAt s.heap y oy C oe) (p : PlainC K C) (n : x ≠ y) (hq : Q (some .notImplemented) s) : wpAny (model prog w) A (callSpecialIfBound? (.ref x) "__eq__" [.ref y]) Q E s :=
  pl_ifBoundE X I p.eq (wpAny_call (codeAny_call_builtin F.cmp_object.eq.plain F.cmpEntry_eq (PySem.W.check_slot F.cmpKind_eq F.cmpSplit_eq (I.type.andThen (PySem.W.looks_mroIn X p.m)) (F.cmpArgs_eq _ _) (objEq_entry_other n I.at_ J.at_ (by rw [I.cls]; intro z; cases z) hq))))
theorem pl_ne_same {Q : Fin → Shared → Prop} (hu : A.units < cLine) (X : K.In s.heap) (I : PySem.W.InstAt s.heap x ox C od) (p : PlainC K C) (hq : Q (.done (.ret (.bool false))) s) : wpAny (model prog w) A (Builtin.«object.__ne__» ⟨[.ref x, .ref x], []⟩) Q E s := by
  unfold Builtin.«object.__ne__»
  repeat (first | with_reducible refine wpAny_cRoomFor hu ?_ | with_reducible refine pl_eq_same X I p ?_ | wp_step)
  exact hq
theorem pl_ne_other {Q : Fin → Shared → Prop} (hu : A.units < cLine) (X : K.In s.heap) (I : PySem.W.InstAt s.heap x ox C od) (J : PySem.W.InstAt s.heap y oy C oe) (p : PlainC K C) (n : x ≠ y) (hq : Q (.done (.ret .notImplemented)) s) : wpAny (model prog w) A (Builtin.«object.__ne__» ⟨[.ref x, .ref y], []⟩) Q E s := by
  unfold Builtin.«object.__ne__»
  repeat (first | with_reducible refine wpAny_cRoomFor hu ?_ | with_reducible refine pl_eq_other X I J p n ?_ | wp_step)
  exact hq
theorem pl_ifBound {args : List Value} {Q : Option Value → Shared → Prop} (X : K.In s.heap) (I : PySem.W.InstAt s.heap x ox C od) (hs : PySem.W.findIn K (.ref C) "__ne__" = some (some (.builtin "object.__ne__")))
    (h : wpAny (model prog w) A (call (.builtin "object.__ne__") (.ref x :: args)) (fun v => Q (some v)) E s) : wpAny (model prog w) A (callSpecialIfBound? (.ref x) "__ne__" args) Q E s := by
  simp only [callSpecialIfBound?, bindSpecialIfBound?]
  refine wpAny_holding (wpAny_bind (wpAny_bind (wpAny_bind (I.type.here ((PySem.W.looks_findIn X hs).here ?_)))))
  refine wpAny_bind (wpAny_askSetting (wpAny_ite ?_))
  have fin : wpAny (model prog w) A (call (.builtin "object.__ne__") ([.ref x] ++ args) >>= fun v => pure (some v)) Q E s := wpAny_bind (wpAny_mono h (fun v s' h' => wpAny_pure h') fun _ _ h' => h')
  split
  · exact wpAny_bind (wpAny_of_eq (F.cmp_object.ne.bind _) (wpAny_pure (by exact fin)))
  · exact wpAny_tryCatch (wpAny_bind (wpAny_of_eq (F.cmp_object.ne.bind _) (wpAny_pure (by exact fin))))
theorem pl_try_same {Q : Option Value → Shared → Prop} (hu : A.units + 1 < cLine) (X : K.In s.heap) (I : PySem.W.InstAt s.heap x ox C od) (p : PlainC K C) (hq : Q (some (.bool false)) s) : wpAny (model prog w) A (tryCompare (.ref x) "__ne__" (.ref x)) Q E s := by
  simp only [tryCompare]
  exact wpAny_bind (pl_ifBound X I p.ne (wpAny_call (codeAny_call_builtin F.cmp_object.ne.plain F.cmpEntry_ne (PySem.W.check_slot F.cmpKind_ne F.cmpSplit_ne (I.type.andThen (PySem.W.looks_mroIn X p.m)) (F.cmpArgs_ne _ _) (pl_ne_same (A := A.in1) hu X I p (wpAny_pure hq))))))
theorem pl_try_other {Q : Option Value → Shared → Prop} (hu : A.units + 1 < cLine) (X : K.In s.heap) (I : PySem.W.InstAt s.heap x ox C od) (J : PySem.W.InstAt s.heap y oy C oe) (p : PlainC K C) (n : x ≠ y) (hq : Q none s) : wpAny (model prog w) A (tryCompare (.ref x) "__ne__" (.ref y)) Q E s := by
  simp only [tryCompare]
  exact wpAny_bind (pl_ifBound X I p.ne (wpAny_call (codeAny_call_builtin F.cmp_object.ne.plain F.cmpEntry_ne (PySem.W.check_slot F.cmpKind_ne F.cmpSplit_ne (I.type.andThen (PySem.W.looks_mroIn X p.m)) (F.cmpArgs_ne _ _) (pl_ne_other (A := A.in1) hu X I J p n (wpAny_pure hq))))))
theorem pl_rc_same {Q : Value → Shared → Prop} (hu : A.units + 1 < cLine) (X : K.In s.heap) (I : PySem.W.InstAt s.heap x ox C od) (p : PlainC K C) (hq : Q (.bool false) s) : wpAny (model prog w) A (richCompare .NotEq (.ref x) (.ref x)) Q E s := by
  simp only [richCompare, cmpInfo_NotEq, oneThing_ref]
  refine wpAny_holding (wpAny_bind (wpAny_cRoomFor (Nat.lt_of_succ_lt hu) ?_))
  refine wpAny_bind (I.type.here ?_)
  refine wpAny_bind (I.type.here ?_)
  rw [show (Value.ref C != Value.ref C) = false from by simp]
  simp only [Bool.false_eq_true, if_false]
  refine wpAny_bind (wpAny_pure ?_)
  simp only [Bool.false_eq_true, if_false]
  exact wpAny_bind (pl_try_same hu X I p (wpAny_pure hq))
theorem pl_rc_other {Q : Value → Shared → Prop} (hu : A.units + 1 < cLine) (X : K.In s.heap) (I : PySem.W.InstAt s.heap x ox C od) (J : PySem.W.InstAt s.heap y oy C oe) (p : PlainC K C) (n : x ≠ y) (hq : Q (.bool true) s) : wpAny (model prog w) A (richCompare .NotEq (.ref x) (.ref y)) Q E s := by
  simp only [richCompare, cmpInfo_NotEq, oneThing_ref]
  refine wpAny_holding (wpAny_bind (wpAny_cRoomFor (Nat.lt_of_succ_lt hu) ?_))
  refine wpAny_bind (I.type.here ?_)
  refine wpAny_bind (J.type.here ?_)
  rw [show (Value.ref C != Value.ref C) = false from by simp]
  simp only [Bool.false_eq_true, if_false]
  refine wpAny_bind (wpAny_pure ?_)
  simp only [Bool.false_eq_true, if_false, Bool.not_false, if_true]
  refine wpAny_bind (pl_try_other hu X I J p n ?_)
  refine wpAny_bind (pl_try_other hu X J I p (Ne.symm n) ?_)
  exact wpAny_bind (wpAny_rule (wpAny_bind (wpAny_isSame_ref_other n I.at_ J.at_ (by rw [I.cls]; intro z; cases z) (wpAny_pure hq))))
end
def rNeI (C : Addr) : R2 := fun x y H Q => ∃ (a b dx dy : Addr) (fs gs : List (Str × V)), x = .ref a ∧ y = .ref b ∧ H a = some (.ins C dx fs) ∧ H b = some (.ins C dy gs) ∧ Q (.bl (!decide (a = b))) H
theorem op_neI {X : Cx} {C : Addr} (hu : X.A.units + 1 < cLine) (p : PlainC X.K C) : OpR X (compareOp .NotEq) (rNeI C) := by
  intro pins s σ H x y v u Q I rx ry h
  obtain ⟨a, b, dx, dy, fs, gs, rfl, rfl, ha, hb, q⟩ := h
  cases rx
  cases ry
  obtain ⟨mA, O, _⟩ := ins_get I.hok ha
  obtain ⟨od, J, _⟩ := O.look
  obtain ⟨mB, O2, _⟩ := ins_get I.hok hb
  obtain ⟨oe, J2, _⟩ := O2.look
  show wpAny _ _ (richCompare .NotEq (.ref a) (.ref b)) _ _ s
  by_cases z : a = b
  · subst z
    refine pl_rc_same hu I.kIn J p ⟨_, H, I, ?_, q⟩
    rw [decide_eq_true rfl]
    rfl
  · refine pl_rc_other hu I.kIn J J2 p z ⟨_, H, I, ?_, q⟩
    rw [decide_eq_false z]
    rfl

/-- nothing but the object at a has changed -/
def But (a : Addr) (H H' : Hp) : Prop := ∀ z o, H z = some o → z ≠ a → H' z = some o
theorem But.trans {a : Addr} {H H1 H2 : Hp} (x : But a H H1) (y : But a H1 H2) : But a H H2 := fun z o e n => y z o (x z o e n) n
theorem But.of {a : Addr} {H H' : Hp} (s : Same H H') : But a H H' := fun z o e _ => s z o e
section
variable {CB : Addr} {R : Rep CB} {w : World} {C : Addr} {H H' : Hp} {p d l : Addr} {L : List Th} {x : BS}
theorem Bk.but {a : Addr} (h : Bk R w C H p d l L x) (k : But a H H') (np : a ≠ p) (nd : a ≠ d) (nl : a ≠ l) (nf : ¬ x.F a) (t : ∀ b xs, H b = some (.tup xs) → H' b = some (.tup xs)) : Bk R w C H' p d l L x :=
  ⟨h.led.other (d' := a) (l' := a) (fun z o e n _ => k z o e n) nd.symm nd.symm nl.symm nl.symm np.symm np.symm t, R.frame h.at_ fun z o hF e => k z o e fun y => nf (y ▸ hF), h.good, h.own, h.ok, h.few⟩
/-- a new address is none of it -/
theorem Bk.new {a : Addr} (h : Bk R w C H p d l L x) (e : H a = none) : a ≠ p ∧ a ≠ d ∧ a ≠ l ∧ ¬ x.F a := by
  obtain ⟨_, _, hp, _⟩ := h.led.ob
  obtain ⟨E, hd⟩ := h.led.dict
  obtain ⟨vs, hl, _⟩ := h.led.tl
  refine ⟨(ne_of_none hp e).symm, (ne_of_none hd e).symm, (ne_of_none hl e).symm, fun hF => ?_⟩
  obtain ⟨o, ho⟩ := R.alive h.at_ a hF
  rw [e] at ho
  cases ho
end
theorem But.tups {lk : Addr} {H H' : Hp} (k : But lk H H') {xs : List V} (e : H lk = some (.lst xs)) : ∀ b xs, H b = some (.tup xs) → H' b = some (.tup xs) := fun b ys z => k b _ z (ne_of z e (by intro z; cases z))

/-! ### the program's side: two books looked at -/
structure TLk (K : PySem.W.Frag) (mg : Str → Option Value) (CL : Addr) : Prop where
  cl : Cls K CL
  nO : NoAttr K CL "_one"
  nT : NoAttr K CL "_other"
  nK : NoAttr K CL "looks"
  g : mg "Looking" = some (.ref CL)
def LkAt (CL : Addr) (H : Hp) (q b c lk : Addr) : Prop := ∃ dx fs, H q = some (.ins CL dx fs) ∧ fs.lookup ("_one" : Str) = some (V.ref b) ∧ fs.lookup ("_other" : Str) = some (V.ref c) ∧ fs.lookup ("looks" : Str) = some (V.ref lk) ∧ ∀ m : Str, m ≠ "_one" → m ≠ "_other" → m ≠ "looks" → fs.lookup m = none
theorem LkAt.keep {CL : Addr} {H H' : Hp} {q b c lk : Addr} (h : LkAt CL H q b c lk) (k : ∀ o, H q = some o → H' q = some o) : LkAt CL H' q b c lk := by
  obtain ⟨dx, fs, h1, h2⟩ := h
  exact ⟨dx, fs, k _ h1, h2⟩
def spLkInit {CB : Addr} (w : World) (C CL cT : Addr) : Sp := fun vs H Q E => ∃ (q dx : Addr) (p d l : Addr) (L : List Th) (x : BS) (p' d' l' : Addr) (L' : List Th) (y : BS), vs = [.ref q, .ref x.b, .ref y.b] ∧ H q = some (.ins CL dx []) ∧ Bk (repB CB) w C H p d l L x ∧ Bk (repB CB) w C H p' d' l' L' y ∧
  (p = p' → ∀ lk H', H lk = none → LkAt CL H' q x.b y.b lk → H' lk = some (.lst []) → But q H H' → Q .non H') ∧ (p ≠ p' → E (.ref cT) none H)
def spLkAlike {CB : Addr} (w : World) (C CL : Addr) : Sp := fun vs H Q _ => ∃ (q lk p d l : Addr) (L : List Th) (x y : BS) (ls : List Look) (h j : Nat), vs = [.ref q, .int (h : Int), .int (j : Int)] ∧ LkAt CL H q x.b y.b lk ∧ Bk (repB CB) w C H p d l L x ∧ Bk (repB CB) w C H p d l L y ∧ LK H lk ls ∧
  (j + 1) * 2 ^ h ≤ min x.rows.length y.rows.length ∧ ls.length ≤ 100000 ∧ ∀ H', But lk H H' → LK H' lk (ls ++ [(h, j, alike x.rows y.rows h j)]) → Q (.bl (alike x.rows y.rows h j)) H'
def spLkFirst {CB : Addr} (w : World) (C CL : Addr) : Sp := fun vs H Q _ => ∃ (q lk p d l : Addr) (L : List Th) (x y : BS) (ls : List Look) (h j : Nat), vs = [.ref q, .int (h : Int), .int (j : Int)] ∧ LkAt CL H q x.b y.b lk ∧ Bk (repB CB) w C H p d l L x ∧ Bk (repB CB) w C H p d l L y ∧ LK H lk ls ∧
  (lk ≠ p ∧ lk ≠ d ∧ lk ≠ l ∧ ¬ x.F lk ∧ ¬ y.F lk) ∧ (j + 1) * 2 ^ h ≤ min x.rows.length y.rows.length ∧ ls.length ≤ 1000 ∧ ∀ H', But lk H H' → LK H' lk (ls ++ (descend x.rows y.rows h j).2) → Q (.int ((descend x.rows y.rows h j).1 : Nat)) H'
theorem LK.lst {H : Hp} {lk : Addr} {ls : List Look} (h : LK H lk ls) : ∃ xs, H lk = some (.lst xs) := let ⟨_, e, _⟩ := h; ⟨_, e⟩
section
variable {P : Program} {w : World} {K : PySem.W.Frag} {mg : Str → Option Value} {base : Heap} {C CB CL cR cP cB cS cF cT : Addr}
theorem ok_lkInit (D : Mth K CL "__init__" "Looking.__init__" s_Looking___init__ ["self", "one", "other"]) (T_Looking : TLk K mg CL) (T_Book : TBo K mg CB) (hPl : PlainC K C) (X_Strange : ExT K mg "Strange" cT) :
    MOk P w K mg base (L2.CX P w) CL "__init__" 1 ["self", "one", "other"] (spLkInit (CB := CB) w C CL cT) := by
  refine m_mkX D sc_Looking___init__ (fun vs H Q E h => ?_) (fun f cdv A outer s H vs Q E hr h => ?_)
  · obtain ⟨q, dx, p, d, l, L, x, p', d', l', L', y, rfl, _⟩ := h
    rfl
  · obtain ⟨q, dx, p, d, l, L, x, p', d', l', L', y, rfl, hq, bx, by_, q1, q2⟩ := h
    refine ⟨_, (pss_cons (ps_if (pt_cmpR (op_neI (hu_of hr) hPl) (pe_fld (pv 1) rfl) (pe_fld (pv 2) rfl) (nomark _)) (pss_one (ps_own X_Strange rfl (takes_of rfl rfl rfl rfl) (by rfl))) pss_nil)
      (pss_cons (ps_fld (pv 0) (pv 1) rfl)
      (pss_cons (ps_fld (pv 0) (pv 2) rfl)
      (pss_one (ps_fld (pv 0) (pe_lst pa_nil) rfl))))), ?_⟩
    obtain ⟨rl, sd, kvs, m, _⟩ := bx.at_
    obtain ⟨rl', sd', kvs', m', _⟩ := by_.at_
    obtain ⟨dx1, fs1, hb1, hfL1, _⟩ := m.ob
    obtain ⟨dx2, fs2, hb2, hfL2, _⟩ := m'.ob
    obtain ⟨dp, fp, hp, hpS, _⟩ := bx.led.ob
    obtain ⟨dp', fp', hp', hpS', _⟩ := by_.led.ob
    refine ⟨_, rfl, x.b, CB, dx1, fs1, _, rfl, hb1, T_Book.cl, T_Book.nL, hfL1, _, rfl, y.b, CB, dx2, fs2, _, rfl, hb2, T_Book.cl, T_Book.nL, hfL2, p, p', dp, dp', fp, fp', rfl, rfl, hp, hp', _, rfl, ?_⟩
    by_cases e : p = p'
    · refine iteF' (by rw [decide_eq_true e]; rfl) ?_
      refine ⟨_, rfl, _, rfl, q, CL, dx, _, rfl, hq, T_Looking.cl, T_Looking.nO, (by show 0 < 1000; decide), ?_⟩
      refine ⟨_, rfl, _, rfl, q, CL, dx, _, rfl, upd_same, T_Looking.cl, T_Looking.nT, (by show 1 < 1000; decide), ?_⟩
      refine ⟨Nat.zero_le _, fun lk hlk => ?_⟩
      have k2 : But q H (upd (upd H q (.ins CL dx (putF "_one" (.ref x.b) []))) q (.ins CL dx (putF "_other" (.ref y.b) (putF "_one" (.ref x.b) [])))) := fun z o e n => by rw [upd_ne n, upd_ne n]; exact e
      have hq2 : (upd (upd H q (.ins CL dx (putF "_one" (.ref x.b) []))) q (.ins CL dx (putF "_other" (.ref y.b) (putF "_one" (.ref x.b) [])))) q = some (.ins CL dx (putF "_other" (.ref y.b) (putF "_one" (.ref x.b) []))) := upd_same
      have nlk : q ≠ lk := ne_of_none hq2 hlk
      refine ⟨_, rfl, q, CL, dx, _, rfl, (by rw [upd_ne nlk]; exact hq2), T_Looking.cl, T_Looking.nK, (by show 2 < 1000; decide), ?_⟩
      have flk : H lk = none := by
        cases z : H lk with
        | none => rfl
        | some o =>
          rw [k2 _ _ z nlk.symm] at hlk
          cases hlk
      refine q1 e lk _ flk ⟨dx, _, upd_same, by rw [lookup_putF, if_neg (by decide +kernel), lookup_putF, if_neg (by decide +kernel), lookup_putF, if_pos rfl], by rw [lookup_putF, if_neg (by decide +kernel), lookup_putF, if_pos rfl], by rw [lookup_putF, if_pos rfl], fun m h1 h2 h3 => ?_⟩ ?_ fun z o e n => ?_
      · rw [lookup_putF, if_neg h3, lookup_putF, if_neg h2, lookup_putF, if_neg h1]
        rfl
      · rw [upd_ne nlk.symm, upd_same]
      · rw [upd_ne n, upd_ne (ne_of_none e flk)]
        exact k2 _ _ e n
    · exact iteT' (by rw [decide_eq_false e]; rfl) (q2 e)
theorem ok_lkAlike (D : Mth K CL "alike" "Looking.alike" s_Looking_alike ["self", "height", "number"]) (T_Looking : TLk K mg CL) (T_Book : TBo K mg CB) (M_Book_sum_of : MOk P w K mg base (L2.CX P w) CB "sum_of" 2 ["self", "height", "number"] (spSumOf (repB CB) cB)) :
    MOk P w K mg base CX0 CL "alike" 3 ["self", "height", "number"] (spLkAlike (CB := CB) w C CL) := by
  obtain ⟨f_Book_sum_of, d_Book_sum_of, G_Book_sum_of, m_Book_sum_of, b_Book_sum_of⟩ := M_Book_sum_of.ex
  refine m_mk D sc_Looking_alike (fun vs H Q E h => ?_) (fun f cdv A outer s H vs Q E hr h => ?_)
  · obtain ⟨q, lk, p, d, l, L, x, y, ls, h, j, rfl, _⟩ := h
    rfl
  · obtain ⟨q, lk, p, d, l, L, x, y, ls, h, j, rfl, hq, bx, by_, hl, hin, hlen, qq⟩ := h
    refine ⟨_, (pss_cons (ps_set (i := 3) sc_Looking_alike.nd rfl (.inl rfl) (pe_cmpR op_eq (pe_meth (pe_fld (pv 0) rfl) T_Book.cl m_Book_sum_of G_Book_sum_of (hr.mono (by decide)) b_Book_sum_of .nil passL (pa_cons (pv 1) (pa_cons (pv 2) pa_nil))) (pe_meth (pe_fld (pv 0) rfl) T_Book.cl m_Book_sum_of G_Book_sum_of (hr.mono (by decide)) b_Book_sum_of .nil passL (pa_cons (pv 1) (pa_cons (pv 2) pa_nil))) (nomark _)))
      (pss_cons (ps_expr (pe_bm PySem.F.plainAttrs_list PySem.F.slot_list_append PySem.F.type_list_append mt_append (pe_fld (pv 0) rfl) (pa_cons (pe_tup (pa_cons (pv 1) (pa_cons (pv 2) (pa_cons (pv 3) pa_nil)))) pa_nil)))
      (pss_one (ps_ret (pv 3))))), ?_⟩
    obtain ⟨dq, fq, hq1, hO, hT, hK, hno⟩ := hq
    obtain ⟨dx, fs, hb, hnb⟩ := (repB CB).ob bx.at_
    have c1 : (j + 1) * 2 ^ h ≤ x.rows.length := Nat.le_trans hin (Nat.min_le_left _ _)
    have c2 : (j + 1) * 2 ^ h ≤ y.rows.length := Nat.le_trans hin (Nat.min_le_right _ _)
    refine ⟨_, rfl, q, CL, dq, fq, _, rfl, hq1, T_Looking.cl, T_Looking.nO, hO, x.b, dx, fs, rfl, hb, hnb _ (by decide +kernel), _, rfl, _, rfl, p, x, _, _, rfl, bx.at_, .int _, .int _, bx.few, fun z => ?_, fun g k e H1 s1 => ?_⟩
    · rw [blockV_some c1] at z
      cases z
    rw [blockV_some c1] at e
    cases e
    have by1 := by_.same s1
    obtain ⟨dx2, fs2, hb2, hnb2⟩ := (repB CB).ob by1.at_
    have hq2 := s1 _ _ hq1
    refine ⟨_, rfl, q, CL, dq, fq, _, rfl, hq2, T_Looking.cl, T_Looking.nT, hT, y.b, dx2, fs2, rfl, hb2, hnb2 _ (by decide +kernel), _, rfl, _, rfl, p, y, _, _, rfl, by1.at_, .int _, .int _, by_.few, fun z => ?_, fun g k e H2 s2 => ?_⟩
    · rw [blockV_some c2] at z
      cases z
    rw [blockV_some c2] at e
    cases e
    have s12 := s1.trans s2
    have ea : decide (V.int ((x.v h j : Nat) : Int) = V.int ((y.v h j : Nat) : Int)) = alike x.rows y.rows h j := by
      have key := sums_eq bx.led.nd bx.good by_.good h j j c1 c2
      unfold alike
      by_cases z : x.v h j = y.v h j
      · rw [decide_eq_true (by rw [z]), decide_eq_true (key.mp z)]
      · rw [decide_eq_false (fun y => z (by injection y with y; omega)), decide_eq_false fun y => z (key.mpr y)]
    refine ⟨rfl, ?_⟩
    rw [ea]
    obtain ⟨ts, h1, h2⟩ := hl
    have h1' := s12 _ _ h1
    have h2' := Paired.mapP h2 fun _ _ e => s12 _ _ e
    refine ⟨_, rfl, q, CL, dq, fq, _, rfl, s12 _ _ hq1, T_Looking.cl, T_Looking.nK, hK, .inl ⟨rfl, _, SqL.of h1'⟩, _, rfl, _, rfl, _, rfl, sl40 (by show 3 ≤ 1000000; decide), fun t ht => ?_⟩
    refine ⟨lk, _, .ref t, rfl, rfl, same_upd ht _ _ h1', ?_, ?_⟩
    · rw [List.length_map, Paired.length h2]
      exact Nat.lt_of_lt_of_le (show ls.length < 1000000 by omega) (by decide)
    refine ⟨_, rfl, qq _ (fun z o e n => ?_) (LK.snoc (q := (h, j, alike x.rows y.rows h j)) h1' h2' ht)⟩
    rw [upd_ne n]
    exact same_upd ht _ _ (s12 _ _ e)
end

section
variable {P : Program} {w : World} {K : PySem.W.Frag} {mg : Str → Option Value} {base : Heap} {C CB CL cR cP cB cS cF cT : Addr}
theorem ok_lkFirst (D : Mth K CL "first_in" "Looking.first_in" s_Looking_first_in ["self", "height", "number"]) (T_Looking : TLk K mg CL) (B : Bi mg) (M_Looking_alike : MOk P w K mg base CX0 CL "alike" 3 ["self", "height", "number"] (spLkAlike (CB := CB) w C CL)) :
    MOk P w K mg base CX0 CL "first_in" 4 ["self", "height", "number"] (spLkFirst (CB := CB) w C CL) := by
  obtain ⟨f_Looking_alike, d_Looking_alike, G_Looking_alike, m_Looking_alike, b_Looking_alike⟩ := M_Looking_alike.ex
  refine m_mk D sc_Looking_first_in (fun vs H Q E h => ?_) (fun f cdv A outer s H vs Q E hr h => ?_)
  · obtain ⟨q, lk, p, d, l, L, x, y, ls, h, j, rfl, _⟩ := h
    rfl
  · obtain ⟨q, lk, p, d, l, L, x, y, ls, h, j, rfl, hq, bx, by_, hl, ⟨np, nd, nl, nx, ny⟩, hin, hlen, qq⟩ := h
    refine ⟨_, (pss_cons (ps_for PassesOwn.never rfl (pi_revR (by rfl) B.reversed (prg_1 (by rfl) B.range (pv 1))) (pg_name (i := 3) sc_Looking_first_in.nd rfl (.inl rfl))
      (pss_cons (ps_set (i := 2) sc_Looking_first_in.nd rfl (.inl rfl) (pe_op op_mul pe_int (pv 2)))
      (pss_one (ps_if (pt_val (pe_meth (pv 0) T_Looking.cl m_Looking_alike G_Looking_alike (hr.mono (by decide)) b_Looking_alike .nil pass0 (pa_cons (pv 3) (pa_cons (pv 2) pa_nil)))) (pss_one (ps_set (i := 2) sc_Looking_first_in.nd rfl (.inl rfl) (pe_op op_add (pv 2) pe_int))) pss_nil))))
      (pss_one (ps_ret (pv 2)))), ?_⟩
    have hn : min x.rows.length y.rows.length ≤ 1024 := Nat.le_trans (Nat.min_le_left _ _) bx.few
    have hh : h < 1024 := by
      have := (blk_bounds hin).2.2
      omega
    obtain ⟨xs0, hl0⟩ := hl.lst
    have nq : q ≠ lk := by
      obtain ⟨dq, fq, hq1, _⟩ := hq
      exact ne_of hq1 hl0 (by intro z; cases z)
    refine ⟨_, rfl, (h : Int), rfl, by decide, by decide, by omega, by omega, ?_⟩
    have e1 : ((h : Int) - 0).toNat = h := by omega
    rw [e1]
    refine for_rangeC (fun i σ H1 => ∃ (n : Nat) (done : List Look) (y3 : Option V), But lk H H1 ∧ LK H1 lk (ls ++ done) ∧ done.length = i ∧ (n + 1) * 2 ^ (h - i) ≤ min x.rows.length y.rows.length ∧
      descend x.rows y.rows h j = ((descend x.rows y.rows (h - i) n).1, done ++ (descend x.rows y.rows (h - i) n).2) ∧ σ = [some (.ref q), some (.int (h : Int)), some (.int (n : Int)), y3]) ⟨j, [], none, fun _ _ e _ => e, by rw [List.append_nil]; exact hl, rfl, hin, rfl, rfl⟩ ?_ ?_
    · rintro i σ H1 hi ⟨n, done, y3, k1, hl1, hdl, hn1, hde, rfl⟩
      obtain ⟨g, eg⟩ : ∃ g, h - i = g + 1 := ⟨h - i - 1, by omega⟩
      have ei : (0 : Int) + ((h : Nat) : Int) - 1 + (i : Int) * -1 = (g : Int) := by omega
      rw [ei]
      rw [eg] at hn1 hde
      have t1 := k1.tups hl0
      have bx1 := bx.but k1 np nd nl nx t1
      have by1 := by_.but k1 np nd nl ny t1
      have hq1 := hq.keep fun o e => k1 _ _ e nq
      obtain ⟨dq, fq, hq0, hO, hT, hK, hno⟩ := hq1
      refine ⟨_, rfl, _, _, rfl, rfl, .inl ⟨by decide, by decide⟩, ?_⟩
      refine ⟨_, rfl, q, dq, fq, rfl, hq0, hno _ (by decide +kernel) (by decide +kernel) (by decide +kernel), _, rfl, _, rfl, q, lk, p, d, l, L, x, y, ls ++ done, g, 2 * n, ?_, ⟨dq, fq, hq0, hO, hT, hK, hno⟩, bx1, by1, hl1, left_in hn1, ?_, fun H2 k2 hl2 => ?_⟩
      · show [V.ref q, .int (g : Int), .int (2 * (n : Int))] = _
        rw [show (2 : Int) * (n : Int) = ((2 * n : Nat) : Int) by omega]
      · rw [List.length_append]
        omega
      have hde2 : ∀ al : Bool, alike x.rows y.rows g (2 * n) = al → descend x.rows y.rows h j = ((descend x.rows y.rows g (2 * n + al.toNat)).1, (done ++ [(g, 2 * n, al)]) ++ (descend x.rows y.rows g (2 * n + al.toNat)).2) := fun al ha => by
        rw [hde]
        show ((descend x.rows y.rows g (2 * n + (alike x.rows y.rows g (2 * n)).toNat)).1, done ++ (g, 2 * n, alike x.rows y.rows g (2 * n)) :: (descend x.rows y.rows g (2 * n + (alike x.rows y.rows g (2 * n)).toNat)).2) = _
        rw [ha, List.append_assoc]
        rfl
      refine ⟨_, rfl, ?_⟩
      cases ha : alike x.rows y.rows g (2 * n) with
      | true =>
        rw [ha] at hl2
        refine iteT ?_
        refine ⟨_, rfl, _, _, rfl, rfl, ?_⟩
        refine ⟨2 * n + 1, done ++ [(g, 2 * n, true)], some (.int (g : Int)), k1.trans k2, by rw [← List.append_assoc]; exact hl2, by rw [List.length_append, hdl]; rfl, ?_, ?_, ?_⟩
        · rw [show h - (i + 1) = g by omega]
          exact right_in hn1
        · rw [show h - (i + 1) = g by omega]
          exact hde2 true ha
        · show [some (V.ref q), some (V.int (h : Int)), some (V.int (2 * (n : Int) + 1)), some (V.int (g : Int))] = _
          rw [show (2 : Int) * (n : Int) + 1 = ((2 * n + 1 : Nat) : Int) by omega]
      | false =>
        rw [ha] at hl2
        refine iteF ?_
        refine ⟨2 * n, done ++ [(g, 2 * n, false)], some (.int (g : Int)), k1.trans k2, by rw [← List.append_assoc]; exact hl2, by rw [List.length_append, hdl]; rfl, ?_, ?_, ?_⟩
        · rw [show h - (i + 1) = g by omega]
          exact left_in hn1
        · rw [show h - (i + 1) = g by omega]
          exact hde2 false ha
        · show [some (V.ref q), some (V.int (h : Int)), some (V.int (2 * (n : Int))), some (V.int (g : Int))] = _
          rw [show (2 : Int) * (n : Int) = ((2 * n : Nat) : Int) by omega]
    · rintro σ H1 ⟨n, done, y3, k1, hl1, hdl, hn1, hde, rfl⟩
      rw [Nat.sub_self] at hde
      have hde : descend x.rows y.rows h j = (n, done ++ []) := hde
      rw [List.append_nil] at hde
      refine ⟨_, rfl, ?_⟩
      have := qq H1 k1 (by rw [hde]; exact hl1)
      rw [hde] at this
      exact this
end

theorem min_if2 (a b : Nat) : (if (b : Int) < (a : Int) then (b : Int) else (a : Int)) = ((min a b : Nat) : Int) := by
  by_cases c : (b : Int) < (a : Int)
  · rw [if_pos c]
    omega
  · rw [if_neg c]
    omega

section
variable {P : Program} {w : World} {K : PySem.W.Frag} {mg : Str → Option Value} {base : Heap} {C CB CL cR cP cB cS cF cT : Addr}
theorem ok_firstUnlike (D : Dfn K mg "first_unlike" s_first_unlike ["one", "other"]) (T_Looking : TLk K mg CL) (B : Bi mg) (N_Looking : NOk P w K mg base (L2.CX P w) CL 1 ["self", "one", "other"] (spLkInit (CB := CB) w C CL cT)) (M_Book_count : MOk P w K mg base CX0 CB "count" 1 ["self"] (spCount (repB CB))) (T_Book : TBo K mg CB)
    (M_Looking_alike : MOk P w K mg base CX0 CL "alike" 3 ["self", "height", "number"] (spLkAlike (CB := CB) w C CL)) (M_Looking_first_in : MOk P w K mg base CX0 CL "first_in" 4 ["self", "height", "number"] (spLkFirst (CB := CB) w C CL)) (C_parted : COk P w K mg base CX0 "parted" 2 ["count"] spParted) :
    COk P w K mg base (L2.CX P w) "first_unlike" 6 ["one", "other"] (spFU (repB CB) w C cT) := by
  obtain ⟨f_Book_count, d_Book_count, G_Book_count, m_Book_count, b_Book_count⟩ := M_Book_count.ex
  obtain ⟨f_Looking_alike, d_Looking_alike, G_Looking_alike, m_Looking_alike, b_Looking_alike⟩ := M_Looking_alike.ex
  obtain ⟨f_Looking_first_in, d_Looking_first_in, G_Looking_first_in, m_Looking_first_in, b_Looking_first_in⟩ := M_Looking_first_in.ex
  obtain ⟨f_Looking___init__, d_Looking___init__, G_Looking___init__, k_Looking___init__, b_Looking___init__⟩ := N_Looking.ex
  refine c_mkX D sc_first_unlike (fun vs H Q E h => ?_) (fun f cdv A outer s H vs Q E hr h => ?_)
  · rcases h with ⟨p, d, l, L, x, y, rfl, _⟩ | ⟨p, d, l, L, x, p', d', l', L', y, rfl, _⟩ <;> rfl
  · refine ⟨_, (pss_cons (ps_set (i := 2) sc_first_unlike.nd rfl (.inl rfl) (pe_make k_Looking___init__ G_Looking___init__ (hr.mono (by decide)) (by rfl) T_Looking.g b_Looking___init__ .nil (passUp (takes_of rfl rfl rfl rfl)) (pa_cons (pv 0) (pa_cons (pv 1) pa_nil))))
      (pss_cons (ps_set (i := 3) sc_first_unlike.nd rfl (.inl rfl) (pe_callB (id := "min") (call_min2 rfl) (by rfl) B.min (by decide +kernel) (pa_cons (pe_meth0 (pv 0) T_Book.cl m_Book_count G_Book_count (hr.mono (by decide)) b_Book_count .nil pass0) (pa_cons (pe_meth0 (pv 1) T_Book.cl m_Book_count G_Book_count (hr.mono (by decide)) b_Book_count .nil pass0) pa_nil))))
      (pss_cons (ps_for (passes_of rfl) rfl (pi_list (pe_c C_parted hr (by rfl) (pa_cons (pv 3) pa_nil))) (pg_tup rfl (pgs_cons (pg_name (i := 4) sc_first_unlike.nd rfl (.inl rfl)) (pgs_cons (pg_name (i := 5) sc_first_unlike.nd rfl (.inl rfl)) pgs_nil)))
      (pss_one (ps_if (pt_not (pt_val (pe_meth (pv 2) T_Looking.cl m_Looking_alike G_Looking_alike (hr.mono (by decide)) b_Looking_alike .nil pass0 (pa_cons (pv 4) (pa_cons (pv 5) pa_nil))))) (pss_one (ps_ret (pe_tup (pa_cons (pe_meth (pv 2) T_Looking.cl m_Looking_first_in G_Looking_first_in (hr.mono (by decide)) b_Looking_first_in .nil pass0 (pa_cons (pv 4) (pa_cons (pv 5) pa_nil))) (pa_cons (pe_fld (pv 2) rfl) pa_nil))))) pss_nil)))
      (pss_cons (ps_if (pt_cmpR op_eq (pe_meth0 (pv 0) T_Book.cl m_Book_count G_Book_count (hr.mono (by decide)) b_Book_count .nil pass0) (pe_meth0 (pv 1) T_Book.cl m_Book_count G_Book_count (hr.mono (by decide)) b_Book_count .nil pass0) (nomark _)) (pss_one (ps_ret (pe_tup (pa_cons pe_non (pa_cons (pe_fld (pv 2) rfl) pa_nil))))) pss_nil)
      (pss_one (ps_ret (pe_tup (pa_cons (pv 3) (pa_cons (pe_fld (pv 2) rfl) pa_nil))))))))), ?_⟩
    rcases h with ⟨p, d, l, L, x, y, rfl, bx, by_, qq⟩ | ⟨p, d, l, L, x, p', d', l', L', y, rfl, bx, by_, hne, qq⟩
    rotate_left
    · refine ⟨_, rfl, _, rfl, fun q dq nq ndq ne2 => ?_⟩
      have mq := (same_upd (o := .own q) ndq).trans (same_upd (o := .ins CL dq []) (p := q) (by rw [upd_ne ne2.symm]; exact nq))
      exact ⟨q, dq, p, d, l, L, x, p', d', l', L', y, rfl, upd_same, bx.same mq, by_.same mq, fun z => absurd z hne, fun _ => qq _ mq⟩
    refine ⟨_, rfl, _, rfl, fun q dq nq ndq ne2 => ?_⟩
    have mq := (same_upd (o := .own q) ndq).trans (same_upd (o := .ins CL dq []) (p := q) (by rw [upd_ne ne2.symm]; exact nq))
    refine ⟨q, dq, p, d, l, L, x, p, d, l, L, y, rfl, upd_same, bx.same mq, by_.same mq, fun _ lk H1 hlk hat hl0 k1 => ⟨rfl, ?_⟩, fun z => absurd rfl z⟩
    have flk : H lk = none := Same.free mq hlk
    have s1 : Same H H1 := fun z o e => k1 z o (mq z o e) (ne_of_none e nq)
    generalize upd (upd H dq (.own q)) q (.ins CL dq []) = H0 at mq hlk k1
    have bx1 := bx.same s1
    have by1 := by_.same s1
    obtain ⟨dx, fs, hb, hnb⟩ := (repB CB).ob bx1.at_
    refine ⟨_, rfl, x.b, dx, fs, rfl, hb, hnb _ (by decide +kernel), p, x, rfl, bx1.at_, fun H2 s2 => ?_⟩
    have by2 := by1.same s2
    obtain ⟨dx2, fs2, hb2, hnb2⟩ := (repB CB).ob by2.at_
    refine ⟨_, rfl, y.b, dx2, fs2, rfl, hb2, hnb2 _ (by decide +kernel), p, y, rfl, by2.at_, fun H3 s3 => ⟨_, _, rfl, ?_⟩⟩
    rw [min_if2]
    have hfx := bx.few
    have hN : min x.rows.length y.rows.length ≤ 1024 := Nat.le_trans (Nat.min_le_left _ _) hfx
    refine ⟨_, rfl, min x.rows.length y.rows.length, rfl, by omega, fun H4 pp s4 hpp hpl => ?_⟩
    have s14 := (s2.trans s3).trans s4
    have sH4 := s1.trans s14
    obtain ⟨ts, h1, h2⟩ := hpl
    have hl4 := s14 _ _ hl0
    obtain ⟨dq4, fq4, hq4, hO, hT, hK, hno⟩ := hat.keep fun o e => s14 _ _ e
    have nqk : q ≠ lk := ne_of hq4 hl4 (by intro z; cases z)
    have sepx : lk ≠ p ∧ lk ≠ d ∧ lk ≠ l ∧ ¬ x.F lk := bx.new flk
    have sepy : lk ≠ p ∧ lk ≠ d ∧ lk ≠ l ∧ ¬ y.F lk := by_.new flk
    have npk : pp ≠ lk := (ne_of_none ((s2.trans s3) _ _ hl0) hpp).symm
    have hd11 : dig (min x.rows.length y.rows.length) ≤ 11 := dig_small (by omega)
    have hplen : (parts (min x.rows.length y.rows.length)).length ≤ 11 := Nat.le_trans (parts_len _) hd11
    have fin : ∀ (H' : Hp) (ls : List Look) (pl : Option Nat), But lk H4 H' → LK H' lk ls → firstU x.rows y.rows = (pl, ls) → ∀ t, H' t = none → Q (.ref t) (upd H' t (.tup [placeO pl, .ref lk])) := fun H' ls pl k hl e t ht => by
      have ntk : t ≠ lk := by
        obtain ⟨_, z⟩ := hl.lst
        exact (ne_of_none z ht).symm
      have ft : H t = none := by
        cases z : H t with
        | none => rfl
        | some o =>
          rw [k _ _ (sH4 _ _ z) ntk] at ht
          cases ht
      refine qq _ t lk (fun z o e => ?_) ft flk ntk ⟨?_, ?_⟩
      · rw [upd_ne (ne_of_none e ft)]
        exact k _ _ (sH4 _ _ e) (ne_of_none e flk)
      · rw [upd_same, e]
      · rw [e]
        exact hl.same (same_upd ht)
    refine ⟨pp, rfl, ⟨_, SqL.of h1⟩, ?_⟩
    refine for_list (xs := ts.map V.ref) (fun i σ H' => ∃ (ls : List Look) (y4 y5 : Option V), But lk H4 H' ∧ LK H' lk ls ∧ ls.length = i ∧ firstG x.rows y.rows (parts (min x.rows.length y.rows.length)) = ((firstG x.rows y.rows ((parts (min x.rows.length y.rows.length)).drop i)).1, ls ++ (firstG x.rows y.rows ((parts (min x.rows.length y.rows.length)).drop i)).2) ∧
      σ = [some (.ref x.b), some (.ref y.b), some (.ref q), some (.int ((min x.rows.length y.rows.length : Nat) : Int)), y4, y5]) ⟨[], none, none, fun _ _ e _ => e, ⟨[], hl4, .nil⟩, rfl, rfl, rfl⟩ ?_ ?_ ?_
    · rintro i σ H' _ ⟨ls, y4, y5, k, _, _, _, rfl⟩
      exact SqL.of (k _ _ h1 npk)
    · rintro i v σ H' hv ⟨ls, y4, y5, k, hl, hll, hG, rfl⟩
      obtain ⟨tt, ⟨g, j⟩, rfl, hq, htt⟩ := PL.get h2 hv
      have hi : i < (parts (min x.rows.length y.rows.length)).length := (List.getElem?_eq_some_iff.mp hq).1
      have ed : (parts (min x.rows.length y.rows.length)).drop i = (g, j) :: (parts (min x.rows.length y.rows.length)).drop (i + 1) := by
        rw [← List.getElem_cons_drop hi, (List.getElem?_eq_some_iff.mp hq).2]
      have hin : (j + 1) * 2 ^ g ≤ min x.rows.length y.rows.length := parts_in (List.mem_of_getElem? hq)
      rw [ed] at hG
      have tk := k.tups hl4
      have bx' := (bx.same sH4).but k sepx.1 sepx.2.1 sepx.2.2.1 sepx.2.2.2 tk
      have by' := (by_.same sH4).but k sepy.1 sepy.2.1 sepy.2.2.1 sepy.2.2.2 tk
      have hq' := k _ _ hq4 nqk
      refine ⟨tt, _, rfl, SqT.of (tk _ _ htt), rfl, _, _, rfl, _, _, rfl, rfl, ?_⟩
      refine ⟨_, rfl, q, dq4, fq4, rfl, hq', hno _ (by decide +kernel) (by decide +kernel) (by decide +kernel), _, rfl, _, rfl, q, lk, p, d, l, L, x, y, ls, g, j, rfl, ⟨dq4, fq4, hq', hO, hT, hK, hno⟩, bx', by', hl, hin, by omega, fun H5 k5 hl5 => ⟨_, rfl, ?_⟩⟩
      cases ha : alike x.rows y.rows g j with
      | true =>
        rw [ha] at hl5
        refine iteF ⟨ls ++ [(g, j, true)], _, _, k.trans k5, hl5, by rw [List.length_append, hll]; rfl, ?_, rfl⟩
        rw [hG, firstG_true ha, List.append_assoc]
        rfl
      | false =>
        rw [ha] at hl5
        refine iteT ?_
        have k6 := k.trans k5
        have tk6 := k6.tups hl4
        have bx6 := (bx.same sH4).but k6 sepx.1 sepx.2.1 sepx.2.2.1 sepx.2.2.2 tk6
        have by6 := (by_.same sH4).but k6 sepy.1 sepy.2.1 sepy.2.2.1 sepy.2.2.2 tk6
        have hq6 := k6 _ _ hq4 nqk
        refine ⟨_, rfl, q, dq4, fq4, rfl, hq6, hno _ (by decide +kernel) (by decide +kernel) (by decide +kernel), _, rfl, _, rfl, q, lk, p, d, l, L, x, y, ls ++ [(g, j, false)], g, j, rfl, ⟨dq4, fq4, hq6, hO, hT, hK, hno⟩, bx6, by6, hl5, ⟨sepx.1, sepx.2.1, sepx.2.2.1, sepx.2.2.2, sepy.2.2.2⟩, hin, ?_, fun H7 k7 hl7 => ?_⟩
        · rw [List.length_append]
          have : [(g, j, false)].length = 1 := rfl
          omega
        have k17 := k6.trans k7
        refine ⟨_, rfl, q, CL, dq4, fq4, _, rfl, k17 _ _ hq4 nqk, T_Looking.cl, T_Looking.nK, hK, sl40 (by show 2 ≤ 1000000; decide), fun t ht => ?_⟩
        refine fin H7 _ (some (descend x.rows y.rows g j).1) k17 hl7 ?_ t ht
        unfold firstU
        rw [hG, firstG_false ha, List.append_assoc]
        rfl
    · rintro σ H' ⟨ls, y4, y5, k, hl, hll, hG, rfl⟩
      rw [List.length_map, Paired.length h2, List.drop_length] at hG
      have hG : firstG x.rows y.rows (parts (min x.rows.length y.rows.length)) = (none, ls ++ []) := hG
      rw [List.append_nil] at hG
      have tk := k.tups hl4
      have bx' := (bx.same sH4).but k sepx.1 sepx.2.1 sepx.2.2.1 sepx.2.2.2 tk
      have by' := (by_.same sH4).but k sepy.1 sepy.2.1 sepy.2.2.1 sepy.2.2.2 tk
      obtain ⟨dx, fs, hb, hnb⟩ := (repB CB).ob bx'.at_
      refine ⟨_, rfl, x.b, dx, fs, rfl, hb, hnb _ (by decide +kernel), p, x, rfl, bx'.at_, fun H8 s8 => ?_⟩
      have by8 := by'.same s8
      obtain ⟨dx2, fs2, hb2, hnb2⟩ := (repB CB).ob by8.at_
      refine ⟨_, rfl, y.b, dx2, fs2, rfl, hb2, hnb2 _ (by decide +kernel), p, y, rfl, by8.at_, fun H9 s9 => ?_⟩
      have k9 : But lk H4 H9 := k.trans (But.of (s8.trans s9))
      have hl9 := hl.same (s8.trans s9)
      have hq9 := k9 _ _ hq4 nqk
      refine ⟨rfl, _, rfl, ite2 (fun e => ?_) (fun e => ?_)⟩
      · have e := of_decide_eq_true e
        injection e with e
        refine ⟨_, rfl, q, CL, dq4, fq4, _, rfl, hq9, T_Looking.cl, T_Looking.nK, hK, sl40 (by show 2 ≤ 1000000; decide), fun t ht => ?_⟩
        refine fin H9 ls none k9 hl9 ?_ t ht
        unfold firstU
        rw [hG, if_pos (by omega)]
      · refine ⟨_, rfl, _, rfl, q, CL, dq4, fq4, _, rfl, hq9, T_Looking.cl, T_Looking.nK, hK, sl40 (by show 2 ≤ 1000000; decide), fun t ht => ?_⟩
        refine fin H9 ls (some (min x.rows.length y.rows.length)) k9 hl9 ?_ t ht
        unfold firstU
        rw [hG, if_neg (fun z => e (decide_eq_true (by rw [z])))]
end

def spLkAllH {CB : Addr} (w : World) (C CL : Addr) (h : Nat) : Sp := fun vs H Q _ => ∃ (q lk p d l : Addr) (L : List Th) (x y : BS) (ls : List Look) (j : Nat), vs = [.ref q, .int (h : Int), .int (j : Int)] ∧ LkAt CL H q x.b y.b lk ∧ Bk (repB CB) w C H p d l L x ∧ Bk (repB CB) w C H p d l L y ∧ LK H lk ls ∧
  (lk ≠ p ∧ lk ≠ d ∧ lk ≠ l ∧ ¬ x.F lk ∧ ¬ y.F lk) ∧ (j + 1) * 2 ^ h ≤ min x.rows.length y.rows.length ∧ ls.length + 2 * 2 ^ h ≤ 90000 ∧ ∀ H' a, But lk H H' → H a = none → H' a = some (.lst ((into x.rows y.rows h j).1.map natV)) → LK H' lk (ls ++ (into x.rows y.rows h j).2) → Q (.ref a) H'
def spLkAll {CB : Addr} (w : World) (C CL : Addr) : Sp := fun vs H Q E => ∃ h ≤ 12, spLkAllH (CB := CB) w C CL h vs H Q E
theorem into_all {r o : List Str} {h j : Nat} (ha : alike r o h (2 * j) = true) : into r o (h + 1) j = ((into r o h (2 * j + 1)).1, (h, 2 * j, true) :: (into r o h (2 * j + 1)).2) := by
  show (if alike r o h (2 * j) = true then _ else _) = _
  rw [if_pos ha]
theorem into_left {r o : List Str} {h j : Nat} (ha : alike r o h (2 * j) = false) (hb : alike r o h (2 * j + 1) = true) : into r o (h + 1) j = ((into r o h (2 * j)).1, (h, 2 * j, false) :: ((into r o h (2 * j)).2 ++ [(h, 2 * j + 1, true)])) := by
  show (if alike r o h (2 * j) = true then _ else _) = _
  rw [if_neg (by rw [ha]; decide), if_pos hb]
theorem into_both {r o : List Str} {h j : Nat} (ha : alike r o h (2 * j) = false) (hb : alike r o h (2 * j + 1) = false) :
    into r o (h + 1) j = ((into r o h (2 * j)).1 ++ (into r o h (2 * j + 1)).1, (h, 2 * j, false) :: ((into r o h (2 * j)).2 ++ (h, 2 * j + 1, false) :: (into r o h (2 * j + 1)).2)) := by
  show (if alike r o h (2 * j) = true then _ else _) = _
  rw [if_neg (by rw [ha]; decide), if_neg (by rw [hb]; decide)]
section
variable {P : Program} {w : World} {K : PySem.W.Frag} {mg : Str → Option Value} {base : Heap} {C CB CL cR cP cB cS cF cT : Addr}
theorem ok_lkAll (D : Mth K CL "all_in" "Looking.all_in" s_Looking_all_in ["self", "height", "number"]) (T_Looking : TLk K mg CL) (M_Looking_alike : MOk P w K mg base CX0 CL "alike" 3 ["self", "height", "number"] (spLkAlike (CB := CB) w C CL)) :
    MOk P w K mg base CX0 CL "all_in" 16 ["self", "height", "number"] (spLkAll (CB := CB) w C CL) := by
  obtain ⟨f, fd, F, mt, bi⟩ := D
  have len : ∀ (h : Nat) (vs : List V) (H : Hp) (Q : VK) (E : XK), spLkAllH (CB := CB) w C CL h vs H Q E → vs.length = 3 := fun h vs H Q E z => by
    obtain ⟨q, lk, p, d, l, L, x, y, ls, j, rfl, _⟩ := z
    rfl
  have all : ∀ h, FnOk P w K mg base CX0 (4 + h) f fd ["self", "height", "number"] (spLkAllH (CB := CB) w C CL h) := by
   intro h
   induction h with
   | zero =>
    have M_Looking_all_in : MOk P w K mg base CX0 CL "all_in" 0 ["self", "height", "number"] (fun _ _ _ _ => False) := ⟨f, fd, ⟨fun _ _ _ _ z => z.elim, fun _ _ _ _ _ _ _ _ _ _ _ _ _ z => z.elim⟩, mt, bi⟩
    obtain ⟨f_Looking_alike, d_Looking_alike, G_Looking_alike, m_Looking_alike, b_Looking_alike⟩ := M_Looking_alike.ex
    obtain ⟨f_Looking_all_in, d_Looking_all_in, G_Looking_all_in, m_Looking_all_in, b_Looking_all_in⟩ := M_Looking_all_in.ex
    refine F.ok sc_Looking_all_in (len 0) fun cdv A outer s H vs Q E hr h => ?_
    have hr : Room 3 _ := hr
    obtain ⟨q, lk, p, d, l, L, x, y, ls, j, rfl, hq, bx, by_, hl, sep, hin, hlen, qq⟩ := h
    refine ⟨_, (pss_cons (ps_if (pt_cmpR op_eq (pv 1) pe_int (nomark _)) (pss_one (ps_ret (pe_lst (pa_cons (pv 2) pa_nil)))) pss_nil)
      (pss_cons (ps_set (i := 3) sc_Looking_all_in.nd rfl (.inl rfl) (pe_op op_mul pe_int (pv 2)))
      (pss_cons (ps_set (i := 4) sc_Looking_all_in.nd rfl (.inl rfl) (pe_op op_add (pv 3) pe_int))
      (pss_cons (ps_if (pt_val (pe_meth (pv 0) T_Looking.cl m_Looking_alike G_Looking_alike (hr.mono (by first | decide | omega)) b_Looking_alike .nil pass0 (pa_cons (pe_op op_sub (pv 1) pe_int) (pa_cons (pv 3) pa_nil)))) (pss_one (ps_ret (pe_meth (pv 0) T_Looking.cl m_Looking_all_in G_Looking_all_in (hr.mono (by first | decide | omega)) b_Looking_all_in .nil pass0 (pa_cons (pe_op op_sub (pv 1) pe_int) (pa_cons (pv 4) pa_nil))))) pss_nil)
      (pss_cons (ps_set (i := 5) sc_Looking_all_in.nd rfl (.inl rfl) (pe_meth (pv 0) T_Looking.cl m_Looking_all_in G_Looking_all_in (hr.mono (by first | decide | omega)) b_Looking_all_in .nil pass0 (pa_cons (pe_op op_sub (pv 1) pe_int) (pa_cons (pv 3) pa_nil))))
      (pss_cons (ps_if (pt_val (pe_meth (pv 0) T_Looking.cl m_Looking_alike G_Looking_alike (hr.mono (by first | decide | omega)) b_Looking_alike .nil pass0 (pa_cons (pe_op op_sub (pv 1) pe_int) (pa_cons (pv 4) pa_nil)))) (pss_one (ps_ret (pv 5))) pss_nil)
      (pss_one (ps_ret (pe_op op_cat (pv 5) (pe_meth (pv 0) T_Looking.cl m_Looking_all_in G_Looking_all_in (hr.mono (by first | decide | omega)) b_Looking_all_in .nil pass0 (pa_cons (pe_op op_sub (pv 1) pe_int) (pa_cons (pv 4) pa_nil)))))))))))), ?_⟩
    refine ⟨_, rfl, rfl, _, rfl, iteT ?_⟩
    refine ⟨_, rfl, sl40 (by show 1 ≤ 1000000; decide), fun a ha => qq _ a (But.of (same_upd ha)) ha upd_same ?_⟩
    show LK _ lk (ls ++ [])
    rw [List.append_nil]
    exact hl.same (same_upd ha)
   | succ h ih =>
    have M_Looking_all_in : MOk P w K mg base CX0 CL "all_in" (4 + h) ["self", "height", "number"] (spLkAllH (CB := CB) w C CL h) := ⟨f, fd, ih, mt, bi⟩
    obtain ⟨f_Looking_alike, d_Looking_alike, G_Looking_alike, m_Looking_alike, b_Looking_alike⟩ := M_Looking_alike.ex
    obtain ⟨f_Looking_all_in, d_Looking_all_in, G_Looking_all_in, m_Looking_all_in, b_Looking_all_in⟩ := M_Looking_all_in.ex
    refine F.ok sc_Looking_all_in (len (h + 1)) fun cdv A outer s H vs Q E hr z => ?_
    have hr : Room (4 + h) _ := hr
    obtain ⟨q, lk, p, d, l, L, x, y, ls, j, rfl, hq, bx, by_, hl, ⟨np, nd, nl, nx, ny⟩, hin, hlen, qq⟩ := z
    refine ⟨_, (pss_cons (ps_if (pt_cmpR op_eq (pv 1) pe_int (nomark _)) (pss_one (ps_ret (pe_lst (pa_cons (pv 2) pa_nil)))) pss_nil)
      (pss_cons (ps_set (i := 3) sc_Looking_all_in.nd rfl (.inl rfl) (pe_op op_mul pe_int (pv 2)))
      (pss_cons (ps_set (i := 4) sc_Looking_all_in.nd rfl (.inl rfl) (pe_op op_add (pv 3) pe_int))
      (pss_cons (ps_if (pt_val (pe_meth (pv 0) T_Looking.cl m_Looking_alike G_Looking_alike (hr.mono (by first | decide | omega)) b_Looking_alike .nil pass0 (pa_cons (pe_op op_sub (pv 1) pe_int) (pa_cons (pv 3) pa_nil)))) (pss_one (ps_ret (pe_meth (pv 0) T_Looking.cl m_Looking_all_in G_Looking_all_in (hr.mono (by first | decide | omega)) b_Looking_all_in .nil pass0 (pa_cons (pe_op op_sub (pv 1) pe_int) (pa_cons (pv 4) pa_nil))))) pss_nil)
      (pss_cons (ps_set (i := 5) sc_Looking_all_in.nd rfl (.inl rfl) (pe_meth (pv 0) T_Looking.cl m_Looking_all_in G_Looking_all_in (hr.mono (by first | decide | omega)) b_Looking_all_in .nil pass0 (pa_cons (pe_op op_sub (pv 1) pe_int) (pa_cons (pv 3) pa_nil))))
      (pss_cons (ps_if (pt_val (pe_meth (pv 0) T_Looking.cl m_Looking_alike G_Looking_alike (hr.mono (by first | decide | omega)) b_Looking_alike .nil pass0 (pa_cons (pe_op op_sub (pv 1) pe_int) (pa_cons (pv 4) pa_nil)))) (pss_one (ps_ret (pv 5))) pss_nil)
      (pss_one (ps_ret (pe_op op_cat (pv 5) (pe_meth (pv 0) T_Looking.cl m_Looking_all_in G_Looking_all_in (hr.mono (by first | decide | omega)) b_Looking_all_in .nil pass0 (pa_cons (pe_op op_sub (pv 1) pe_int) (pa_cons (pv 4) pa_nil)))))))))))), ?_⟩
    have e2 : 2 ^ (h + 1) = 2 ^ h + 2 ^ h := by rw [Nat.pow_succ]; omega
    have hp0 := Nat.two_pow_pos h
    have hL := left_in hin
    have hR := right_in hin
    obtain ⟨xs0, hl0⟩ := hl.lst
    have nq : q ≠ lk := by
      obtain ⟨dq, fq, hq1, _⟩ := hq
      exact ne_of hq1 hl0 (by intro z; cases z)
    obtain ⟨i1, i2⟩ := into_len x.rows y.rows h (2 * j)
    obtain ⟨i3, i4⟩ := into_len x.rows y.rows h (2 * j + 1)
    have hn : min x.rows.length y.rows.length ≤ 1024 := Nat.le_trans (Nat.min_le_left _ _) bx.few
    have hh : 2 ^ h ≤ 1024 := by
      have := (blk_bounds hL).1
      omega
    have eh : ((h + 1 : Nat) : Int) - 1 = (h : Int) := by omega
    have ej : (2 : Int) * (j : Int) = ((2 * j : Nat) : Int) := by omega
    have ej1 : (2 : Int) * (j : Int) + 1 = ((2 * j + 1 : Nat) : Int) := by omega
    -- what stands in any later heap
    have at_ : ∀ H1, But lk H H1 → LkAt CL H1 q x.b y.b lk ∧ Bk (repB CB) w C H1 p d l L x ∧ Bk (repB CB) w C H1 p d l L y := fun H1 k => ⟨hq.keep fun o e => k _ _ e nq, bx.but k np nd nl nx (k.tups hl0), by_.but k np nd nl ny (k.tups hl0)⟩
    have arg1 : [V.ref q, .int (((h + 1 : Nat) : Int) - 1), .int (2 * (j : Int))] = [V.ref q, .int (h : Int), .int ((2 * j : Nat) : Int)] := by rw [eh, ej]
    have arg2 : [V.ref q, .int (((h + 1 : Nat) : Int) - 1), .int (2 * (j : Int) + 1)] = [V.ref q, .int (h : Int), .int ((2 * j + 1 : Nat) : Int)] := by rw [eh, ej1]
    refine ⟨_, rfl, rfl, _, rfl, iteF' (decide_eq_false ?_) ?_⟩
    · intro e
      injection e with e
      omega
    refine ⟨_, rfl, _, _, rfl, rfl, .inl ⟨by decide, by decide⟩, _, rfl, _, _, rfl, rfl, ?_⟩
    obtain ⟨dq, fq, hq1, hO, hT, hK, hno⟩ := hq
    refine ⟨_, rfl, q, dq, fq, rfl, hq1, hno _ (by decide +kernel) (by decide +kernel) (by decide +kernel), _, rfl, _, _, rfl, rfl, _, rfl, q, lk, p, d, l, L, x, y, ls, h, 2 * j, arg1, ⟨dq, fq, hq1, hO, hT, hK, hno⟩, bx, by_, hl, hL, by omega, fun H1 k1 hl1 => ⟨_, rfl, ?_⟩⟩
    obtain ⟨_, bx1, by1⟩ := at_ H1 k1
    have hq1' := k1 _ _ hq1 nq
    have frh : ∀ {H' : Hp} {a : Addr} {ls' : List Look}, But lk H H' → LK H' lk ls' → H' a = none → H a = none := fun {H' a ls'} k hk e => by
      obtain ⟨_, z0⟩ := hk.lst
      cases z : H a with
      | none => rfl
      | some o =>
        have c : a ≠ lk := fun c => by
          rw [c, z0] at e
          cases e
        rw [k _ _ z c] at e
        cases e
    cases ha : alike x.rows y.rows h (2 * j) with
    | true =>
      rw [ha] at hl1
      refine iteT ?_
      refine ⟨_, rfl, q, dq, fq, rfl, hq1', hno _ (by decide +kernel) (by decide +kernel) (by decide +kernel), _, rfl, _, _, rfl, rfl, _, rfl, q, lk, p, d, l, L, x, y, _, 2 * j + 1, arg2, ⟨dq, fq, hq1', hO, hT, hK, hno⟩, bx1, by1, hl1, ⟨np, nd, nl, nx, ny⟩, hR, ?_, fun H2 a k2 fa ha2 hl2 => ?_⟩
      · rw [List.length_append]
        have : [(h, 2 * j, true)].length = 1 := rfl
        omega
      have e := into_all ha
      refine qq H2 a (k1.trans k2) ?_ (by rw [e]; exact ha2) (by rw [e]; rw [List.append_assoc] at hl2; exact hl2)
      exact frh k1 hl1 fa
    | false =>
      rw [ha] at hl1
      refine iteF ?_
      refine ⟨_, rfl, q, dq, fq, rfl, hq1', hno _ (by decide +kernel) (by decide +kernel) (by decide +kernel), _, rfl, _, _, rfl, rfl, _, rfl, q, lk, p, d, l, L, x, y, _, 2 * j, arg1, ⟨dq, fq, hq1', hO, hT, hK, hno⟩, bx1, by1, hl1, ⟨np, nd, nl, nx, ny⟩, hL, ?_, fun H2 a k2 fa ha2 hl2 => ?_⟩
      · rw [List.length_append]
        have : [(h, 2 * j, false)].length = 1 := rfl
        omega
      have k12 := k1.trans k2
      obtain ⟨_, bx2, by2⟩ := at_ H2 k12
      have hq2 := k12 _ _ hq1 nq
      have fa0 := frh k1 hl1 fa
      have nal : a ≠ lk := by
        obtain ⟨_, z0⟩ := hl1.lst
        exact (ne_of_none z0 fa).symm
      refine ⟨_, rfl, q, dq, fq, rfl, hq2, hno _ (by decide +kernel) (by decide +kernel) (by decide +kernel), _, rfl, _, _, rfl, rfl, _, rfl, q, lk, p, d, l, L, x, y, _, h, 2 * j + 1, arg2, ⟨dq, fq, hq2, hO, hT, hK, hno⟩, bx2, by2, hl2, hR, ?_, fun H3 k3 hl3 => ⟨_, rfl, ?_⟩⟩
      · rw [List.length_append, List.length_append]
        have : [(h, 2 * j, false)].length = 1 := rfl
        omega
      have k13 := k12.trans k3
      cases hb : alike x.rows y.rows h (2 * j + 1) with
      | true =>
        rw [hb] at hl3
        refine iteT ⟨_, rfl, ?_⟩
        have e := into_left ha hb
        refine qq H3 a k13 fa0 (by rw [e]; exact k3 _ _ ha2 nal) ?_
        rw [e]
        simp only [List.append_assoc, List.cons_append, List.nil_append] at hl3 ⊢
        exact hl3
      | false =>
        rw [hb] at hl3
        refine iteF ?_
        obtain ⟨_, bx3, by3⟩ := at_ H3 k13
        have hq3 := k13 _ _ hq1 nq
        refine ⟨_, rfl, _, rfl, q, dq, fq, rfl, hq3, hno _ (by decide +kernel) (by decide +kernel) (by decide +kernel), _, rfl, _, _, rfl, rfl, _, rfl, q, lk, p, d, l, L, x, y, _, 2 * j + 1, arg2, ⟨dq, fq, hq3, hO, hT, hK, hno⟩, bx3, by3, hl3, ⟨np, nd, nl, nx, ny⟩, hR, ?_, fun H4 a2 k4 fa2 ha4 hl4 => ?_⟩
        · rw [List.length_append, List.length_append, List.length_append]
          have : [(h, 2 * j, false)].length = 1 := rfl
          have : [(h, 2 * j + 1, false)].length = 1 := rfl
          omega
        have ha1 := k4 _ _ (k3 _ _ ha2 nal) nal
        refine ⟨a, a2, _, _, rfl, rfl, ha1, ha4, ?_, fun t ht => ?_⟩
        · rw [List.length_map, List.length_map]
          exact sl40 (by omega)
        have k14 := k13.trans k4
        have e := into_both ha hb
        have nt : t ≠ lk := by
          obtain ⟨_, z0⟩ := hl4.lst
          exact (ne_of_none z0 ht).symm
        have ft := frh k14 hl4 ht
        refine qq _ t (k14.trans (But.of (same_upd ht))) ft ?_ ?_
        · rw [upd_same, e, List.map_append]
        · rw [e]
          simp only [List.append_assoc, List.cons_append, List.nil_append] at hl4 ⊢
          exact hl4.same (same_upd ht)
  exact ⟨f, fd, ⟨fun vs H Q E ⟨h, _, z⟩ => len h vs H Q E z, fun A outer s H args us vs Q E hr he hb hv ⟨h, hh, z⟩ => (all h).run A outer s H args us vs Q E (hr.mono (by omega)) he hb hv z⟩, mt, bi⟩
theorem ok_allUnlike (D : Dfn K mg "all_unlike" s_all_unlike ["one", "other"]) (T_Looking : TLk K mg CL) (B : Bi mg) (N_Looking : NOk P w K mg base (L2.CX P w) CL 1 ["self", "one", "other"] (spLkInit (CB := CB) w C CL cT)) (M_Book_count : MOk P w K mg base CX0 CB "count" 1 ["self"] (spCount (repB CB))) (T_Book : TBo K mg CB)
    (M_Looking_alike : MOk P w K mg base CX0 CL "alike" 3 ["self", "height", "number"] (spLkAlike (CB := CB) w C CL)) (M_Looking_all_in : MOk P w K mg base CX0 CL "all_in" 16 ["self", "height", "number"] (spLkAll (CB := CB) w C CL)) (C_parted : COk P w K mg base CX0 "parted" 2 ["count"] spParted) :
    COk P w K mg base (L2.CX P w) "all_unlike" 18 ["one", "other"] (spAU (repB CB) w C cT) := by
  obtain ⟨f_Book_count, d_Book_count, G_Book_count, m_Book_count, b_Book_count⟩ := M_Book_count.ex
  obtain ⟨f_Looking_alike, d_Looking_alike, G_Looking_alike, m_Looking_alike, b_Looking_alike⟩ := M_Looking_alike.ex
  obtain ⟨f_Looking_all_in, d_Looking_all_in, G_Looking_all_in, m_Looking_all_in, b_Looking_all_in⟩ := M_Looking_all_in.ex
  obtain ⟨f_Looking___init__, d_Looking___init__, G_Looking___init__, k_Looking___init__, b_Looking___init__⟩ := N_Looking.ex
  refine c_mkX D sc_all_unlike (fun vs H Q E h => ?_) (fun f cdv A outer s H vs Q E hr h => ?_)
  · rcases h with ⟨p, d, l, L, x, y, rfl, _⟩ | ⟨p, d, l, L, x, p', d', l', L', y, rfl, _⟩ <;> rfl
  · refine ⟨_, (pss_cons (ps_set (i := 2) sc_all_unlike.nd rfl (.inl rfl) (pe_make k_Looking___init__ G_Looking___init__ (hr.mono (by decide)) (by rfl) T_Looking.g b_Looking___init__ .nil (passUp (takes_of rfl rfl rfl rfl)) (pa_cons (pv 0) (pa_cons (pv 1) pa_nil))))
      (pss_cons (ps_set (i := 3) sc_all_unlike.nd rfl (.inl rfl) (pe_lst pa_nil))
      (pss_cons (ps_for (passes_of rfl) rfl (pi_list (pe_c C_parted hr (by rfl) (pa_cons (pe_callB (id := "min") (call_min2 rfl) (by rfl) B.min (by decide +kernel) (pa_cons (pe_meth0 (pv 0) T_Book.cl m_Book_count G_Book_count (hr.mono (by decide)) b_Book_count .nil pass0) (pa_cons (pe_meth0 (pv 1) T_Book.cl m_Book_count G_Book_count (hr.mono (by decide)) b_Book_count .nil pass0) pa_nil))) pa_nil))) (pg_tup rfl (pgs_cons (pg_name (i := 4) sc_all_unlike.nd rfl (.inl rfl)) (pgs_cons (pg_name (i := 5) sc_all_unlike.nd rfl (.inl rfl)) pgs_nil)))
      (pss_one (ps_if (pt_not (pt_val (pe_meth (pv 2) T_Looking.cl m_Looking_alike G_Looking_alike (hr.mono (by decide)) b_Looking_alike .nil pass0 (pa_cons (pv 4) (pa_cons (pv 5) pa_nil))))) (pss_one (ps_expr (pe_bm PySem.F.plainAttrs_list PySem.F.slot_list_extend PySem.F.type_list_extend mt_extend (pv 3) (pa_cons (pe_meth (pv 2) T_Looking.cl m_Looking_all_in G_Looking_all_in (hr.mono (by decide)) b_Looking_all_in .nil pass0 (pa_cons (pv 4) (pa_cons (pv 5) pa_nil))) pa_nil)))) pss_nil)))
      (pss_one (ps_ret (pe_tup (pa_cons (pv 3) (pa_cons (pe_fld (pv 2) rfl) pa_nil)))))))), ?_⟩
    rcases h with ⟨p, d, l, L, x, y, rfl, bx, by_, qq⟩ | ⟨p, d, l, L, x, p', d', l', L', y, rfl, bx, by_, hne, qq⟩
    rotate_left
    · refine ⟨_, rfl, _, rfl, fun q dq nq ndq ne2 => ?_⟩
      have mq := (same_upd (o := .own q) ndq).trans (same_upd (o := .ins CL dq []) (p := q) (by rw [upd_ne ne2.symm]; exact nq))
      exact ⟨q, dq, p, d, l, L, x, p', d', l', L', y, rfl, upd_same, bx.same mq, by_.same mq, fun z => absurd z hne, fun _ => qq _ mq⟩
    refine ⟨_, rfl, _, rfl, fun q dq nq ndq ne2 => ?_⟩
    have mq := (same_upd (o := .own q) ndq).trans (same_upd (o := .ins CL dq []) (p := q) (by rw [upd_ne ne2.symm]; exact nq))
    refine ⟨q, dq, p, d, l, L, x, p, d, l, L, y, rfl, upd_same, bx.same mq, by_.same mq, fun _ lk H1 hlk hat hl0 k1 => ⟨rfl, ?_⟩, fun z => absurd rfl z⟩
    have flk : H lk = none := Same.free mq hlk
    have s1 : Same H H1 := fun z o e => k1 z o (mq z o e) (ne_of_none e nq)
    generalize upd (upd H dq (.own q)) q (.ins CL dq []) = H0 at mq hlk k1
    refine ⟨Nat.zero_le _, fun pl hpl => ?_⟩
    have sp1 := same_upd (o := .lst []) hpl
    have fpl : H pl = none := Same.free s1 hpl
    have npl : pl ≠ lk := (ne_of_none hl0 hpl).symm
    have hpl1 : (upd H1 pl (.lst [])) pl = some (.lst []) := upd_same
    generalize upd H1 pl (.lst []) = H2 at sp1 hpl1 ⊢
    have bx2 := (bx.same s1).same sp1
    have by2 := (by_.same s1).same sp1
    obtain ⟨dx, fs, hb, hnb⟩ := (repB CB).ob bx2.at_
    refine ⟨_, rfl, x.b, dx, fs, rfl, hb, hnb _ (by decide +kernel), p, x, rfl, bx2.at_, fun H3 s3 => ?_⟩
    have by3 := by2.same s3
    obtain ⟨dx2, fs2, hb2, hnb2⟩ := (repB CB).ob by3.at_
    refine ⟨_, rfl, y.b, dx2, fs2, rfl, hb2, hnb2 _ (by decide +kernel), p, y, rfl, by3.at_, fun H4 s4 => ⟨_, _, rfl, ?_⟩⟩
    rw [min_if2]
    have hfx := bx.few
    have hN : min x.rows.length y.rows.length ≤ 1024 := Nat.le_trans (Nat.min_le_left _ _) hfx
    refine ⟨min x.rows.length y.rows.length, rfl, by omega, fun H5 pp s5 hpp hpar => ?_⟩
    have s25 := (s3.trans s4).trans s5
    have sH5 := (s1.trans sp1).trans s25
    obtain ⟨ts, h1, h2⟩ := hpar
    have hl5 := s25 _ _ (sp1 _ _ hl0)
    have hpl5 := s25 _ _ hpl1
    obtain ⟨dq5, fq5, hq5, hO, hT, hK, hno⟩ := hat.keep fun o e => s25 _ _ (sp1 _ _ e)
    have nqk : q ≠ lk := ne_of hq5 hl5 (by intro z; cases z)
    have nqp : q ≠ pl := ne_of hq5 hpl5 (by intro z; cases z)
    obtain ⟨np, nd, nl, nx⟩ : lk ≠ p ∧ lk ≠ d ∧ lk ≠ l ∧ ¬ x.F lk := bx.new flk
    obtain ⟨_, _, _, ny⟩ : lk ≠ p ∧ lk ≠ d ∧ lk ≠ l ∧ ¬ y.F lk := by_.new flk
    obtain ⟨mp, md, ml, mx⟩ : pl ≠ p ∧ pl ≠ d ∧ pl ≠ l ∧ ¬ x.F pl := bx.new fpl
    obtain ⟨_, _, _, my⟩ : pl ≠ p ∧ pl ≠ d ∧ pl ≠ l ∧ ¬ y.F pl := by_.new fpl
    have nppk : pp ≠ lk := (ne_of_none ((s3.trans s4) _ _ (sp1 _ _ hl0)) hpp).symm
    have nppl : pp ≠ pl := (ne_of_none ((s3.trans s4) _ _ hpl1) hpp).symm
    have hd11 : dig (min x.rows.length y.rows.length) ≤ 11 := dig_small (by omega)
    have hplen : (parts (min x.rows.length y.rows.length)).length ≤ 11 := Nat.le_trans (parts_len _) hd11
    refine ⟨pp, rfl, ⟨_, SqL.of h1⟩, ?_⟩
    refine for_list (xs := ts.map V.ref) (fun i σ H' => ∃ (ps : List Nat) (ls : List Look) (y4 y5 : Option V), (∀ z o, H5 z = some o → z ≠ lk → z ≠ pl → H' z = some o) ∧ Bk (repB CB) w C H' p d l L x ∧ Bk (repB CB) w C H' p d l L y ∧ H' pl = some (.lst (ps.map natV)) ∧ LK H' lk ls ∧ ps.length ≤ 1024 * i ∧ ls.length ≤ 2049 * i ∧
      allG x.rows y.rows (parts (min x.rows.length y.rows.length)) = (ps ++ (allG x.rows y.rows ((parts (min x.rows.length y.rows.length)).drop i)).1, ls ++ (allG x.rows y.rows ((parts (min x.rows.length y.rows.length)).drop i)).2) ∧
      σ = [some (.ref x.b), some (.ref y.b), some (.ref q), some (.ref pl), y4, y5]) ⟨[], [], none, none, fun _ _ e _ _ => e, bx.same sH5, by_.same sH5, hpl5, ⟨[], hl5, .nil⟩, Nat.zero_le _, Nat.zero_le _, rfl, rfl⟩ ?_ ?_ ?_
    · rintro i σ H' _ ⟨ps, ls, y4, y5, k, _, _, _, _, _, _, _, rfl⟩
      exact SqL.of (k _ _ h1 nppk nppl)
    · rintro i v σ H' hv ⟨ps, ls, y4, y5, k, bx', by', hp', hl', l1, l2, hG, rfl⟩
      obtain ⟨tt, ⟨g, j⟩, rfl, hq, htt⟩ := PL.get h2 hv
      have hi : i < (parts (min x.rows.length y.rows.length)).length := (List.getElem?_eq_some_iff.mp hq).1
      have ed : (parts (min x.rows.length y.rows.length)).drop i = (g, j) :: (parts (min x.rows.length y.rows.length)).drop (i + 1) := by
        rw [← List.getElem_cons_drop hi, (List.getElem?_eq_some_iff.mp hq).2]
      have hin : (j + 1) * 2 ^ g ≤ min x.rows.length y.rows.length := parts_in (List.mem_of_getElem? hq)
      rw [ed] at hG
      have hq' := k _ _ hq5 nqk nqp
      have htt' := k _ _ htt (ne_of htt hl5 (by intro z; cases z)) (ne_of htt hpl5 (by intro z; cases z))
      obtain ⟨xs1, hl1⟩ := hl'.lst
      refine ⟨tt, _, rfl, SqT.of htt', rfl, _, _, rfl, _, _, rfl, rfl, ?_⟩
      refine ⟨_, rfl, q, dq5, fq5, rfl, hq', hno _ (by decide +kernel) (by decide +kernel) (by decide +kernel), _, rfl, _, rfl, q, lk, p, d, l, L, x, y, ls, g, j, rfl, ⟨dq5, fq5, hq', hO, hT, hK, hno⟩, bx', by', hl', hin, by omega, fun H6 k6 hl6 => ⟨_, rfl, ?_⟩⟩
      have t6 := k6.tups hl1
      have bx6 := bx'.but k6 np nd nl nx t6
      have by6 := by'.but k6 np nd nl ny t6
      have hp6 := k6 _ _ hp' npl
      have hq6 := k6 _ _ hq' nqk
      cases ha : alike x.rows y.rows g j with
      | true =>
        rw [ha] at hl6
        refine iteF ⟨ps, ls ++ [(g, j, true)], _, _, fun z o e n1 n2 => k6 _ _ (k z o e n1 n2) n1, bx6, by6, hp6, hl6, by omega, by rw [List.length_append]; have : [(g, j, true)].length = 1 := rfl; omega, ?_, rfl⟩
        rw [hG, allG_true ha, List.append_assoc]
        rfl
      | false =>
        rw [ha] at hl6
        refine iteT ?_
        obtain ⟨c1, c2, c3⟩ := blk_bounds hin
        obtain ⟨i1, i2⟩ := into_len x.rows y.rows g j
        have hg : g ≤ 12 := by
          have := in_dig hin
          omega
        refine ⟨_, rfl, .inl ⟨rfl, _, SqL.of hp6⟩, _, rfl, q, dq5, fq5, rfl, hq6, hno _ (by decide +kernel) (by decide +kernel) (by decide +kernel), _, rfl, _, rfl, g, hg, q, lk, p, d, l, L, x, y, ls ++ [(g, j, false)], j, rfl, ⟨dq5, fq5, hq6, hO, hT, hK, hno⟩, bx6, by6, hl6, ⟨np, nd, nl, nx, ny⟩, hin, ?_, fun H7 a k7 fa ha7 hl7 => ?_⟩
        · rw [List.length_append]
          have : [(g, j, false)].length = 1 := rfl
          omega
        obtain ⟨xs6, hl6'⟩ := hl6.lst
        have t7 := k7.tups hl6'
        have bx7 := bx6.but k7 np nd nl nx t7
        have by7 := by6.but k7 np nd nl ny t7
        have hp7 := k7 _ _ hp6 npl
        have hq7 := k7 _ _ hq6 nqk
        refine ⟨pl, a, _, _, rfl, rfl, hp7, ha7, ?_, ?_⟩
        · rw [List.length_map, List.length_map]
          exact sl40 (by omega)
        have k8 : But pl H7 (upd H7 pl (.lst (ps.map natV ++ (into x.rows y.rows g j).1.map natV))) := fun z o e n => by rw [upd_ne n]; exact e
        have t8 := k8.tups hp7
        refine ⟨ps ++ (into x.rows y.rows g j).1, ls ++ [(g, j, false)] ++ (into x.rows y.rows g j).2, _, _, fun z o e n1 n2 => k8 _ _ (k7 _ _ (k6 _ _ (k z o e n1 n2) n1) n1) n2, bx7.but k8 mp md ml mx t8, by7.but k8 mp md ml my t8, by rw [upd_same, List.map_append], hl7.off hp7 npl.symm fun z o e n => k8 z o e n, ?_, ?_, ?_, rfl⟩
        · rw [List.length_append]
          omega
        · rw [List.length_append, List.length_append]
          have : [(g, j, false)].length = 1 := rfl
          omega
        · rw [hG, allG_false ha]
          simp only [List.append_assoc, List.cons_append, List.nil_append]
    · rintro σ H' ⟨ps, ls, y4, y5, k, bx', by', hp', hl', l1, l2, hG, rfl⟩
      rw [List.length_map, Paired.length h2, List.drop_length] at hG
      have hG : allG x.rows y.rows (parts (min x.rows.length y.rows.length)) = (ps ++ [], ls ++ []) := hG
      rw [List.append_nil, List.append_nil] at hG
      have hq' := k _ _ hq5 nqk nqp
      refine ⟨_, rfl, _, rfl, q, CL, dq5, fq5, _, rfl, hq', T_Looking.cl, T_Looking.nK, hK, sl40 (by show 2 ≤ 1000000; decide), fun t ht => ?_⟩
      have ntk : t ≠ lk := by
        obtain ⟨_, z⟩ := hl'.lst
        exact (ne_of_none z ht).symm
      have ntp : t ≠ pl := (ne_of_none hp' ht).symm
      have ft : H t = none := by
        cases z : H t with
        | none => rfl
        | some o =>
          rw [k _ _ (sH5 _ _ z) ntk ntp] at ht
          cases ht
      have eU : allU x.rows y.rows = (ps, ls) := hG
      refine qq _ t pl lk (fun z o e => ?_) ft fpl flk npl ntp ntk ⟨?_, ?_, ?_⟩
      · rw [upd_ne (ne_of_none e ft)]
        exact k _ _ (sH5 _ _ e) (ne_of_none e flk) (ne_of_none e fpl)
      · rw [upd_same]
      · rw [eU, upd_ne (ne_of_none hp' ht)]
        exact hp'
      · rw [eU]
        exact hl'.same (same_upd ht)
end

/-! ### where the places are (nothing of the program) -/
theorem half_eqs (j P : Nat) : j * (2 * P) = 2 * (j * P) ∧ (2 * j) * P = 2 * (j * P) ∧ (2 * j + 1) * P = 2 * (j * P) + P ∧ (2 * j + 1 + 1) * P = 2 * (j * P) + 2 * P ∧ (j + 1) * (2 * P) = 2 * (j * P) + 2 * P := by
  have e1 : j * (2 * P) = 2 * (j * P) := Nat.mul_left_comm j 2 P
  have e2 : (2 * j) * P = 2 * (j * P) := Nat.mul_assoc 2 j P
  refine ⟨e1, e2, ?_, ?_, ?_⟩
  · rw [Nat.add_mul, e2, Nat.one_mul]
  · rw [Nat.add_mul, Nat.add_mul, e2, Nat.one_mul]
    omega
  · rw [Nat.add_mul, e1, Nat.one_mul]
theorem into_in (r o : List Str) : ∀ h j p, p ∈ (into r o h j).1 → j * 2 ^ h ≤ p ∧ p < (j + 1) * 2 ^ h
  | 0, j, p, m => by
    have : p = j := by simpa [into] using m
    rw [Nat.pow_zero]
    omega
  | h + 1, j, p, m => by
    have e : 2 ^ (h + 1) = 2 * 2 ^ h := by rw [Nat.pow_succ, Nat.mul_comm]
    obtain ⟨e1, e2, e3, e4, e5⟩ := half_eqs j (2 ^ h)
    have hl : p ∈ (into r o h (2 * j)).1 → j * 2 ^ (h + 1) ≤ p ∧ p < (j + 1) * 2 ^ (h + 1) := fun m => by
      have := into_in r o h (2 * j) p m
      rw [e]
      omega
    have hr : p ∈ (into r o h (2 * j + 1)).1 → j * 2 ^ (h + 1) ≤ p ∧ p < (j + 1) * 2 ^ (h + 1) := fun m => by
      have := into_in r o h (2 * j + 1) p m
      rw [e]
      omega
    unfold into at m
    by_cases c1 : alike r o h (2 * j) = true
    · rw [if_pos c1] at m
      exact hr m
    · rw [if_neg c1] at m
      by_cases c2 : alike r o h (2 * j + 1) = true
      · rw [if_pos c2] at m
        exact hl m
      · rw [if_neg c2] at m
        rcases List.mem_append.mp m with m | m
        · exact hl m
        · exact hr m
theorem allG_in (r o : List Str) : ∀ (ps : List (Nat × Nat)) p, p ∈ (allG r o ps).1 → ∃ g j, (g, j) ∈ ps ∧ j * 2 ^ g ≤ p ∧ p < (j + 1) * 2 ^ g
  | [], p, m => by cases m
  | (g, j) :: ps, p, m => by
    unfold allG at m
    by_cases c : alike r o g j = true
    · rw [if_pos c] at m
      obtain ⟨g', j', h1, h2⟩ := allG_in r o ps p m
      exact ⟨g', j', List.mem_cons_of_mem _ h1, h2⟩
    · rw [if_neg c] at m
      rcases List.mem_append.mp m with m | m
      · exact ⟨g, j, List.mem_cons_self, into_in r o g j p m⟩
      · obtain ⟨g', j', h1, h2⟩ := allG_in r o ps p m
        exact ⟨g', j', List.mem_cons_of_mem _ h1, h2⟩
theorem allU_lt {r o : List Str} {p : Nat} (m : p ∈ (allU r o).1) : p < min r.length o.length := by
  obtain ⟨g, j, h1, _, h2⟩ := allG_in r o _ p m
  exact Nat.lt_of_lt_of_le h2 (parts_in h1)

/-! ### which places are told (nothing of the program) -/
def dif (r o : List Str) (i : Nat) : Bool := decide (r[i]? ≠ o[i]?)
theorem half_range (h j : Nat) : List.range' (j * 2 ^ (h + 1)) (2 ^ (h + 1)) = List.range' (2 * j * 2 ^ h) (2 ^ h) ++ List.range' ((2 * j + 1) * 2 ^ h) (2 ^ h) := by
  have e : 2 ^ (h + 1) = 2 * 2 ^ h := by rw [Nat.pow_succ, Nat.mul_comm]
  obtain ⟨e1, e2, e3, _, _⟩ := half_eqs j (2 ^ h)
  rw [e, e1, e2, e3, List.range'_append_1, Nat.two_mul (2 ^ h)]
theorem alike_none {r o : List Str} {h j : Nat} (c : alike r o h j = true) : (List.range' (j * 2 ^ h) (2 ^ h)).filter (dif r o) = [] := by
  rw [List.filter_eq_nil_iff]
  intro x hx
  rw [List.mem_range'_1] at hx
  have e1 : (j + 1) * 2 ^ h = j * 2 ^ h + 2 ^ h := by rw [Nat.add_mul, Nat.one_mul]
  have := (alike_iff r o h j).mp c x hx.1 (by omega)
  unfold dif
  rw [decide_eq_true_iff]
  exact fun z => z this
theorem alike_halves (r o : List Str) (h j : Nat) : alike r o (h + 1) j = true ↔ alike r o h (2 * j) = true ∧ alike r o h (2 * j + 1) = true := by
  have e : 2 ^ (h + 1) = 2 * 2 ^ h := by rw [Nat.pow_succ, Nat.mul_comm]
  obtain ⟨e1, e2, e3, e4, e5⟩ := half_eqs j (2 ^ h)
  rw [alike_iff, alike_iff, alike_iff, e]
  constructor
  · intro c
    exact ⟨fun x h1 h2 => c x (by omega) (by omega), fun x h1 h2 => c x (by omega) (by omega)⟩
  · rintro ⟨c1, c2⟩ x h1 h2
    by_cases z : x < (2 * j + 1) * 2 ^ h
    · exact c1 x (by omega) z
    · exact c2 x (by omega) (by omega)
theorem into_places (r o : List Str) : ∀ h j, ¬ alike r o h j = true → (into r o h j).1 = (List.range' (j * 2 ^ h) (2 ^ h)).filter (dif r o)
  | 0, j, c => by
    have c' : r[j]? ≠ o[j]? := fun z => c ((alike_iff r o 0 j).mpr fun x h1 h2 => by
      have : x = j := by rw [Nat.pow_zero] at h1 h2; omega
      rw [this]
      exact z)
    show [j] = _
    rw [Nat.pow_zero, Nat.mul_one]
    show [j] = List.filter (dif r o) [j]
    rw [List.filter_cons_of_pos (by unfold dif; exact decide_eq_true c')]
    rfl
  | h + 1, j, c => by
    rw [half_range, List.filter_append]
    unfold into
    by_cases c1 : alike r o h (2 * j) = true
    · rw [if_pos c1, alike_none c1, List.nil_append]
      exact into_places r o h (2 * j + 1) fun z => c ((alike_halves r o h j).mpr ⟨c1, z⟩)
    · rw [if_neg c1]
      by_cases c2 : alike r o h (2 * j + 1) = true
      · rw [if_pos c2, alike_none c2, List.append_nil]
        exact into_places r o h (2 * j) c1
      · rw [if_neg c2]
        show (into r o h (2 * j)).1 ++ (into r o h (2 * j + 1)).1 = _
        rw [into_places r o h (2 * j) c1, into_places r o h (2 * j + 1) c2]
theorem allG_places {r o : List Str} {n : Nat} : ∀ (ps : List (Nat × Nat)) (h s : Nat), partsOk n h s ps → (allG r o ps).1 = (List.range' s (n - s)).filter (dif r o)
  | [], h, s, p => by
    have : s = n := p
    rw [this, Nat.sub_self]
    rfl
  | (g, j) :: ps, h, s, p => by
    obtain ⟨_, p2, p3⟩ := p
    have le := partsOk_le p3
    have e : List.range' s (n - s) = List.range' (j * 2 ^ g) (2 ^ g) ++ List.range' (s + 2 ^ g) (n - (s + 2 ^ g)) := by
      rw [p2, List.range'_append_1, show 2 ^ g + (n - (s + 2 ^ g)) = n - s by generalize 2 ^ g = P at le ⊢; omega]
    rw [e, List.filter_append]
    unfold allG
    by_cases c : alike r o g j = true
    · rw [if_pos c, alike_none c, List.nil_append]
      exact allG_places ps g _ p3
    · rw [if_neg c]
      show (into r o g j).1 ++ (allG r o ps).1 = _
      rw [into_places r o g j c, allG_places ps g _ p3]
theorem allU_places (r o : List Str) : (allU r o).1 = (List.range (min r.length o.length)).filter (dif r o) := by
  rw [List.range_eq_range']
  exact allG_places _ _ 0 (parts_ok _)

/-! ### a ledger's books, and a list that is kept beside -/
structure SK {CB : Addr} (R : Rep CB) (w : World) (C : Addr) (H : Hp) (p d l : Addr) (L : List Th) (n : Nat) (B : Nat → BS) (a : Addr) (us : List V) : Prop where
  sys : Sys R w C H p d l L n B
  ha : H a = some (.lst us)
  fa : Free d l n B a
/-- what stays, but for the list at a -/
def Fr (a d l : Addr) (n : Nat) (H : Hp) (B : Nat → BS) (H' : Hp) (B' : Nat → BS) : Prop := ∀ z o, H z = some o → z ≠ a → Free d l n B z → H' z = some o ∧ Free d l n B' z
section
variable {CB : Addr} {R : Rep CB} {w : World} {C : Addr} {H H' H2 : Hp} {p d l a : Addr} {L L' : List Th} {n : Nat} {B B' B2 : Nat → BS} {x : BS} {us us' : List V}
theorem Fr.trans (f : Fr a d l n H B H' B') (g : Fr a d l n H' B' H2 B2) : Fr a d l n H B H2 B2 := fun z o e ne fz => g z o (f z o e ne fz).1 ne (f z o e ne fz).2
theorem Fr.but (k : But a H H') : Fr a d l n H B H' B := fun z o e ne fz => ⟨k z o e ne, fz⟩
theorem Fr.same (s : Same H H') : Fr a d l n H B H' B := fun z o e _ fz => ⟨s z o e, fz⟩
theorem Fr.deed {i : Nat} (hi : i < n) (c : Chg H H' d l (B i).F) (g : Grew H (B i).F x.F) : Fr a d l n H B H' (setA B i x) := fun _ _ e _ fz => Sys.out hi c g fz e
theorem SK.pa (h : SK R w C H p d l L n B a us) : a ≠ p := by
  obtain ⟨_, _, hp, _⟩ := h.sys.led.ob
  exact ne_of h.ha hp (by intro z; cases z)
theorem SK.but (h : SK R w C H p d l L n B a us) (k : But a H H') (e : H' a = some (.lst us')) : SK R w C H' p d l L n B a us' := by
  have t := k.tups h.ha
  have np := h.pa
  refine ⟨⟨h.sys.led.other (d' := a) (l' := a) (fun z o e n _ => k z o e n) h.fa.1.symm h.fa.1.symm h.fa.2.1.symm h.fa.2.1.symm np.symm np.symm t, fun i hi => (h.sys.bk i hi).but k np h.fa.1 h.fa.2.1 (h.fa.2.2 i hi) t, h.sys.sep⟩, e, h.fa⟩
theorem SK.same (h : SK R w C H p d l L n B a us) (s : Same H H') : SK R w C H' p d l L n B a us := ⟨h.sys.same s, s _ _ h.ha, h.fa⟩
theorem SK.deed {i : Nat} (h : SK R w C H p d l L n B a us) (hi : i < n) (c : Chg H H' d l (B i).F) (g : Grew H (B i).F x.F) (b : Bk R w C H' p d l L' x) (pr : L <+: L') : SK R w C H' p d l L' n (setA B i x) a us := by
  obtain ⟨e, f⟩ := Sys.out (x := x) hi c g h.fa h.ha
  exact ⟨h.sys.step hi c g b pr, e, f⟩
end

/-- list(x) and len(x), in a comprehension -/
def rListOf (K : PySem.W.Frag) : List V → Hp → VK → Prop := fun xs H Q => ∃ p ys, xs = [.ref p] ∧ (SqL K H p ys ∨ SqT K H p ys) ∧ ∀ l, H l = none → Q (.ref l) (upd H l (.lst ys))
def rLenSeq (K : PySem.W.Frag) : List V → Hp → VK → Prop := fun xs H Q => ∃ p ys, xs = [.ref p] ∧ (SqL K H p ys ∨ SqT K H p ys) ∧ Q (.int ys.length) H

/-! ### the looks of all places: true, each once, few, and what they cover (nothing of the program) -/
def keyL (q : Look) : Nat × Nat := (q.1, q.2.1)
theorem keyL_eq {q p : Look} (z : keyL q = keyL p) : q.1 = p.1 ∧ q.2.1 = p.2.1 := by
  unfold keyL at z
  exact ⟨(Prod.mk.inj z).1, (Prod.mk.inj z).2⟩
theorem blk_pos (h j : Nat) : j * 2 ^ h < (j + 1) * 2 ^ h := by
  rw [Nat.add_mul, Nat.one_mul]
  exact Nat.lt_add_of_pos_right (Nat.two_pow_pos h)
structure InBlk (r o : List Str) (s e : Nat) (q : Look) : Prop where
  lo : s ≤ q.2.1 * 2 ^ q.1
  hi : (q.2.1 + 1) * 2 ^ q.1 ≤ e
  tr : q.2.2 = alike r o q.1 q.2.1
theorem InBlk.mono {r o : List Str} {s e s' e' : Nat} {q : Look} (h : InBlk r o s e q) (h1 : s' ≤ s) (h2 : e ≤ e') : InBlk r o s' e' q := ⟨Nat.le_trans h1 h.lo, Nat.le_trans h.hi h2, h.tr⟩
theorem InBlk.apart {r o : List Str} {s m e : Nat} {q p : Look} (h : InBlk r o s m q) (g : InBlk r o m e p) : keyL q ≠ keyL p := fun z => by
  obtain ⟨e1, e2⟩ := keyL_eq z
  have h1 := h.hi
  have h2 := g.lo
  have h3 := blk_pos q.1 q.2.1
  rw [e1, e2] at h1 h3
  omega
theorem halvesL (j h : Nat) : j * 2 ^ (h + 1) = 2 * j * 2 ^ h ∧ (j + 1) * 2 ^ (h + 1) = (2 * j + 1 + 1) * 2 ^ h ∧ 2 * j * 2 ^ h ≤ (2 * j + 1) * 2 ^ h ∧ (2 * j + 1) * 2 ^ h ≤ (2 * j + 1 + 1) * 2 ^ h := by
  have e : 2 ^ (h + 1) = 2 * 2 ^ h := by rw [Nat.pow_succ, Nat.mul_comm]
  obtain ⟨e1, e2, e3, e4, e5⟩ := half_eqs j (2 ^ h)
  rw [e]
  omega
theorem into_blk (r o : List Str) : ∀ h j q, q ∈ (into r o h j).2 → q.1 < h ∧ InBlk r o (j * 2 ^ h) ((j + 1) * 2 ^ h) q
  | 0, j, q, m => absurd m List.not_mem_nil
  | h + 1, j, q, m => by
    obtain ⟨e1, e2, e3, e4⟩ := halvesL j h
    have L : q ∈ (into r o h (2 * j)).2 → q.1 < h + 1 ∧ InBlk r o (j * 2 ^ (h + 1)) ((j + 1) * 2 ^ (h + 1)) q := fun m => by
      obtain ⟨a, b⟩ := into_blk r o h (2 * j) q m
      exact ⟨by omega, b.mono (by omega) (by omega)⟩
    have R : q ∈ (into r o h (2 * j + 1)).2 → q.1 < h + 1 ∧ InBlk r o (j * 2 ^ (h + 1)) ((j + 1) * 2 ^ (h + 1)) q := fun m => by
      obtain ⟨a, b⟩ := into_blk r o h (2 * j + 1) q m
      exact ⟨by omega, b.mono (by omega) (by omega)⟩
    have A : ∀ b, alike r o h (2 * j) = b → q = (h, 2 * j, b) → q.1 < h + 1 ∧ InBlk r o (j * 2 ^ (h + 1)) ((j + 1) * 2 ^ (h + 1)) q := fun b hb z => by
      subst z
      exact ⟨Nat.lt_succ_self h, ⟨by show _ ≤ 2 * j * 2 ^ h; omega, by show (2 * j + 1) * 2 ^ h ≤ _; omega, hb.symm⟩⟩
    have B : ∀ b, alike r o h (2 * j + 1) = b → q = (h, 2 * j + 1, b) → q.1 < h + 1 ∧ InBlk r o (j * 2 ^ (h + 1)) ((j + 1) * 2 ^ (h + 1)) q := fun b hb z => by
      subst z
      exact ⟨Nat.lt_succ_self h, ⟨by show _ ≤ (2 * j + 1) * 2 ^ h; omega, by show (2 * j + 1 + 1) * 2 ^ h ≤ _; omega, hb.symm⟩⟩
    have no : ∀ {b : Bool}, ¬ b = true → b = false := fun {b} z => by cases b; rfl; exact absurd rfl z
    unfold into at m
    by_cases c1 : alike r o h (2 * j) = true
    · rw [if_pos c1] at m
      rcases List.mem_cons.mp m with m | m
      · exact A true c1 m
      · exact R m
    · rw [if_neg c1] at m
      by_cases c2 : alike r o h (2 * j + 1) = true
      · rw [if_pos c2] at m
        rcases List.mem_cons.mp m with m | m
        · exact A false (no c1) m
        · rcases List.mem_append.mp m with m | m
          · exact L m
          · exact B true c2 (List.mem_singleton.mp m)
      · rw [if_neg c2] at m
        rcases List.mem_cons.mp m with m | m
        · exact A false (no c1) m
        · rcases List.mem_append.mp m with m | m
          · exact L m
          · rcases List.mem_cons.mp m with m | m
            · exact B false (no c2) m
            · exact R m
theorem nd_app {as bs : List Look} (ha : (as.map keyL).Nodup) (hb : (bs.map keyL).Nodup) (h : ∀ a ∈ as, ∀ b ∈ bs, keyL a ≠ keyL b) : ((as ++ bs).map keyL).Nodup := by
  rw [List.map_append, List.nodup_append]
  refine ⟨ha, hb, fun x hx y hy => ?_⟩
  obtain ⟨a, ha', rfl⟩ := List.mem_map.mp hx
  obtain ⟨b, hb', rfl⟩ := List.mem_map.mp hy
  exact h a ha' b hb'
theorem nd_cons {a : Look} {bs : List Look} (hb : (bs.map keyL).Nodup) (h : ∀ b ∈ bs, keyL a ≠ keyL b) : ((a :: bs).map keyL).Nodup := by
  rw [List.map_cons, List.nodup_cons]
  refine ⟨fun m => ?_, hb⟩
  obtain ⟨b, hb', e⟩ := List.mem_map.mp m
  exact h b hb' e.symm
theorem into_nd (r o : List Str) : ∀ h j, ((into r o h j).2.map keyL).Nodup
  | 0, j => List.nodup_nil
  | h + 1, j => by
    have low : ∀ i x b, x ∈ (into r o h i).2 → keyL (h, b, true) ≠ keyL x ∧ keyL (h, b, false) ≠ keyL x := fun i x b m => by
      have := (into_blk r o h i x m).1
      exact ⟨fun z => by have : h = x.1 := (keyL_eq z).1; omega, fun z => by have : h = x.1 := (keyL_eq z).1; omega⟩
    have lr : ∀ a ∈ (into r o h (2 * j)).2, ∀ b ∈ (into r o h (2 * j + 1)).2, keyL a ≠ keyL b := fun a ha b hb => (into_blk r o h _ a ha).2.apart (into_blk r o h _ b hb).2
    have ne : ∀ b c : Bool, keyL (h, 2 * j, b) ≠ keyL (h, 2 * j + 1, c) := fun b c z => by
      have : 2 * j = 2 * j + 1 := (keyL_eq z).2
      omega
    unfold into
    by_cases c1 : alike r o h (2 * j) = true
    · rw [if_pos c1]
      exact nd_cons (into_nd r o h _) fun x m => (low _ x _ m).1
    · rw [if_neg c1]
      by_cases c2 : alike r o h (2 * j + 1) = true
      · rw [if_pos c2]
        refine nd_cons (nd_app (into_nd r o h _) (by simp) fun a ha b hb => ?_) fun x m => ?_
        · rw [List.mem_singleton.mp hb]
          exact ((low _ a _ ha).1).symm
        · rcases List.mem_append.mp m with m | m
          · exact (low _ x _ m).2
          · rw [List.mem_singleton.mp m]
            exact ne _ _
      · rw [if_neg c2]
        refine nd_cons (nd_app (into_nd r o h _) (nd_cons (into_nd r o h _) fun x m => (low _ x _ m).2) fun a ha b hb => ?_) fun x m => ?_
        · rcases List.mem_cons.mp hb with hb | hb
          · rw [hb]
            exact ((low _ a _ ha).2).symm
          · exact lr a ha b hb
        · rcases List.mem_append.mp m with m | m
          · exact (low _ x _ m).2
          · rcases List.mem_cons.mp m with m | m
            · rw [m]
              exact ne _ _
            · exact (low _ x _ m).2
theorem allG_blk {r o : List Str} {n : Nat} : ∀ (ps : List (Nat × Nat)) (h s : Nat), partsOk n h s ps → (∀ q ∈ (allG r o ps).2, InBlk r o s n q) ∧ ((allG r o ps).2.map keyL).Nodup
  | [], _, _, _ => ⟨fun q m => absurd m List.not_mem_nil, List.nodup_nil⟩
  | (g, j) :: ps, h, s, p => by
    obtain ⟨_, p2, p3⟩ := p
    have le := partsOk_le p3
    obtain ⟨ih1, ih2⟩ := allG_blk (r := r) (o := o) ps g _ p3
    have e : (j + 1) * 2 ^ g = s + 2 ^ g := by rw [Nat.add_mul, Nat.one_mul, p2]
    have head : ∀ b, alike r o g j = b → InBlk r o s (s + 2 ^ g) (g, j, b) := fun b hb => ⟨by show s ≤ j * 2 ^ g; omega, by show (j + 1) * 2 ^ g ≤ _; omega, hb.symm⟩
    have ins : ∀ q ∈ (into r o g j).2, InBlk r o s (s + 2 ^ g) q := fun q m => (into_blk r o g j q m).2.mono (by omega) (by omega)
    have no : ∀ {b : Bool}, ¬ b = true → b = false := fun {b} z => by cases b; rfl; exact absurd rfl z
    unfold allG
    by_cases c : alike r o g j = true
    · rw [if_pos c]
      refine ⟨fun q m => ?_, nd_cons ih2 fun x m => (head true c).apart (ih1 x m)⟩
      rcases List.mem_cons.mp m with m | m
      · rw [m]
        exact (head true c).mono (Nat.le_refl _) le
      · exact (ih1 q m).mono (Nat.le_add_right _ _) (Nat.le_refl _)
    · rw [if_neg c]
      refine ⟨fun q m => ?_, nd_cons (nd_app (into_nd r o g j) ih2 fun a ha b hb => (ins a ha).apart (ih1 b hb)) fun x m => ?_⟩
      · rcases List.mem_cons.mp m with m | m
        · rw [m]
          exact (head false (no c)).mono (Nat.le_refl _) le
        · rcases List.mem_append.mp m with m | m
          · exact (ins q m).mono (Nat.le_refl _) le
          · exact (ih1 q m).mono (Nat.le_add_right _ _) (Nat.le_refl _)
      · rcases List.mem_append.mp m with m | m
        · have := (into_blk r o g j x m).1
          exact fun z => by
            have : g = x.1 := (keyL_eq z).1
            omega
        · exact (head false (no c)).apart (ih1 x m)
theorem allU_blk (r o : List Str) : (∀ q ∈ (allU r o).2, InBlk r o 0 (min r.length o.length) q) ∧ ((allU r o).2.map keyL).Nodup := allG_blk _ _ 0 (parts_ok _)
/-- how many -/
theorem into_few (r o : List Str) : ∀ h j, ¬ alike r o h j = true → 1 ≤ (into r o h j).1.length ∧ (into r o h j).2.length ≤ 2 * h * (into r o h j).1.length
  | 0, j, _ => ⟨Nat.le_refl _, Nat.zero_le _⟩
  | h + 1, j, c => by
    unfold into
    by_cases c1 : alike r o h (2 * j) = true
    · rw [if_pos c1]
      obtain ⟨i1, i2⟩ := into_few r o h (2 * j + 1) fun z => c ((alike_halves r o h j).mpr ⟨c1, z⟩)
      refine ⟨i1, ?_⟩
      show (into r o h (2 * j + 1)).2.length + 1 ≤ 2 * (h + 1) * (into r o h (2 * j + 1)).1.length
      rw [show 2 * (h + 1) = 2 * h + 2 by omega, Nat.add_mul]
      omega
    · rw [if_neg c1]
      obtain ⟨i1, i2⟩ := into_few r o h (2 * j) c1
      by_cases c2 : alike r o h (2 * j + 1) = true
      · rw [if_pos c2]
        refine ⟨i1, ?_⟩
        show ((into r o h (2 * j)).2 ++ [(h, 2 * j + 1, true)]).length + 1 ≤ 2 * (h + 1) * (into r o h (2 * j)).1.length
        rw [List.length_append, show 2 * (h + 1) = 2 * h + 2 by omega, Nat.add_mul]
        show (into r o h (2 * j)).2.length + 1 + 1 ≤ _
        omega
      · rw [if_neg c2]
        obtain ⟨k1, k2⟩ := into_few r o h (2 * j + 1) c2
        show 1 ≤ ((into r o h (2 * j)).1 ++ (into r o h (2 * j + 1)).1).length ∧ ((into r o h (2 * j)).2 ++ (h, 2 * j + 1, false) :: (into r o h (2 * j + 1)).2).length + 1 ≤ 2 * (h + 1) * ((into r o h (2 * j)).1 ++ (into r o h (2 * j + 1)).1).length
        rw [List.length_append, List.length_append, List.length_cons, show 2 * (h + 1) = 2 * h + 2 by omega, Nat.add_mul, Nat.mul_add]
        omega
theorem allG_few {r o : List Str} {n : Nat} : ∀ (ps : List (Nat × Nat)) (h s : Nat), partsOk n h s ps → (allG r o ps).2.length ≤ ps.length + 2 * (h - 1) * (allG r o ps).1.length
  | [], _, _, _ => Nat.le_refl _
  | (g, j) :: ps, h, s, p => by
    obtain ⟨p1, _, p3⟩ := p
    have ih := allG_few (r := r) (o := o) ps g _ p3
    have m1 : 2 * (g - 1) * (allG r o ps).1.length ≤ 2 * (h - 1) * (allG r o ps).1.length := Nat.mul_le_mul_right _ (by omega)
    unfold allG
    by_cases c : alike r o g j = true
    · rw [if_pos c]
      show (allG r o ps).2.length + 1 ≤ ps.length + 1 + 2 * (h - 1) * (allG r o ps).1.length
      omega
    · rw [if_neg c]
      have i2 := (into_few r o g j c).2
      have m2 : 2 * g * (into r o g j).1.length ≤ 2 * (h - 1) * (into r o g j).1.length := Nat.mul_le_mul_right _ (by omega)
      show ((into r o g j).2 ++ (allG r o ps).2).length + 1 ≤ ps.length + 1 + 2 * (h - 1) * ((into r o g j).1 ++ (allG r o ps).1).length
      rw [List.length_append, List.length_append, Nat.mul_add]
      omega
theorem allU_few (r o : List Str) : (allU r o).2.length ≤ dig (min r.length o.length) + 2 * (dig (min r.length o.length) - 1) * (allU r o).1.length := by
  have h1 := allG_few (r := r) (o := o) _ _ 0 (parts_ok (min r.length o.length))
  have h2 := parts_len (min r.length o.length)
  unfold allU
  omega
/-- what the alike ones cover -/
theorem cov_app : ∀ a b : List Look, cov (a ++ b) = cov a ++ cov b
  | [], b => rfl
  | (h, j, al) :: a, b => by
    show _ ++ cov (a ++ b) = (_ ++ cov a) ++ cov b
    rw [cov_app a b, List.append_assoc]
theorem alike_full {r o : List Str} {h j : Nat} (c : alike r o h j = true) : (List.range' (j * 2 ^ h) (2 ^ h)).filter (fun i => !dif r o i) = List.range' (j * 2 ^ h) (2 ^ h) := by
  rw [List.filter_eq_self]
  intro x hx
  rw [List.mem_range'_1] at hx
  have e1 : (j + 1) * 2 ^ h = j * 2 ^ h + 2 ^ h := by rw [Nat.add_mul, Nat.one_mul]
  have := (alike_iff r o h j).mp c x hx.1 (by omega)
  unfold dif
  rw [decide_eq_false (fun z => z this)]
  rfl
theorem into_cov (r o : List Str) : ∀ h j, ¬ alike r o h j = true → cov (into r o h j).2 = (List.range' (j * 2 ^ h) (2 ^ h)).filter (fun i => !dif r o i)
  | 0, j, c => by
    have c' : r[j]? ≠ o[j]? := fun z => c ((alike_iff r o 0 j).mpr fun x h1 h2 => by
      have : x = j := by rw [Nat.pow_zero] at h1 h2; omega
      rw [this]
      exact z)
    rw [Nat.pow_zero, Nat.mul_one]
    show [] = List.filter (fun i => !dif r o i) [j]
    rw [List.filter_cons_of_neg (by unfold dif; rw [decide_eq_true c']; decide)]
    rfl
  | h + 1, j, c => by
    rw [half_range, List.filter_append]
    unfold into
    by_cases c1 : alike r o h (2 * j) = true
    · rw [if_pos c1, alike_full c1, ← into_cov r o h (2 * j + 1) fun z => c ((alike_halves r o h j).mpr ⟨c1, z⟩)]
      rfl
    · rw [if_neg c1]
      by_cases c2 : alike r o h (2 * j + 1) = true
      · rw [if_pos c2, alike_full c2, ← into_cov r o h (2 * j) c1]
        show [] ++ cov ((into r o h (2 * j)).2 ++ [(h, 2 * j + 1, true)]) = _
        rw [List.nil_append, cov_app]
        congr 1
        show List.range' ((2 * j + 1) * 2 ^ h) (2 ^ h) ++ [] = _
        rw [List.append_nil]
      · rw [if_neg c2, ← into_cov r o h (2 * j) c1, ← into_cov r o h (2 * j + 1) c2]
        show [] ++ cov ((into r o h (2 * j)).2 ++ (h, 2 * j + 1, false) :: (into r o h (2 * j + 1)).2) = _
        rw [List.nil_append, cov_app]
        rfl
theorem allG_cov {r o : List Str} {n : Nat} : ∀ (ps : List (Nat × Nat)) (h s : Nat), partsOk n h s ps → cov (allG r o ps).2 = (List.range' s (n - s)).filter (fun i => !dif r o i)
  | [], h, s, p => by
    have : s = n := p
    rw [this, Nat.sub_self]
    rfl
  | (g, j) :: ps, h, s, p => by
    obtain ⟨_, p2, p3⟩ := p
    have le := partsOk_le p3
    have e : List.range' s (n - s) = List.range' (j * 2 ^ g) (2 ^ g) ++ List.range' (s + 2 ^ g) (n - (s + 2 ^ g)) := by
      rw [p2, List.range'_append_1, show 2 ^ g + (n - (s + 2 ^ g)) = n - s by generalize 2 ^ g = P at le ⊢; omega]
    rw [e, List.filter_append]
    unfold allG
    by_cases c : alike r o g j = true
    · rw [if_pos c, alike_full c, ← allG_cov ps g _ p3]
      rfl
    · rw [if_neg c, ← into_cov r o g j c, ← allG_cov ps g _ p3]
      show [] ++ cov ((into r o g j).2 ++ (allG r o ps).2) = _
      rw [List.nil_append, cov_app]
theorem allU_cov (r o : List Str) : cov (allU r o).2 = (List.range (min r.length o.length)).filter (fun i => !dif r o i) := by
  rw [List.range_eq_range']
  exact allG_cov _ _ 0 (parts_ok _)

/-! ### sorted(d), d a dict of whole numbers, any number of them -/
def rSortedD : List V → Hp → VK → Prop := fun vs H Q => ∃ (a : Addr) (kvs : List (Key × V)) (ns : List Int), vs = [.ref a] ∧ H a = some (.dK kvs) ∧ kvs.map (·.1) = ns.map Sum.inl ∧
  ∀ (ns' : List Int) (p : Addr), ns'.Perm ns → ns'.Pairwise (· ≤ ·) → H p = none → Q (.ref p) (upd H p (.lst (ns'.map V.int)))
theorem ints_vals : ∀ (ns : List Int) (us : List Value), us.length = ns.length → (∀ (j : Nat) (v : Value), us[j]? = some v → ∃ t, v = Value.int (ns.getD j 0) t) → Vals (ns.map V.int) us
  | [], [], _, _ => .nil
  | [], _ :: _, e, _ => by cases e
  | _ :: _, [], e, _ => by cases e
  | n :: ns, u :: us, e, h => by
    refine .cons ?_ (ints_vals ns us (Nat.succ.inj e) fun j v hv => ?_)
    · obtain ⟨t, ht⟩ := h 0 u rfl
      exact ⟨t, ht⟩
    · obtain ⟨t, ht⟩ := h (j + 1) v hv
      exact ⟨t, ht⟩
theorem cr_sortedD {X : Cx} (hc : X.calm = true) : CallR X (.builtin "sorted") rSortedD := by
  intro pins s σ H vs us Q I r h
  obtain ⟨a, kvs, ns, rfl, ha, hv, q⟩ := h
  rw [Vals.ref1 r]
  obtain ⟨hz, hsys, vs', rel, dof⟩ := dk_of I.hok ha
  obtain ⟨ep, dat⟩ := dof.dictAt
  have hkeys : vs'.map (·.1) = ns.map Sum.inl := (KV.keys rel).symm.trans hv
  have hlv : vs'.length = ns.length := by
    have := congrArg List.length hkeys
    rw [List.length_map, List.length_map] at this
    exact this
  have hlz : vs'.length ≤ sizeLine := by rw [← KV.length rel]; exact hz
  refine Calls.call_function_entry kind_sorted plain_sorted entry_sorted (args_sorted1 _) ?_
  unfold Builtin.«sorted»
  refine wpAny_bind (m := checkCount "sorted" 1 1 _) (wpAny_pure ?_)
  refine wpAny_bind (PySem.W.kdu_collect (PySem.W.kdl_dict (knd := mixKind X.prog X.w) (kvs := vs') (ep := ep) hsys) (I.ok.hd hc) dat hlz fun h' tk acc hk hit => ?_)
  have hal : acc.toList.length = ns.length := by
    rw [Array.length_toList, hit.1, hlv]
  have hvals : Vals (ns.map V.int) acc.toList := ints_vals ns acc.toList hal fun j v hj => by
    obtain ⟨k, x, hk', hkey⟩ := hit.2 j v (by rw [← Array.getElem?_toList]; exact hj)
    have e1 : (vs'.map (·.1))[j]? = some k := by
      rw [List.getElem?_map, hk']
      rfl
    rw [hkeys, List.getElem?_map] at e1
    obtain ⟨i, hi, e2⟩ := Option.map_eq_some_iff.mp e1
    subst e2
    have hi2 : Value.isInt i v = true := hkey
    obtain ⟨t, e3⟩ := Value.isInt_shape (k := i) (v := v) hi2
    refine ⟨t, ?_⟩
    rw [e3, List.getD_eq_getElem?_getD, hi]
    rfl
  have hints := hvals.ints
  have hz2 : acc.toList.length ≤ sizeLine := by
    rw [hal, ← hlv]
    exact hlz
  have I2 : Inv X pins σ H { s with heap := h', toks := tk } := I.kept hk
  refine wpAny_bind (wpAny_newList ?_ hz2)
  have hoL : (h'.push (PyProof.Rows.seqObj "list" acc.toList.toArray 0)).get? h'.objs.size = some (PyProof.Rows.seqObj "list" acc.toList.toArray 0) := Heap.get?_push_size _ rfl
  refine wpAny_bind (wpAny_holding (wpAny_call_entry PyProof.Rows.slot_list_sort ⟨_, hoL, rfl⟩ PyProof.Rows.entry_list_sort
    (SrtO.list_sort_ord SrtO.swo_int hoL hz2 (fun h2 => SrtO.ints_sortable hints h2) fun out h1 h2 => ⟨_, rfl, ?_⟩) (PyProof.Rows.args_list_sort _)))
  obtain ⟨k1, k2, k3⟩ := SrtO.ints_out hints h1 h2
  obtain ⟨ep2, he'⟩ := PyProof.Rows.sortedHeap_at (vs := acc.toList) (out := out.toArray) hoL
  have hlen : ((out.map SrtO.iv).map V.int).length ≤ sizeLine := by
    rw [List.length_map, k2.length_eq, ← hlv]
    exact hlz
  refine wpAny_pure ⟨_, rfl, ?_⟩
  exact ⟨.ref _, upd H h'.objs.size (.lst ((out.map SrtO.iv).map V.int)), I2.laid (t' := tk) (fun b o e => by
    rw [PyProof.Rows.sortedHeap_old (Nat.ne_of_lt (Heap.lt_size e)) (by rw [Heap.size_push]; exact Nat.lt_succ_of_lt (Heap.lt_size e))]
    exact Heap.get?_push_of_some _ e) (Nat.le_refl _) ⟨hlen, out, ep2, vals_of_ints k1, he'⟩, rfl, q _ _ k2 k3 (I2.hok.fresh (Nat.le_refl _))⟩

/-! ### the places of a set's table, masks of any power of two up to 2^13 -/
def PM (m : Nat) : Prop := ∃ k, 3 ≤ k ∧ k ≤ 13 ∧ m + 1 = 2 ^ k
/-- n steps of 5 x + 1 from 0 -/
def stp : Nat → Nat
  | 0 => 0
  | n + 1 => 5 * stp n + 1
theorem stp_add (b : Nat) : ∀ a, stp (a + b) = 5 ^ a * stp b + stp a
  | 0 => by rw [Nat.zero_add, Nat.pow_zero, Nat.one_mul]; rfl
  | a + 1 => by
    rw [show a + 1 + b = (a + b) + 1 by omega]
    show 5 * stp (a + b) + 1 = 5 ^ (a + 1) * stp b + (5 * stp a + 1)
    rw [stp_add b a, Nat.pow_succ, Nat.mul_add, Nat.mul_comm (5 ^ a) 5, Nat.mul_assoc]
    omega
theorem stp_pow : ∀ n, 4 * stp n + 1 = 5 ^ n
  | 0 => rfl
  | n + 1 => by
    rw [Nat.pow_succ, ← stp_pow n]
    show 4 * (5 * stp n + 1) + 1 = (4 * stp n + 1) * 5
    omega
theorem stp_odd : ∀ n, stp n % 2 = n % 2
  | 0 => rfl
  | n + 1 => by
    have := stp_odd n
    show (5 * stp n + 1) % 2 = _
    omega
theorem stp_dbl (n : Nat) : stp (2 * n) = 2 * (stp n * (2 * stp n + 1)) := by
  rw [Nat.two_mul, stp_add, ← stp_pow n]
  generalize stp n = x
  rw [Nat.add_mul, Nat.one_mul, Nat.mul_add, Nat.mul_one, Nat.mul_assoc 4 x x, Nat.mul_left_comm x 2 x]
  omega
theorem two_cop (k y : Nat) : Nat.Coprime (2 ^ k) (2 * y + 1) := by
  refine Nat.Coprime.pow_left k ?_
  show Nat.gcd 2 (2 * y + 1) = 1
  rw [Nat.gcd_rec, show (2 * y + 1) % 2 = 1 by omega]
  decide
theorem dvd_stp : ∀ k n, 2 ^ k ∣ stp n ↔ 2 ^ k ∣ n
  | 0, n => by simp
  | k + 1, n => by
    have e : (2 : Nat) ^ (k + 1) = 2 * 2 ^ k := by rw [Nat.pow_succ, Nat.mul_comm]
    have ev : ∀ x : Nat, 2 ^ (k + 1) ∣ x → x % 2 = 0 := fun x ⟨c, hc⟩ => by
      rw [hc, e, Nat.mul_assoc]
      exact Nat.mul_mod_right 2 _
    by_cases c : n % 2 = 0
    · obtain ⟨m, rfl⟩ : ∃ m, n = 2 * m := ⟨n / 2, by omega⟩
      rw [stp_dbl, e, Nat.mul_dvd_mul_iff_left (by decide), Nat.mul_dvd_mul_iff_left (by decide), ← dvd_stp k m]
      constructor
      · exact fun h => (two_cop k (stp m)).dvd_of_dvd_mul_right h
      · exact fun h => Nat.dvd_trans h (Nat.dvd_mul_right _ _)
    · constructor
      · intro h
        have := ev _ h
        rw [stp_odd] at this
        exact absurd this c
      · intro h
        exact absurd (ev _ h) c
theorem lcg_stp (m : Nat) : ∀ n, lcgN m n = stp n % (m + 1)
  | 0 => (Nat.zero_mod _).symm
  | n + 1 => by
    show (lcgN m n * 5 + 1) % (m + 1) = (5 * stp n + 1) % (m + 1)
    rw [lcg_stp m n, Nat.mul_comm 5, Nat.add_mod, Nat.mul_mod, Nat.mod_mod, ← Nat.mul_mod, ← Nat.add_mod]
theorem five_cop (k a : Nat) : Nat.Coprime (2 ^ k) (5 ^ a) := by
  refine Nat.Coprime.pow k a ?_
  decide
theorem stp_ne {m : Nat} (hm : PM m) {a b : Nat} (h : a < b) (hb : b ≤ m) : lcgN m a ≠ lcgN m b := fun z => by
  obtain ⟨k, _, _, e⟩ := hm
  rw [lcg_stp, lcg_stp] at z
  obtain ⟨d, rfl⟩ : ∃ d, b = a + d := ⟨b - a, by omega⟩
  rw [stp_add, e] at z
  have h1 : 2 ^ k ∣ 5 ^ a * stp d := by
    have h2 : (2 ^ k) ∣ (5 ^ a * stp d + stp a) - stp a := Nat.dvd_of_mod_eq_zero (Nat.sub_mod_eq_zero_of_mod_eq z.symm)
    rw [Nat.add_sub_cancel] at h2
    exact h2
  have h3 := (dvd_stp k d).mp ((five_cop k a).dvd_of_dvd_mul_left h1)
  have h4 := Nat.le_of_dvd (by omega) h3
  omega
theorem lcg_cover {m : Nat} (hm : PM m) {j : Nat} (hj : j ≤ m) : ∃ b, b ≤ m ∧ lcgN m b = j := by
  have nd : ((List.range (m + 1)).map (lcgN m)).Nodup := by
    rw [List.nodup_iff_pairwise_ne, List.pairwise_map]
    refine List.Pairwise.imp_of_mem (R := (· < ·)) (fun {x y} _ hy h => ?_) List.pairwise_lt_range
    exact stp_ne hm h (Nat.le_of_lt_succ (List.mem_range.mp hy))
  rcases Classical.em (j ∈ (List.range (m + 1)).map (lcgN m)) with c | c
  · obtain ⟨b, hb, e⟩ := List.mem_map.mp c
    exact ⟨b, Nat.le_of_lt_succ (List.mem_range.mp hb), e⟩
  · exfalso
    have := nat_nodup_len (j :: (List.range (m + 1)).map (lcgN m)) (List.range (m + 1)) (List.nodup_cons.mpr ⟨c, nd⟩) fun x hx => by
      rcases List.mem_cons.mp hx with rfl | hx
      · exact List.mem_range.mpr (Nat.lt_succ_of_le hj)
      · obtain ⟨b, _, rfl⟩ := List.mem_map.mp hx
        rw [lcg_stp]
        exact List.mem_range.mpr (Nat.mod_lt _ (Nat.succ_pos _))
    rw [List.length_cons, List.length_map, List.length_range] at this
    omega
theorem lcg_again {m : Nat} (hm : PM m) (k : Nat) : lcgN m (m + 1 + k) = lcgN m k := by
  obtain ⟨n, _, _, e⟩ := hm
  have z : stp (m + 1) % (m + 1) = 0 := by
    have := (dvd_stp n (2 ^ n)).mpr (Nat.dvd_refl _)
    rw [e]
    exact Nat.mod_eq_zero_of_dvd this
  rw [lcg_stp, lcg_stp, Nat.add_comm (m + 1) k, stp_add, Nat.add_mod, Nat.mul_mod, z, Nat.mul_zero, Nat.zero_mod, Nat.zero_add, Nat.mod_mod]
theorem lcg_from {m : Nat} (hm : PM m) {i j : Nat} (hi : i ≤ m) (hj : j ≤ m) : ∃ k, k ≤ m ∧ lcgI m i k = j := by
  obtain ⟨a, ha, rfl⟩ := lcg_cover hm hi
  obtain ⟨b, hb, rfl⟩ := lcg_cover hm hj
  by_cases c : a ≤ b
  · refine ⟨b - a, by omega, ?_⟩
    rw [lcgN_add, show a + (b - a) = b by omega]
  · refine ⟨b + (m + 1) - a, by omega, ?_⟩
    rw [lcgN_add, show a + (b + (m + 1) - a) = m + 1 + b by omega, lcg_again hm]
theorem runs_meet {m : Nat} (hm : PM m) (h : Int) {j : Nat} (hj : j ≤ m) : ∃ n, n ≤ m + 12 ∧ runI m (SetTable.bits h) n = j := by
  obtain ⟨k, hk, e⟩ := lcg_from hm (runI_le m (SetTable.bits h) 12) hj
  refine ⟨12 + k, by omega, ?_⟩
  rw [runI_tail (bits_lt h), e]
theorem way_in (m : Nat) (h : Int) (k : Nat) : way m h k ≤ m := by
  have r := runEnd_bd (m := m) (i := SetTable.bits h % (m + 1)) (Nat.le_of_lt_succ (Nat.mod_lt _ (Nat.succ_pos _)))
  have e : (runAt m (SetTable.bits h % (m + 1)) (SetTable.bits h)).j + (runAt m (SetTable.bits h % (m + 1)) (SetTable.bits h)).more = SetTable.bits h % (m + 1) + (SetTable.runEnd m (SetTable.bits h % (m + 1)) - SetTable.bits h % (m + 1)) := rfl
  have q := nth_in (m := m) k _ (show (runAt m (SetTable.bits h % (m + 1)) (SetTable.bits h)).j + (runAt m (SetTable.bits h % (m + 1)) (SetTable.bits h)).more ≤ m by rw [e]; omega)
  exact Nat.le_trans (Nat.le_add_right _ _) q
/-- a table with room -/
structure GT (t : SetTable) (n : Nat) : Prop where
  ris : Ris t.place.toList
  dm : t.dummies = #[]
  sz : t.place.size = n
  pm : PM t.mask
  bd : ∀ x ∈ t.place.toList, x ≤ t.mask
theorem GT.first {t : SetTable} {n : Nat} (T : GT t n) (hl : n ≤ t.mask) (h : Int) : ∃ K, K < 10 * SetTable.turns t.mask ∧ way t.mask h K ∉ t.place.toList ∧ ∀ k, k < K → way t.mask h k ∈ t.place.toList := by
  obtain ⟨j, hj, hn⟩ := st_missing t.place.toList (t.mask + 1) (by rw [Array.length_toList, T.sz]; omega)
  obtain ⟨n', hn', e⟩ := runs_meet T.pm h (Nat.le_of_lt_succ hj)
  obtain ⟨k, hk, e2⟩ := run_nth t.mask (SetTable.bits h) n'
  have ew : way t.mask h k = j := by
    show (nth t.mask (runAt t.mask (SetTable.bits h % (t.mask + 1)) (SetTable.bits h)) k).j = j
    rw [e2]
    exact e
  obtain ⟨K, h1, h2, h3⟩ := st_least (p := fun k => way t.mask h k ∉ t.place.toList) k (by rw [ew]; exact hn)
  refine ⟨K, by unfold SetTable.turns; omega, h2, fun k' hk' => Classical.byContradiction fun c => h3 k' hk' c⟩
theorem find_free {m : Nat} (hm : PM m) (owner : Array (Option Nat)) (h : Int) {j : Nat} (hj : j ≤ m) (hf : oAt owner j = none) :
    ∃ K, SetTable.layClean.free m owner (SetTable.turns m) (SetTable.bits h % (m + 1)) (SetTable.bits h) = some (way m h K) ∧ oAt owner (way m h K) = none ∧ ∀ k, k < K → oAt owner (way m h k) ≠ none := by
  obtain ⟨n, hn, e⟩ := runs_meet hm h hj
  have ew : way m h (off m (SetTable.bits h % (m + 1)) (SetTable.bits h) n) = j := by
    unfold way
    rw [nth_off, itL_run]
    exact e
  obtain ⟨K, k1, k2, k3⟩ := st_least (p := fun k => oAt owner (way m h k) = none) _ (show oAt owner (way m h (off m (SetTable.bits h % (m + 1)) (SetTable.bits h) n)) = none by rw [ew]; exact hf)
  have occ : ∀ k, k < K → (oAt owner (way m h k)).isNone = false := fun k hk => by
    cases z : oAt owner (way m h k) with
    | none => exact absurd z (k3 k hk)
    | some _ => rfl
  refine ⟨K, free_spec m owner (SetTable.turns m) n _ _ K (by unfold SetTable.turns; omega) k1 occ ?_, k2, k3⟩
  show (oAt owner (way m h K)).isNone = true
  rw [k2]
  rfl
theorem own_step {m : Nat} (hm : PM m) {done : List Int} {owner : Array (Option Nat)} (W : Own m done owner) (hl : done.length ≤ m) (h : Int) :
    ∃ j, SetTable.layClean.free m owner (SetTable.turns m) (SetTable.bits h % (m + 1)) (SetTable.bits h) = some j ∧ Own m (done ++ [h]) (owner.setIfInBounds j (some done.length)) := by
  obtain ⟨ps, hps, hin⟩ := W.ps
  obtain ⟨j0, h0, hn0⟩ := st_missing ps (m + 1) (by omega)
  have hj0 : oAt owner j0 = none := Classical.byContradiction fun c => hn0 (hin j0 (Nat.le_of_lt_succ h0) c)
  obtain ⟨K, e1, e2, e3⟩ := find_free hm owner h (Nat.le_of_lt_succ h0) hj0
  have hjm := way_in m h K
  have hjs : way m h K < owner.size := by rw [W.sz]; omega
  have me := oAt_set_self (some done.length) hjs
  have stays : ∀ {i : Nat}, oAt owner i ≠ none → oAt (owner.setIfInBounds (way m h K) (some done.length)) i ≠ none := fun {i} hi => by
    by_cases c : i = way m h K
    · rw [c, me]
      exact fun z => nomatch z
    · rw [oAt_set_ne _ c]
      exact hi
  refine ⟨way m h K, e1, ⟨by rw [Array.size_setIfInBounds]; exact W.sz, fun j k hj e => ?_, fun k hk => ?_, ⟨way m h K :: ps, by rw [List.length_cons, List.length_append, hps]; rfl, fun j hj e => ?_⟩⟩⟩
  · by_cases c : j = way m h K
    · rw [c, me] at e
      injection e with ek
      subst ek
      exact ⟨h, K, by rw [List.getElem?_append_right (Nat.le_refl _), Nat.sub_self]; rfl, c.symm, fun k' hk' => stays (e3 k' hk')⟩
    · rw [oAt_set_ne _ c] at e
      obtain ⟨h', K', a1, a2, a3⟩ := W.at_ j k hj e
      exact ⟨h', K', by rw [List.getElem?_append_left (List.getElem?_eq_some_iff.mp a1).1]; exact a1, a2, fun k' hk' => stays (a3 k' hk')⟩
  · rw [List.length_append] at hk
    have hk' : k < done.length + 1 := hk
    by_cases c : k < done.length
    · obtain ⟨j, hj, e⟩ := W.all k c
      exact ⟨j, hj, by rw [oAt_set_ne _ (fun z => by rw [z, e2] at e; cases e)]; exact e⟩
    · rw [show k = done.length by omega]
      exact ⟨way m h K, hjm, me⟩
  · by_cases c : j = way m h K
    · rw [c]
      exact List.mem_cons_self
    · rw [oAt_set_ne _ c] at e
      exact List.mem_cons_of_mem _ (hin j hj e)
theorem own_fold {m : Nat} (hm : PM m) : ∀ (rest done : List Int) (owner : Array (Option Nat)), Own m done owner → done.length + rest.length ≤ m →
    ∃ owner', rest.foldl (stepF m) (some (owner, done.length)) = some (owner', (done ++ rest).length) ∧ Own m (done ++ rest) owner'
  | [], done, owner, W, _ => ⟨owner, by rw [List.append_nil]; rfl, by rw [List.append_nil]; exact W⟩
  | h :: rest, done, owner, W, hl => by
    rw [List.length_cons] at hl
    obtain ⟨j, e, W'⟩ := own_step hm W (by omega) h
    have el : (done ++ [h]).length = done.length + 1 := by rw [List.length_append]; rfl
    obtain ⟨o', f, W2⟩ := own_fold hm rest (done ++ [h]) _ W' (by omega)
    rw [List.append_assoc] at f W2
    refine ⟨o', ?_, W2⟩
    rw [List.foldl_cons, stepF_some e, ← el]
    exact f
theorem lay_anew (t : SetTable) {hs : Array Int} {wanted M : Nat} (hw : SetTable.sizeAbove wanted - 1 = M) (hM : PM M) (hn : hs.size ≤ M) :
    ∃ t' order, t.relaid hs wanted = some (t', order) ∧ order.toList.Perm (List.range hs.size) ∧ GT t' hs.size ∧ t'.mask = M ∧ t'.led = t.led ∧ t'.plain = t.plain := by
  obtain ⟨owner, f, W⟩ := own_fold hM hs.toList [] _ (Own.init M) (by rw [Array.length_toList]; show 0 + hs.size ≤ M; omega)
  rw [List.nil_append] at f W
  have hlay : SetTable.layClean M hs = some owner := by
    rw [layClean_eq]
    have f' : hs.toList.foldl (stepF M) (some (Array.replicate (M + 1) none, 0)) = some (owner, hs.toList.length) := f
    rw [f']
    rfl
  have hr : t.relaid hs wanted = some (tabOf t M owner, ((liveOf M owner).map (·.2)).toArray) := by
    rw [relaid_eq, hw, hlay]
    rfl
  obtain ⟨r1, r2⟩ := ris_live (fun j => owner.getD j none) (List.range (M + 1)) (by unfold Ris; exact List.pairwise_lt_range)
  have nd : ((liveOf M owner).map (·.1)).Nodup := List.Pairwise.imp (fun h => Nat.ne_of_lt h) r1
  have hlen : (liveOf M owner).length = hs.size := by
    obtain ⟨ps, p1, p2⟩ := W.ps
    have a := nat_nodup_len _ ps nd fun x hx => by
      obtain ⟨⟨y, k⟩, hq, rfl⟩ := List.mem_map.mp hx
      obtain ⟨b1, b2⟩ := (mem_live W.sz).1 hq
      exact p2 y b1 (by rw [b2]; exact fun z => nomatch z)
    have b := nat_nodup_len (List.range hs.size) ((liveOf M owner).map (·.2)) List.nodup_range fun k hk => by
      obtain ⟨j, b1, b2⟩ := W.all k (by rw [Array.length_toList]; exact List.mem_range.mp hk)
      exact List.mem_map.mpr ⟨(j, k), (mem_live W.sz).2 ⟨b1, b2⟩, rfl⟩
    have hz : hs.toList.length = hs.size := Array.length_toList
    rw [List.length_map, p1, hz] at a
    rw [List.length_map, List.length_range] at b
    omega
  refine ⟨tabOf t M owner, _, hr, perm_range hs.size _ ?_ fun k hk => ?_, ⟨r1, rfl, ?_, hM, fun x hx => ?_⟩, rfl, rfl, rfl⟩
  · show ((liveOf M owner).map (·.2)).length = _
    rw [List.length_map, hlen]
  · obtain ⟨j, b1, b2⟩ := W.all k (by rw [Array.length_toList]; exact hk)
    exact List.mem_map.mpr ⟨(j, k), (mem_live W.sz).2 ⟨b1, b2⟩, rfl⟩
  · show ((liveOf M owner).map (·.1)).toArray.size = _
    rw [List.size_toArray, List.length_map, hlen]
  · exact Nat.le_of_lt_succ (List.mem_range.mp (r2 x hx))
/-- one put in -/
theorem GT.put {t : SetTable} {n : Nat} (T : GT t n) {j : Nat} (hj : j ∉ t.place.toList) (hm : j ≤ t.mask) :
    (t.put j).2 = SetTable.below t.place j ∧ GT (t.put j).1 (n + 1) ∧ (t.put j).1.mask = t.mask ∧ (t.put j).1.led = t.led ∧ (t.put j).1.plain = t.plain := by
  have hp := put_place t j
  have hn : t.place[SetTable.below t.place j]? ≠ some j := fun z => hj (List.mem_of_getElem? (by rw [Array.getElem?_toList]; exact z))
  refine ⟨rfl, ⟨ris_insert T.ris hn, put_dm T.dm j, ?_, T.pm, fun x hx => ?_⟩, rfl, rfl, rfl⟩
  · have h1 := congrArg List.length hp
    obtain ⟨c1, _, _⟩ := below_cut T.ris j
    rw [len_ins _ c1, Array.length_toList, Array.length_toList, T.sz] at h1
    exact h1
  · rw [hp] at hx
    rcases mem_ins.mp hx with rfl | hx
    · exact hm
    · exact T.bd x hx

/-! ### a set of tuples that gets only new ones -/
abbrev tupsE (P : Program) (w : World) (L : List (Addr × List Int)) : List (Int × Value) := L2.rowsOf P w L
structure SG (P : Program) (w : World) (h : Heap) (a : Addr) (L : List (Addr × List Int)) (es : Array (Int × Value)) (ep : Nat) (t : SetTable) : Prop where
  ob : ∃ o, h.get? a = some o ∧ o.ExactSet ∧ o.data = .set es ep t
  rows : es.toList = tupsE P w L
  tab : GT t L.length
  nd : (L.map (·.2)).Nodup
  tup : ∀ p ∈ L, IsT P w h p.2 p.1
  plain : t.plain = true
  led : w.params.followText "set-order" = true ∨ t.led = true
  room : L.length * 5 < t.mask * 3
  few : L.length ≤ 2000
theorem PM.odd {m : Nat} (h : PM m) : m % 2 = 1 := by
  obtain ⟨k, h1, _, e⟩ := h
  obtain ⟨j, rfl⟩ : ∃ j, k = j + 1 := ⟨k - 1, by omega⟩
  rw [Nat.pow_succ] at e
  omega
theorem PM.le {m : Nat} (h : PM m) : m ≤ 8191 := by
  obtain ⟨k, _, h2, e⟩ := h
  have := Nat.pow_le_pow_right (show 0 < 2 by decide) h2
  omega
section
variable {P : Program} {w : World} {A : Around} {E : Value → Shared → Prop} {s : Shared} {a : Addr} {L : List (Addr × List Int)} {es : Array (Int × Value)} {ep : Nat} {t : SetTable}
theorem tupsE_len (L : List (Addr × List Int)) : (tupsE P w L).length = L.length := List.length_map _
theorem SG.size (R : SG P w s.heap a L es ep t) : es.size = L.length := by
  rw [← Array.length_toList, R.rows, tupsE_len]
theorem fits_of {n : Nat} (T : GT t n) (h : n ≤ t.mask) : t.fits n = true := by
  unfold SetTable.fits SetTable.fill
  rw [T.dm, T.sz, Bool.and_eq_true, beq_iff_eq, decide_eq_true_eq]
  exact ⟨rfl, h⟩
theorem SG.fits (R : SG P w s.heap a L es ep t) : t.fits es.size = true := by
  rw [R.size]
  exact fits_of R.tab (by have := R.room; omega)
theorem SG.entry (R : SG P w s.heap a L es ep t) {i : Nat} {p : Addr × List Int} (h : L[i]? = some p) : es[i]? = some (thash P w p.2, Value.ref p.1) := by
  rw [← Array.getElem?_toList, R.rows]
  show (L.map _)[i]? = _
  rw [List.getElem?_map, h]
  rfl
theorem SG.gw (R : SG P w s.heap a L es ep t) : ¬ t.gaveWay = true := by
  unfold SetTable.gaveWay
  rw [R.tab.pm.odd]
  decide
theorem nth_dummy (m : Nat) : ∀ (n : Nat) (p : SetTable.Probe), p.dummy = none → (nth m p n).dummy = none
  | 0, _, h => h
  | n + 1, p, h => nth_dummy m n (adv m p) (by unfold adv; split <;> exact h)
/-- the search for what isn't there, from the c-th step of its way on -/
theorem seek (R : SG P w s.heap a L es ep t) {x : Addr} {k : List Int} (hx : IsT P w s.heap k x) (hu : A.units < cLine) (hn : k ∉ L.map (·.2)) {K : Nat} (hKf : K < 10 * SetTable.turns t.mask)
    (hK : way t.mask (thash P w k) K ∉ t.place.toList) (hKb : ∀ c, c < K → way t.mask (thash P w k) c ∈ t.place.toList) {Q : SetFound → Shared → Prop} (hout : Q (.free (way t.mask (thash P w k) K) false) s) :
    ∀ (f c : Nat) (stand : Option SetTable.Probe), stand.getD (t.probeStart (thash P w k)) = nth t.mask (runAt t.mask (SetTable.bits (thash P w k) % (t.mask + 1)) (SetTable.bits (thash P w k))) c → c ≤ K → K - c < f →
      wpAny (model P w) A (setSearchFrom a (.ref x) (thash P w k) true f stand) Q E s
  | 0, _, _, _, _, hf => absurd hf (Nat.not_lt_zero _)
  | f + 1, c, stand, hst, hc, hf => by
    obtain ⟨o, ho, hex, hd⟩ := R.ob
    rw [setSearchFrom_succ]
    refine wpAny_bind (wpAny_setState_of ho hd R.fits ?_)
    dsimp only
    refine wp_if_neg R.gw ?_
    try refine wpAny_bind (wpAny_pure ?_)
    generalize hp0 : runAt t.mask (SetTable.bits (thash P w k) % (t.mask + 1)) (SetTable.bits (thash P w k)) = p0 at hst
    have ew : ∀ q, (nth t.mask (nth t.mask p0 c) q).j = way t.mask (thash P w k) (c + q) := fun q => by
      rw [← nth_add, ← hp0]
    have hnd : (nth t.mask p0 c).dummy = none := nth_dummy _ c p0 (by rw [← hp0]; rfl)
    have spec := go_spec t R.tab.ris R.tab.dm (fun i => (es[i]?.map (·.1)).getD 0) (thash P w k) (10 * SetTable.turns t.mask) (K - c) (nth t.mask p0 c) hnd (by omega)
      (fun q hq => by rw [ew]; exact hKb _ (by omega)) (by rw [ew, show c + (K - c) = K by omega]; exact hK)
    rcases spec with ⟨q, i, hq, hi, _, _, hpr⟩ | ⟨_, hpr⟩
    · have hpr2 : t.probe (fun i => (es[i]?.map (·.1)).getD 0) (thash P w k) (stand.getD (t.probeStart (thash P w k))) = some (.candidate (nth t.mask (nth t.mask p0 c) q).j i (nth t.mask (nth t.mask p0 c) (q + 1))) := by
        rw [hst]
        exact hpr
      rw [hpr2]
      dsimp only
      have hil : i < L.length := by
        have h1 := (List.getElem?_eq_some_iff.mp hi).1
        rw [Array.length_toList, R.tab.sz] at h1
        exact h1
      obtain ⟨p, hp⟩ : ∃ p, L[i]? = some p := ⟨_, List.getElem?_eq_getElem hil⟩
      have hmem : p ∈ L := List.mem_of_getElem? hp
      have hkk : ¬ p.2 = k := fun z => hn (List.mem_map.mpr ⟨p, hmem, z⟩)
      have on : wpAny (model P w) A (searchRest a (.ref x) (thash P w k) true f es t (nth t.mask (nth t.mask p0 c) q).j i (nth t.mask (nth t.mask p0 c) (q + 1))) Q E s := by
        unfold searchRest
        rw [R.entry hp]
        dsimp only
        refine wpAny_bind (wpAny_holding (wpAny_eqBool_tuple hu (R.tup p hmem) hx ?_))
        refine wpAny_bind (wpAny_setState_of ho hd R.fits ?_)
        dsimp only
        refine wp_if_neg (by simp [hkk]) ?_
        try refine wpAny_bind (wpAny_pure ?_)
        rw [sameMem]
        dsimp only
        simp only [if_true, slot_live R.tab.ris hi, R.entry hp]
        refine wpAny_bind (wpAny_isSame_ref_self (wpAny_bind (wpAny_pure ?_)))
        simp only [if_true]
        refine wp_if_neg (by simp [hkk]) ?_
        refine seek R hx hu hn hKf hK hKb hout f (c + (q + 1)) _ ?_ (by omega) (by omega)
        show nth t.mask (nth t.mask p0 c) (q + 1) = _
        rw [hp0]
        exact (nth_add t.mask c p0 (q + 1)).symm
      by_cases hl : t.led = true
      · refine wp_if_neg (by simp [hl]) ?_
        try refine wpAny_bind (wpAny_pure ?_)
        exact on
      · refine wp_if_pos (by simp [hl]) ?_
        refine wpAny_bind (seen_tup hx (fun y hy => ?_) ?_)
        · obtain ⟨e, he, ee⟩ := List.mem_map.mp hy
          have he2 : e ∈ es.toList := by
            have : e ∈ es ∧ e.1 = thash P w k := by simpa using he
            simpa using this.1
          rw [R.rows] at he2
          obtain ⟨p2, hp2, e2⟩ := List.mem_map.mp he2
          exact ⟨p2.2, p2.1, by rw [← ee, ← e2], R.tup p2 hp2⟩
        · refine wp_if_neg (by decide) ?_
          try refine wpAny_bind (wpAny_pure ?_)
          exact on
    · have hpr2 : t.probe (fun i => (es[i]?.map (·.1)).getD 0) (thash P w k) (stand.getD (t.probeStart (thash P w k))) = some (.empty (way t.mask (thash P w k) K) none) := by
        rw [hst, show way t.mask (thash P w k) K = (nth t.mask (nth t.mask p0 c) (K - c)).j by rw [ew, show c + (K - c) = K by omega]]
        exact hpr
      rw [hpr2]
      dsimp only
      exact wpAny_pure hout
theorem seek_at (R : SG P w s.heap a L es ep t) {x : Addr} {k : List Int} (hx : IsT P w s.heap k x) (hu : A.units < cLine) (hn : k ∉ L.map (·.2)) {Q : SetFound → Shared → Prop}
    (hout : ∀ K, way t.mask (thash P w k) K ∉ t.place.toList → Q (.free (way t.mask (thash P w k) K) false) s) : wpAny (model P w) A (setSearch a (.ref x) (thash P w k) true) Q E s := by
  have hr := R.room
  obtain ⟨K, hKf, hK, hKb⟩ := R.tab.first (by omega) (thash P w k)
  have hm := R.tab.pm.le
  unfold setSearch
  refine seek R hx hu hn hKf hK hKb (hout K hK) 100000 0 none rfl (Nat.zero_le _) ?_
  unfold SetTable.turns at hKf
  omega
end

theorem above_go (N : Nat) (hN : N < 8192) : ∀ (f k : Nat), 3 ≤ k → k ≤ 13 → 13 - k < f → ∃ k', 3 ≤ k' ∧ k' ≤ 13 ∧ SetTable.sizeAbove.go N f (2 ^ k) = 2 ^ k' ∧ N < 2 ^ k'
  | 0, k, _, _, h => absurd h (Nat.not_lt_zero _)
  | f + 1, k, h1, h2, h3 => by
    unfold SetTable.sizeAbove.go
    by_cases c : 2 ^ k ≤ N
    · rw [if_pos c]
      have hk : k ≠ 13 := fun z => by
        rw [z] at c
        have : (2 : Nat) ^ 13 = 8192 := by decide
        omega
      obtain ⟨k', a, b, d, e⟩ := above_go N hN f (k + 1) (by omega) (by omega) (by omega)
      exact ⟨k', a, b, by rw [← d, Nat.pow_succ], e⟩
    · rw [if_neg c]
      exact ⟨k, h1, h2, rfl, Nat.lt_of_not_le c⟩
theorem grown_ok {n : Nat} (h1 : 1 ≤ n) (h2 : n ≤ 2000) : ∃ M, SetTable.sizeAbove (SetTable.grown n) - 1 = M ∧ PM M ∧ SetTable.sizeAbove (SetTable.grown n) ≤ 8192 ∧ n * 5 < M * 3 ∧ n ≤ M := by
  have e : SetTable.grown n = 4 * n := by
    unfold SetTable.grown
    rw [if_neg (by omega), Nat.mul_comm]
  rw [e]
  obtain ⟨k, a, b, d, f⟩ := above_go (4 * n) (by omega) 64 3 (Nat.le_refl _) (by decide) (by decide)
  have hs : SetTable.sizeAbove (4 * n) = 2 ^ k := d
  have hp : (2 : Nat) ^ k ≤ 2 ^ 13 := Nat.pow_le_pow_right (by decide) b
  have e13 : (2 : Nat) ^ 13 = 8192 := by decide
  rw [hs]
  exact ⟨2 ^ k - 1, rfl, ⟨k, a, b, by omega⟩, by omega, by omega, by omega⟩
section
variable {P : Program} {w : World} {A : Around} {E : Value → Shared → Prop} {s : Shared} {a : Addr} {L : List (Addr × List Int)} {es : Array (Int × Value)} {ep : Nat} {t : SetTable}
theorem relay_big {o : Obj} (ho : s.heap.get? a = some o) (hex : o.ExactSet) (hd : o.data = .set es ep t) (hrows : es.toList = tupsE P w L) (T : GT t L.length) (hfl : L.length ≤ t.mask)
    (nd : (L.map (·.2)).Nodup) (tup : ∀ p ∈ L, IsT P w s.heap p.2 p.1) (pl : t.plain = true) (ld : w.params.followText "set-order" = true ∨ t.led = true) (few : L.length ≤ 2000) {wanted M : Nat}
    (hw : SetTable.sizeAbove wanted - 1 = M) (hM : PM M) (hw2 : SetTable.sizeAbove wanted ≤ 8192) (hn : L.length * 5 < M * 3) (hnM : L.length ≤ M) {Q : Unit → Shared → Prop}
    (hQ : ∀ h' L' es' ep' t', Heap.SameBut a s.heap h' → SG P w h' a L' es' ep' t' → L'.Perm L → Q () { s with heap := h' }) : wpAny (model P w) A (setRelay a wanted) Q E s := by
  have hsl : es.size = L.length := by
    rw [← Array.length_toList, hrows, tupsE_len]
  have hfits : t.fits es.size = true := by
    rw [hsl]
    exact fits_of T hfl
  obtain ⟨t', order, e, hp, T', em, el, ep'⟩ := lay_anew t (hs := es.map (·.1)) (wanted := wanted) hw hM (by rw [Array.size_map, hsl]; exact hnM)
  rw [Array.size_map, hsl] at hp T'
  obtain ⟨L2, r1, r2, r3⟩ := order_rows L es order hrows hp
  have hs2 : (order.filterMap (es[·]?)).size = es.size := by
    rw [← Array.length_toList, r1, hsl, ← r2.length_eq]
    exact tupsE_len (P := P) (w := w) L2
  rw [setRelay_eq]
  refine wpAny_bind (wpAny_setState_of ho hd hfits ?_)
  dsimp only
  refine wp_if_neg (by rw [sizeLine_eq]; omega) ?_
  try refine wpAny_bind (wpAny_pure ?_)
  rw [e]
  dsimp only
  refine wpAny_bind ?_
  refine wp_if_neg (by rw [hs2]; simp) ?_
  try refine wpAny_bind (wpAny_pure ?_)
  refine wpAny_pure ?_
  dsimp only
  refine wpAny_storeSet_of ho hd ?_ (by rw [hs2, hsl, sizeLine_eq]; omega)
  have sb : Heap.SameBut a s.heap (s.heap.update a (Obj.putSet (order.filterMap (es[·]?)) t')) := Heap.SameBut.update ..
  refine hQ _ L2 (order.filterMap (es[·]?)) (ep + 1) t' sb ?_ r2
  exact
    { ob := ⟨_, store_at ho hd, ⟨hex.1, hex.2.1, hex.2.2⟩, rfl⟩
      rows := r1
      tab := by rw [r2.length_eq]; exact T'
      nd := (r2.map (·.2)).nodup_iff.mpr nd
      tup := fun p hpm => isT_same (tup p (r2.mem_iff.mp hpm)) ho hd sb
      plain := by rw [ep']; exact pl
      led := by rw [el]; exact ld
      room := by rw [r2.length_eq, em]; exact hn
      few := by rw [r2.length_eq]; exact few }
theorem add_new (R : SG P w s.heap a L es ep t) {x : Addr} {k : List Int} (hx : IsT P w s.heap k x) (hu : A.units < cLine) (hm : k ∉ L.map (·.2)) (hfew : L.length + 1 ≤ 2000) {Q : Bool → Shared → Prop}
    (hQ : ∀ b h' L' es' ep' t', Heap.SameBut a s.heap h' → SG P w h' a L' es' ep' t' → L'.Perm ((x, k) :: L) → Q b { s with heap := h' }) :
    wpAny (model P w) A (setAddHashed a (.ref x) (thash P w k)) Q E s := by
  obtain ⟨o, ho, hex, hd⟩ := R.ob
  have hsl := R.size
  have hroom := R.room
  unfold setAddHashed
  refine wpAny_holding ?_
  rw [show (100000 : Nat) = 99999 + 1 from rfl, setAddHashedIn_succ]
  refine wpAny_bind (wpAny_setState_of ho hd R.fits ?_)
  dsimp only
  refine wp_if_neg (by simp [byScan, Value.scannable]) ?_
  try refine wpAny_bind (wpAny_pure ?_)
  refine wpAny_bind (seek_at R hx hu hm fun K hK => ?_)
  dsimp only
  refine wpAny_bind (wpAny_setState_of ho hd R.fits ?_)
  dsimp only
  obtain ⟨q1, q3, q4, q5, q6⟩ := R.tab.put hK (way_in t.mask (thash P w k) K)
  have hp1 : (t.put (way t.mask (thash P w k) K)).1.plain = true := by rw [q6]; exact R.plain
  generalize hpt : t.put (way t.mask (thash P w k) K) = pt at q1 q3 q4 q5 q6 hp1 ⊢
  obtain ⟨t1, p⟩ := pt
  dsimp only at q1 q3 q4 q5 q6 hp1 ⊢
  subst q1
  first
    | (refine wpAny_bind ?_; refine wp_if_pos hp1 ?_; refine hashBy_tup hx ?_)
    | refine wp_if_pos hp1 (wpAny_bind (hashBy_tup hx ?_))
  simp only [if_true]
  have hin : (SetTable.insertAt es (SetTable.below t.place (way t.mask (thash P w k) K)) (thash P w k, Value.ref x)).toList = tupsE P w (L.take (SetTable.below t.place (way t.mask (thash P w k) K)) ++ (x, k) :: L.drop (SetTable.below t.place (way t.mask (thash P w k) K))) := by
    rw [SetTable.toList_insertAt, R.rows]
    exact (rows_put L _ x k).symm
  generalize hpp : SetTable.below t.place (way t.mask (thash P w k) K) = p at hin ⊢
  have pm := put_perm L p (x, k)
  have hlen : (L.take p ++ (x, k) :: L.drop p).length = L.length + 1 := pm.length_eq
  rw [← hlen] at q3
  have nd1 : ((L.take p ++ (x, k) :: L.drop p).map (·.2)).Nodup := by
    refine (pm.map (·.2)).nodup_iff.mpr ?_
    rw [List.map_cons]
    exact List.nodup_cons.mpr ⟨hm, R.nd⟩
  have hes : (SetTable.insertAt es p (thash P w k, Value.ref x)).size = L.length + 1 := by
    rw [← Array.length_toList, hin, tupsE_len, hlen]
  generalize SetTable.insertAt es p (thash P w k, Value.ref x) = es1 at hin hes ⊢
  generalize L.take p ++ (x, k) :: L.drop p = L1 at pm hlen q3 nd1 hin
  refine wpAny_bind (wpAny_storeSet_of ho hd ?_ (by rw [hes, sizeLine_eq]; omega))
  have sb : Heap.SameBut a s.heap (s.heap.update a (Obj.putSet es1 t1)) := Heap.SameBut.update ..
  have ho1 := store_at (es' := es1) (t' := t1) ho hd
  generalize s.heap.update a (Obj.putSet es1 t1) = h1 at sb ho1 ⊢
  have tup1 : ∀ p ∈ L1, IsT P w h1 p.2 p.1 := fun p hp => by
    rcases List.mem_cons.mp (pm.mem_iff.mp hp) with e | hp
    · rw [e]; exact isT_same hx ho hd sb
    · exact isT_same (R.tup p hp) ho hd sb
  have ld1 : w.params.followText "set-order" = true ∨ t1.led = true := by rw [q5]; exact R.led
  have hfill : t1.fill = L1.length := by
    unfold SetTable.fill
    rw [q3.dm, q3.sz]
    rfl
  by_cases hf : t1.tooFull = true
  · first
      | (refine wpAny_bind ?_; refine wp_if_pos (by simp [hf]) ?_)
      | (refine wp_if_pos (by simp [hf]) ?_; refine wpAny_bind ?_)
    rw [hsl]
    obtain ⟨M, m1, m2, m3, m4, m5⟩ := grown_ok (n := L.length + 1) (by omega) hfew
    refine relay_big (s := { s with heap := h1 }) ho1 ⟨hex.1, hex.2.1, hex.2.2⟩ rfl hin q3 (by rw [hlen, q4]; omega) nd1 tup1 hp1 ld1 (by rw [hlen]; exact hfew) m1 m2 m3 (by rw [hlen]; exact m4) (by rw [hlen]; exact m5) ?_
    intro h2 L2 es2 ep2 t2 sb2 R2 pm2
    exact wpAny_pure (hQ true h2 L2 es2 ep2 t2 (sb.trans sb2) R2 (pm2.trans pm))
  · first
      | refine wp_if_neg (by simp [hf]) ?_
      | (refine wpAny_bind ?_; refine wp_if_neg (by simp [hf]) ?_; refine wpAny_pure ?_)
    refine wpAny_pure (hQ true h1 L1 es1 (ep + 1) t1 sb
      { ob := ⟨_, ho1, ⟨hex.1, hex.2.1, hex.2.2⟩, rfl⟩, rows := hin, tab := q3, nd := nd1, tup := tup1, plain := hp1, led := ld1, room := ?_, few := by rw [hlen]; exact hfew } pm)
    have h := hf
    unfold SetTable.tooFull at h
    rw [decide_eq_true_eq, hfill] at h
    omega
theorem SG.keep {h h' : Heap} (R : SG P w h a L es ep t) (ha : ∀ o, h.get? a = some o → h'.get? a = some o) (ht : ∀ p ∈ L, IsT P w h' p.2 p.1) : SG P w h' a L es ep t := by
  obtain ⟨o, ho, r⟩ := R.ob
  exact ⟨⟨o, ha o ho, r⟩, R.rows, R.tab, R.nd, ht, R.plain, R.led, R.room, R.few⟩
theorem sg_fresh {h : Heap} (ho : h.get? a = some { cls := .type "set", dict := none, data := .set #[] 0 (.fresh 0 0 (!w.params.followText "set-order")) }) : SG P w h a [] #[] 0 (.fresh 0 0 (!w.params.followText "set-order")) where
  ob := ⟨_, ho, ⟨rfl, rfl, rfl⟩, rfl⟩
  rows := rfl
  tab := ⟨List.Pairwise.nil, rfl, rfl, ⟨3, by decide, by decide, rfl⟩, fun x hx => (by cases hx)⟩
  nd := List.nodup_nil
  tup := fun p hp => (by cases hp)
  plain := rfl
  led := by
    show _ ∨ (!w.params.followText "set-order") = true
    cases w.params.followText "set-order"
    · exact .inr rfl
    · exact .inl rfl
  room := by
    show 0 * 5 < 7 * 3
    decide
  few := Nat.zero_le _
/-- set.update's loop over tuples that are all different -/
theorem set_update_new {I : Addr} {fp wr : List Addr} {G : Array GenState → Array GenState → Prop} {n : Nat} {Pv : Nat → Value → Prop} {St : Nat → Shared → Prop} {R : Result → Shared → Prop}
    (W : WalksS P w A.in1 I fp wr G n Pv St) (S : Addr) (hSf : S ∉ fp) (ks : List (Addr × List Int)) (hn : n = ks.length) (hfew : ks.length ≤ 2000) (hnd : (ks.map (·.2)).Nodup) (hval : ∀ i v, Pv i v → ∃ p, ks[i]? = some p ∧ v = .ref p.1)
    (h0 : Heap) (hk : ∀ p ∈ ks, IsT P w h0 p.2 p.1) (hS0 : h0.get? S = none) (hw0 : ∀ b ∈ wr, h0.get? b = none) (hu : A.in1.units < cLine) :
    ∀ (k i : Nat) (s : Shared), n - i = k → i ≤ n → St i s → (∀ b o, h0.get? b = some o → s.heap.get? b = some o) → (∃ L es ep t, SG P w s.heap S L es ep t ∧ L.Perm (ks.take i)) →
      (∀ s' L es ep t, Moved (S :: wr) G s s' → SG P w s'.heap S L es ep t → L.Perm (ks.take n) → (∀ b o, h0.get? b = some o → s'.heap.get? b = some o) → R (.ok (.ret .none)) s') →
      codeAny (model P w) A (.builtin "set.update.loop" ⟨[.ref S, .ref I], []⟩) R s := by
  have hSw : S ∉ wr := fun h => hSf (W.sub _ h)
  have hsub : ∀ b ∈ wr, b ∈ S :: wr := fun b hb => List.mem_cons_of_mem _ hb
  have keepM : ∀ {s s' : Shared}, Moved wr G s s' → (∀ b o, h0.get? b = some o → s.heap.get? b = some o) → ∀ b o, h0.get? b = some o → s'.heap.get? b = some o := fun hm hkp b o e =>
    hm.heap b o (fun hb => by rw [hw0 b hb] at e; cases e) (hkp b o e)
  intro k
  induction k with
  | zero =>
    intro i s hk' hi hst hkp ⟨L, es, ep, t, hS, g⟩ hR
    have hin : i = n := by omega
    subst hin
    refine codeAny_builtin F.entry_set_update_loop ?_
    rw [Around.under_plainId F.plain_set_update_loop _]
    show wpAny _ A.in1 (pyNext (.ref I) >>= _) _ _ s
    refine wpAny_bind (W.done s _ _ hst fun s' hm => ?_)
    show wpAny _ A.in1 (ret Value.none) _ _ s'
    have hkp' := keepM hm hkp
    have sub : ∀ p ∈ L, p ∈ ks := fun p hp => List.mem_of_mem_take (g.mem_iff.mp hp)
    exact wpAny_pure (hR s' L es ep t (hm.mono hsub) (hS.keep (fun o e => hm.heap S o hSw e) fun p hp => isT_keep (hk p (sub p hp)) hkp') g hkp')
  | succ k ih =>
    intro i s hk' hi hst hkp ⟨L, es, ep, t, hS, g⟩ hR
    have hlt : i < n := by omega
    refine codeAny_builtin F.entry_set_update_loop ?_
    rw [Around.under_plainId F.plain_set_update_loop _]
    show wpAny _ A.in1 (pyNext (.ref I) >>= _) _ _ s
    refine wpAny_bind (W.item i s _ _ hlt hst fun v s' hP hst' hm => ?_)
    obtain ⟨p, hp, rfl⟩ := hval i v hP
    have hkp' := keepM hm hkp
    have sub : ∀ p ∈ L, p ∈ ks := fun p hp => List.mem_of_mem_take (g.mem_iff.mp hp)
    have hS' : SG P w s'.heap S L es ep t := hS.keep (fun o e => hm.heap S o hSw e) fun q hq => isT_keep (hk q (sub q hq)) hkp'
    have hx : IsT P w s'.heap p.2 p.1 := isT_keep (hk p (List.mem_of_getElem? hp)) hkp'
    have tn := take_next hp
    have hlen : L.length ≤ i := by rw [g.length_eq, List.length_take]; omega
    have hnew : p.2 ∉ L.map (·.2) := fun z => by
      have z2 : p.2 ∈ (ks.take i).map (·.2) := (g.map (·.2)).mem_iff.mp z
      have nd2 : ((ks.take (i + 1)).map (·.2)).Nodup := List.Sublist.nodup ((List.take_sublist _ _).map _) hnd
      rw [tn, List.map_append, List.nodup_append] at nd2
      exact nd2.2.2 _ z2 _ List.mem_cons_self rfl
    show wpAny _ A.in1 (holding [Value.ref p.1] (setAdd S (.ref p.1)) >>= _) _ _ s'
    refine wpAny_bind (wpAny_holding ?_)
    unfold setAdd
    refine wpAny_holding ?_
    refine wpAny_bind (wpAny_pyHash_tuple hu hx ?_)
    refine add_new (s := { s' with toks := s'.toks + (p.2.length + 1) }) hS' hx hu hnew (by omega) fun b h' L' es' ep' t' hsb hS2 c2 => ?_
    have g' : L'.Perm (ks.take (i + 1)) := by
      rw [tn]
      exact (c2.trans (List.Perm.cons _ g)).trans (List.perm_append_singleton _ _).symm
    have hkp2 : ∀ b o, h0.get? b = some o → h'.get? b = some o := fun b o e => (hsb.2 b (fun z => by rw [z, hS0] at e; cases e)).trans (hkp' b o e)
    refine wpAny_pure ⟨plainId_quiet F.plain_set_update_loop _, ih (i + 1) _ (by omega) hlt (W.frame _ s' _ _ hst' (Nat.le_add_right _ _) fun b hb o e => ?_) hkp2 ⟨L', es', ep', t', hS2, g'⟩ fun s'' L2 es2 ep2 t2 hm'' hS'' g'' hkp'' => ?_⟩
    · rw [hsb.2 b (fun h : b = S => hSf (by rw [← h]; exact hb))]; exact e
    · refine hR s'' L2 es2 ep2 t2 (Moved.trans W.gtrans ((hm.mono hsub).then_heap (Nat.le_add_right _ _) fun b o hb e => ?_) hm'') hS'' g'' hkp''
      rw [hsb.2 b (fun h : b = S => hb (by rw [h]; exact List.mem_cons_self))]; exact e
set_option maxRecDepth 100000 in
set_option maxHeartbeats 3200000 in
/-- set(xs), xs tuples that are all different -/
theorem call_set_new {l : Addr} {items : Array Value} (ks : List (Addr × List Int)) {Q : Value → Shared → Prop} (hh : A.handled = none) (hl : s.heap.IsList l items) (hit : items.toList = ks.map fun p => Value.ref p.1)
    (hk : ∀ p ∈ ks, IsT P w s.heap p.2 p.1) (hnd : (ks.map (·.2)).Nodup) (hfew : ks.length ≤ 2000) (hu : A.units + 3 < cLine)
    (h : ∀ (h' : Heap) (tk : Nat) L es ep t, SG P w h' s.heap.objs.size L es ep t → L.length = ks.length → (∀ b o, s.heap.get? b = some o → h'.get? b = some o) → Q (.ref s.heap.objs.size) { s with heap := h', toks := tk }) :
    wpAny (model P w) A (call (.type "set") [.ref l]) Q E s := by
  have hisz : items.size = ks.length := by
    have q := congrArg List.length hit
    rw [Array.length_toList, List.length_map] at q
    exact q
  obtain ⟨c, tl, hmro⟩ := F.called_set.mro
  have hmade := F.called_set.made
  have hsub := F.called_set.sub
  refine wpAny_call (codeAny_of_tree ?_)
  show wpAny _ _ (callAny (.type "set") _) _ _ _
  refine wpAny_pure ⟨Code.quiet_builtin _ (by decide +kernel), codeAny_builtin F.entry_type_call ?_⟩
  rw [Around.under_plain (weight_type_call_type "set" [.ref l] []) rfl]
  have h1 := F.called_set.notType
  have h2 := F.called_set.canCreate
  have hct := F.typeCall_set_1 (.ref l)
  repeat (any_goals (first | assumption | wp_step))

  refine codeAny_mono (code_set_led1 (.ref l) (E := E) (Q₁ := fun obj s₁ => obj = .ref s.heap.objs.size ∧ s₁ = { s with heap := s.heap.push { cls := .type "set", dict := none, data := .set #[] 0 (.fresh 0 0 (!w.params.followText "set-order")) } }) ⟨rfl, rfl⟩) fun r s₁ hr => ?_
  cases r with
  | error e => exact hr
  | ok fl =>
    cases fl with
    | ret obj =>
      obtain ⟨rfl, rfl⟩ := hr
      have hS : (s.heap.push { cls := .type "set", dict := none, data := .set #[] 0 (.fresh 0 0 (!w.params.followText "set-order")) }).get? s.heap.objs.size = some { cls := .type "set", dict := none, data := .set #[] 0 (.fresh 0 0 (!w.params.followText "set-order")) } := Heap.get?_push_size _ rfl
      have hT : Shared.TypeIs { s with heap := s.heap.push { cls := .type "set", dict := none, data := .set #[] 0 (.fresh 0 0 (!w.params.followText "set-order")) } } (.ref s.heap.objs.size) "set" := ⟨_, hS, rfl⟩
      have hli := F.called_set.init.lookup
      have hbi := F.called_set.init.bind (.ref s.heap.objs.size)
      repeat (any_goals (first | assumption | wp_step))

      refine codeAny_mono (codeAny_call_builtin (R := wants (fun r s₂ => r = .none ∧ ∃ h' tk L es ep t, s₂ = { s with heap := h', toks := tk } ∧ SG P w h' s.heap.objs.size L es ep t ∧ L.Perm (ks.take ks.length) ∧
          (∀ b o, s.heap.get? b = some o → h'.get? b = some o)) E) F.called_set.init.plain F.entry_set_init (check_set_init_1 hT ?_)) fun r₂ s₂ hr₂ => ?_
      · obtain ⟨ol, hol, hcl, nl, hdl⟩ := hl
        obtain ⟨ocls, odict, odata, oslots⟩ := ol
        simp only at hcl hdl
        subst hcl; subst hdl
        have hol' : (s.heap.push { cls := .type "set", dict := none, data := .set #[] 0 (.fresh 0 0 (!w.params.followText "set-order")) }).get? l = some { cls := .type "list", dict := odict, data := .seq items nl, slots := oslots } := Heap.get?_push_of_some _ hol
        have hsls := F.sub_list_set
        have hslf := F.sub_list_frozenset
        have hne : (Value.type "list" == Value.type "dict") = false := by decide
        have hl1 : (s.heap.push { cls := .type "set", dict := none, data := .set #[] 0 (.fresh 0 0 (!w.params.followText "set-order")) }).IsList l items := ⟨_, hol', rfl, nl, rfl⟩
        unfold Builtin.«set.__init__» noKeywords Builtin.Frozenset.updateFrom
        generalize hPI : pyIter = PI
        wp_walk
        subst hPI

        refine wpAny_pyIter_list hl1 ?_
        refine wpAny_bind (wpAny_runValue ?_)
        have hlS : l < s.heap.objs.size := Heap.lt_size hol
        have hh3 : A.in1.in1.in1.handled = none := by simp [hh]
        have hz1 : (s.heap.push { cls := .type "set", dict := none, data := .set #[] 0 (.fresh 0 0 (!w.params.followText "set-order")) }).objs.size = s.heap.objs.size + 1 := Heap.size_push ..
        have hneI : l ≠ (s.heap.push { cls := .type "set", dict := none, data := .set #[] 0 (.fresh 0 0 (!w.params.followText "set-order")) }).objs.size := by
          rw [Heap.size_push]; exact Nat.ne_of_lt (Nat.lt_succ_of_lt hlS)
        have hSf : s.heap.objs.size ∉ [(s.heap.push { cls := .type "set", dict := none, data := .set #[] 0 (.fresh 0 0 (!w.params.followText "set-order")) }).objs.size, l] := by
          rw [Heap.size_push]; simp only [List.mem_cons, List.mem_singleton, List.not_mem_nil, or_false, not_or]
          exact ⟨Nat.ne_of_lt (Nat.lt_succ_self _), Nat.ne_of_gt hlS⟩
        have hval : ∀ (i : Nat) (v : Value), items[i]? = some v → ∃ p, ks[i]? = some p ∧ v = .ref p.1 := fun i v hv => by
          have q : items.toList[i]? = some v := by rw [Array.getElem?_toList]; exact hv
          rw [hit, List.getElem?_map] at q
          cases hq : ks[i]? with
          | none => rw [hq] at q; cases q
          | some p =>
            rw [hq] at q
            exact ⟨p, rfl, (Option.some.inj q).symm⟩
        have none_of : ∀ b, s.heap.objs.size ≤ b → s.heap.get? b = none := fun b hb => by
          cases q : s.heap.get? b with
          | none => rfl
          | some o => exact absurd (Nat.lt_of_lt_of_le (Heap.lt_size q) hb) (Nat.lt_irrefl _)
        refine set_update_new ((Walks.list hh3 _ l hneI items).toS) s.heap.objs.size
          hSf ks hisz hfew hnd hval s.heap hk (none_of _ (Nat.le_refl _)) (fun b hb => none_of b (by
            rw [List.mem_singleton.mp hb, Heap.size_push]
            exact Nat.le_succ _)) hu (items.size - 0) 0 _ (by omega) (Nat.zero_le _)
          ⟨⟨_, Heap.get?_push_size _ rfl, rfl, rfl⟩, (hl1.push _)⟩ (fun b o e => Heap.get?_push_of_some _ (Heap.get?_push_of_some _ e)) ?hS0 ?hR
        case hS0 =>
          have hget : ((s.heap.push { cls := .type "set", dict := none, data := .set #[] 0 (.fresh 0 0 (!w.params.followText "set-order")) }).push { cls := .type "list_iterator", data := .fields #[.ref l, .int 0 0] }).get? s.heap.objs.size
              = some { cls := .type "set", dict := none, data := .set #[] 0 (.fresh 0 0 (!w.params.followText "set-order")) } := Heap.get?_push_of_some _ hS
          exact ⟨[], #[], 0, _, sg_fresh hget, List.Perm.refl _⟩
        case hR =>
          intro s' L es ep t hm hS' g' hkp
          obtain ⟨h', g2, d', tk', os'⟩ := s'
          have eg : g2 = s.gens := hm.gens
          have ed : d' = s.drawn := hm.drawn
          have eo : os' = s.os := hm.os
          subst eg; subst ed; subst eo
          show wpAny _ _ _ _ _ _
          refine wpAny_pure ?_
          show wpAny _ _ (ret Value.none) _ _ _
          rw [hisz] at g'
          exact wpAny_pure ⟨rfl, h', tk', L, es, ep, t, rfl, hS', g', hkp⟩

      · cases r₂ with
        | error e => exact hr₂
        | ok fl₂ =>
          cases fl₂ with
          | ret r =>
            obtain ⟨rfl, h', tk, L, es, ep, t, rfl, hS', g', hk'⟩ := hr₂
            repeat (any_goals (first | assumption | wp_step))
            exact h _ _ _ _ _ _ hS' (by rw [g'.length_eq, List.take_length]) hk'
          | _ => exact hr₂.elim
    | _ => exact hr.elim
end
section
variable {X : Cx}
/-- len(set(xs)), xs a list of tuples of ints that are all different -/
def tLenSetT (K : PySem.W.Frag) (ta : TE) : TE := fun σ H Q => ta σ H fun x H1 => ∃ (l : Addr) (ks : List (Addr × List Int)), x = V.ref l ∧ SqL K H1 l (ks.map fun p => V.ref p.1) ∧ (∀ p ∈ ks, SqT K H1 p.1 (p.2.map V.int)) ∧ (ks.map (·.2)).Nodup ∧ ks.length ≤ 2000 ∧ Q (.int ks.length) H1
theorem pe_lenSetT {a : Expr} {ta : TE} {p p2 q pos : Pos} (hc : X.calm = true) (hu : X.A.units + 64 < cLine) (hg : Gl X "len") (hm : X.mg "len" = none) (hg2 : Gl X "set") (hm2 : X.mg "set" = none) (ha : PE X a ta)
    (na : starEach [a] X.env = (false, eval a X.env) :: starEach [] X.env := by rfl) : PE X (.Call (.Name "len" p) [.Call (.Name "set" p2) [a] [] q] [] pos) (tLenSetT X.K ta) := by
  refine ⟨fun pins s σ H Q I h => ?_⟩
  refine Call_ (ld_blt I hg hm PySem.boot_len ?_)
  refine PyProof.Rows.callWith_builtin1 (PyProof.Rows.args_cons ?_ rfl) rfl rfl
  refine Call_ (ld_blt I hg2 hm2 PyProof.Rows.boot_set ?_)
  refine PyProof.Rows.callWith_type1 (PyProof.Rows.args_cons (thn (ha.run pins s σ H _ I h) fun v s1 ⟨x, H1, I1, r1, q1⟩ => PyProof.Rows.args_nil ?_) na) na rfl
  obtain ⟨l, ks, rfl, hq, hk, hnd, hf, q1⟩ := q1
  cases r1
  obtain ⟨its, rv, pl, hz⟩ := I1.list hq
  refine call_set_new (P := X.prog) (w := X.w) ks (I1.ok.hd hc) pl.isList (by simpa using refs_of_vals rv) (fun p hp => I1.isT (hk p hp)) hnd hf (by omega) fun h' tk L es ep t R g k => ?_
  refine PyProof.Rows.args_nil ?_
  obtain ⟨o, ho, hex, hd⟩ := R.ob
  have I2 : Inv X pins σ H1 { s1 with heap := h', toks := tk } := I1.kept fun b o e => k b o e
  have hn := SG.size (s := { s1 with heap := h' }) R
  refine call_len_set ho hex hd (SG.fits (s := { s1 with heap := h' }) R) (by rw [hn, g]; omega) ⟨.int ks.length, H1, I2.tok _, ⟨_, by rw [hn, g]⟩, q1⟩
end

/-! ### a, b = a list of that length -/
section
variable {prog : Program} {w : World} {A : Around} {E : Value → Shared → Prop} {s : Shared}
theorem draw_l {it l : Addr} {items : Array Value} (hne : l ≠ it) : ∀ (n i : Nat) (s : Shared) (Q : List Value → Shared → Prop), s.heap.IsListIter it l i → s.heap.IsList l items → i + n ≤ items.size →
    (∀ h', h'.IsListIter it l (i + n) → Heap.SameBut it s.heap h' → Q ((items.toList.drop i).take n) { s with heap := h' }) → wpAny (model prog w) A (draw (.ref it) n) Q E s
  | 0, i, s, Q, hit, _, _, hQ => by
    show wpAny _ _ (pure []) Q E s
    exact wpAny_pure (by simpa using hQ s.heap hit (Heap.SameBut.refl ..))
  | n + 1, i, s, Q, hit, ht, hle, hQ => by
    have hlt : i < items.size := by omega
    show wpAny _ _ (pyNext (.ref it) >>= _) Q E s
    refine wpAny_bind (wpAny_pyNext_list_item hit ht (x := items[i]) (by simp [hlt]) fun h1 hit1 hs1 => ?_)
    refine wpAny_bind (wpAny_holding (draw_l hne n (i + 1) _ _ hit1 (ht.extBut hs1.extBut hne) (by omega) fun h2 hit2 hs2 => wpAny_pure ?_))
    have hd : items.toList.drop i = items[i] :: items.toList.drop (i + 1) := by simp [List.drop_eq_getElem_cons, hlt]
    have := hQ h2 (by rw [show i + (n + 1) = i + 1 + n by omega]; exact hit2) (hs1.trans hs2)
    rw [hd, List.take_succ_cons] at this
    exact this
theorem unpack_l {l : Addr} {items : Array Value} {Q : List Value → Shared → Prop} (hh : A.handled = none) (ht : s.heap.IsList l items)
    (hQ : ∀ h', Heap.ExtBut s.heap.objs.size s.heap h' → Q items.toList { s with heap := h' }) : wpAny (model prog w) A (unpackItems (.ref l) items.size none) Q E s := by
  have hlt : l ≠ s.heap.objs.size := by obtain ⟨o, ho, _⟩ := ht; exact Nat.ne_of_lt (Heap.lt_size ho)
  unfold unpackItems
  refine wpAny_bind ?_
  unfold notIterableAtAll
  refine wpAny_bind (wpAny_specialOf ht.typeIs PySem.F.slot_list_iter.lookup ?_)
  refine wpAny_pure ?_
  simp only [Bool.false_eq_true, if_false]
  refine wpAny_bind (wpAny_holding (wpAny_pyIter_list ht ?_))
  refine wpAny_bind (wpAny_holding (draw_l hlt items.size 0 _ _ ⟨_, Heap.get?_push_size _ rfl, rfl, rfl⟩ (ht.push _) (by omega) fun h1 hit1 hs1 => ?_))
  have hall : List.take items.size (List.drop 0 items.toList) = items.toList := by
    rw [List.drop_zero]; exact List.take_of_length_le (by simp)
  rw [hall]
  rw [if_neg (by simp)]
  have ht1 : h1.IsList l items := (ht.push _).extBut hs1.extBut hlt
  refine wpAny_bind (wpAny_holding (wpAny_pyNext_list_end hh hit1 ht1 (by simp) fun h2 he2 => ?_))
  simp only [Option.isSome_none, Bool.false_eq_true, if_false]
  refine wpAny_pure (hQ h2 fun b o hb e => he2 b o hb (hs1.extBut b o hb (Heap.get?_push_of_some _ e)))
end
section
variable {X : Cx}
def gLst (K : PySem.W.Frag) (n : Nat) (t : TGs) : TG := fun v σ H Q => ∃ a xs, v = .ref a ∧ SqL K H a xs ∧ xs.length = n ∧ t xs σ H Q
theorem pg_lst {es : List Expr} {k} {pos : Pos} {t : TGs} {n : Nat} (hc : X.calm = true) (h : PGs X es t)
    (hn : (assignEach es X.env).length = n := by rfl) (hst : (assignEach es X.env).findIdx? (·.1) = none := by rfl) : PG X (.Tuple es k pos) (gLst X.K n t) := by
  refine ⟨fun pins s σ H v u Q I r hw => ?_⟩
  obtain ⟨a, xs, e1, hq, hl, hw⟩ := hw
  subst e1
  cases r
  obtain ⟨its, rv, ht, hz⟩ := I.list hq
  rw [PyProof.Rows.assign_Tuple]
  refine wpAny_bind (wpAny_standAt ?_)
  unfold unpack
  have hsz : its.toArray.size = n := by rw [List.size_toArray, ← rv.length, hl]
  rw [hn, hst, ← hsz]
  refine wpAny_bind (wpAny_holding (unpack_l (I.ok.hd hc) ht.isList fun h' hx => ?_))
  have I1 : Inv X pins σ H { s with heap := h' } := I.kept (t' := s.toks) fun b o e => hx b o (Nat.ne_of_lt (Heap.lt_size e)) e
  exact h.run pins _ σ H xs _ Q I1 (by simpa using rv) hw
end

/-! ### k08: each look is true -/
def natW (n : Nat) : V := .int (n : Int)
theorem wats_dp {K : PySem.W.Frag} {H : Hp} {a : Addr} {ps : List Nat} (h : H a = some (.lst (ps.map natW))) : Dp K H (.ref a) (.list (ps.map fun n : Nat => PyData.int (n : Int))) := by
  refine .lst (SqL.of h) ?_
  clear h
  induction ps with
  | nil => exact .nil
  | cons x r ih => exact .cons (.int _) ih
theorem wats_ok (ps : List Nat) : (PyData.list (ps.map fun n : Nat => PyData.int (n : Int))).canLay0 = true ∧ (PyData.list (ps.map fun n : Nat => PyData.int (n : Int))).depth ≤ 63 := by
  obtain ⟨a, b⟩ := all_shaped (m := 5) (ps.map fun n : Nat => PyData.int (n : Int)) fun d hd => by
    obtain ⟨q, _, rfl⟩ := List.mem_map.mp hd
    exact ⟨by simp [PyData.canLay0], by simp [PyData.depth]⟩
  refine ⟨by simp [PyData.canLay0, a], ?_⟩
  show PyData.depthAll _ + 1 ≤ 63
  omega
theorem nat_wat (ps : List Nat) : ps.map natW = (ps.map fun n : Nat => (n : Int)).map V.int := by
  rw [List.map_map]
  rfl
theorem int_shaped (n : Int) : SeqAt.shaped (.int n) = true := shaped1 ⟨by simp [PyData.canLay0], by simp [PyData.depth]⟩
theorem mem_places {r o : List Str} {i : Nat} : i ∈ (allU r o).1 ↔ i < min r.length o.length ∧ r[i]? ≠ o[i]? := by
  rw [allU_places, List.mem_filter, List.mem_range]
  unfold dif
  rw [decide_eq_true_iff]
theorem allU_true (r o : List Str) : TrueL r o (min r.length o.length) (allU r o).2 := fun h j al m => ⟨((allU_blk r o).1 _ m).hi, ((allU_blk r o).1 _ m).tr⟩
theorem allU_once (r o : List Str) : ((allU r o).2.map keyL).Nodup := (allU_blk r o).2
theorem putK_fresh {kvs : List (Key × V)} {k : Key} {v : V} (h : k ∉ kvs.map (·.1)) : putK kvs k v = kvs ++ [(k, v)] := by
  unfold putK
  rw [if_neg]
  intro z
  obtain ⟨x, hx, e⟩ := List.any_eq_true.mp z
  exact h (List.mem_map.mpr ⟨x, hx, of_decide_eq_true e⟩)
def spTrue : Sp := fun vs H Q _ => ∃ (a b lk : Addr) (r o : List Str) (ls : List Look), vs = [.ref a, .ref b, .ref lk] ∧ RL H a r ∧ RL H b o ∧ r.length ≤ 1024 ∧ o.length ≤ 1024 ∧ LK H lk ls ∧ TrueL r o (min r.length o.length) ls ∧ ∀ H', Same H H' → Q (.bl true) H'
section
variable {P : Program} {w : World} {K : PySem.W.Frag} {mg : Str → Option Value} {base : Heap}
theorem ok_true (D : Dfn K mg "_law_true" s_law_true ["_law_rows_here", "_law_other", "_law_looks"]) (B : Bi mg) (C_law_size : COk P w K mg base CX0 "_law_size" 1 ["_law_height"] spSize) :
    COk P w K mg base CX0 "_law_true" 2 ["_law_rows_here", "_law_other", "_law_looks"] spTrue := by
  refine c_mk D sc_law_true (fun vs H Q E h => ?_) (fun f cdv A outer s H vs Q E hr h => ?_)
  · obtain ⟨a, b, lk, r, o, ls, rfl, _⟩ := h
    rfl
  · obtain ⟨a, b, lk, r, o, ls, rfl, ha, hb, hlr, hlo, hlk, hT, q⟩ := h
    refine ⟨_, (pss_cons (ps_for PassesOwn.never rfl (pi_list (pv 2)) (pg_tup rfl (pgs_cons (pg_name (i := 3) sc_law_true.nd rfl (.inl rfl)) (pgs_cons (pg_name (i := 4) sc_law_true.nd rfl (.inl rfl)) (pgs_cons (pg_name (i := 5) sc_law_true.nd rfl (.inl rfl)) pgs_nil))))
      (pss_cons (ps_set (i := 6) sc_law_true.nd rfl (.inl rfl) (pe_c C_law_size hr (by rfl) (pa_cons (pv 3) pa_nil)))
      (pss_cons (ps_set (i := 7) sc_law_true.nd rfl (.inl rfl) (pe_op op_mul (pv 4) (pv 6)))
      (pss_cons (ps_if (pt_cmpR op_gt (pe_op op_add (pv 7) (pv 6)) (pe_callB (id := "min") (call_min2 rfl) (by rfl) B.min (by decide +kernel) (pa_cons (pe_callB (id := "len") call_len_seq (by rfl) B.len (by decide +kernel) (pa_cons (pv 0) pa_nil)) (pa_cons (pe_callB (id := "len") call_len_seq (by rfl) B.len (by decide +kernel) (pa_cons (pv 1) pa_nil)) pa_nil))) (nomark _)) (pss_one (ps_ret pe_bl)) pss_nil)
      (pss_cons (ps_set (i := 8) sc_law_true.nd rfl (.inl rfl) (pe_slice sl_list (pv 0) (po_some (pv 7)) (po_some (pe_op op_add (pv 7) (pv 6)))))
      (pss_one (ps_if (pt_cmpR op_ne (pv 5) (pe_cmpR (op_eqD hr.units) (pv 8) (pe_slice sl_list (pv 1) (po_some (pv 7)) (po_some (pe_op op_add (pv 7) (pv 6)))) (nomark _)) (nomark _)) (pss_one (ps_ret pe_bl)) pss_nil)))))))
      (pss_one (ps_ret pe_bl))), ?_⟩
    obtain ⟨ts, hl, hts⟩ := hlk
    refine ⟨_, rfl, lk, rfl, ⟨_, SqL.of hl⟩, ?_⟩
    refine for_list (xs := ts.map V.ref) (fun i σ H' => ∃ (y3 y4 y5 y6 y7 y8 : Option V), Same H H' ∧ σ = [some (.ref a), some (.ref b), some (.ref lk), y3, y4, y5, y6, y7, y8]) ⟨none, none, none, none, none, none, fun _ _ e => e, rfl⟩ ?_ ?_ ?_
    · rintro i σ H' _ ⟨y3, y4, y5, y6, y7, y8, sm, rfl⟩
      exact SqL.of (sm _ _ hl)
    · rintro i v σ H' hv ⟨y3, y4, y5, y6, y7, y8, sm, rfl⟩
      obtain ⟨t, ⟨g, j, al⟩, rfl, hq, ht⟩ := LK.at hts hv
      obtain ⟨hin, hal⟩ := hT g j al (List.mem_of_getElem? hq)
      obtain ⟨b1, b2, b3⟩ := blk_bounds hin
      have hp0 := Nat.two_pow_pos g
      have hg : g < 2 ^ g := Nat.lt_two_pow_self
      have hjh : ((j : Int)) * ((2 ^ g : Nat) : Int) = ((j * 2 ^ g : Nat) : Int) := by simp
      have hin2 : j * 2 ^ g + 2 ^ g ≤ min r.length o.length := by
        rw [Nat.add_mul, Nat.one_mul] at hin
        exact hin
      refine ⟨t, _, rfl, SqT.of (sm _ _ ht), rfl, _, _, rfl, _, _, rfl, _, _, rfl, rfl, ?_⟩
      refine ⟨_, rfl, g, rfl, by omega, ?_⟩
      refine ⟨_, rfl, _, rfl, _, _, rfl, rfl, .inr ⟨by omega, by omega⟩, ?_⟩
      have el : ¬ ((min r.length o.length : Nat) : Int) < (j : Int) * ((2 ^ g : Nat) : Int) + ((2 ^ g : Nat) : Int) := by
        rw [hjh]
        omega
      have hup : V.int ((j : Int) * ((2 ^ g : Nat) : Int) + ((2 ^ g : Nat) : Int)) = V.int ((j * 2 ^ g + 2 ^ g : Nat) : Int) := by
        rw [hjh]
        simp
      refine ⟨_, rfl, _, rfl, _, _, rfl, rfl, _, rfl, a, _, rfl, .inl (SqL.of (sm _ _ ha.1)), _, rfl, b, _, rfl, .inl (SqL.of (sm _ _ hb.1)), _, _, rfl, ?_⟩
      rw [min_if]
      refine ⟨_, _, rfl, rfl, _, rfl, iteF' (decide_eq_false el) ?_⟩
      refine ⟨_, rfl, _, rfl, ((j * 2 ^ g : Nat) : Int), congrArg V.int hjh, _, rfl, _, rfl, _, _, rfl, rfl, ((j * 2 ^ g + 2 ^ g : Nat) : Int), hup, a, _, rfl, SqL.of (sm _ _ ha.1), fun t1 ht1 => ?_⟩
      have s1 := same_upd (o := .lst (cutV (r.map V.str) (some ((j * 2 ^ g : Nat) : Int)) (some ((j * 2 ^ g + 2 ^ g : Nat) : Int)))) ht1
      refine ⟨_, rfl, _, rfl, _, rfl, _, rfl, ((j * 2 ^ g : Nat) : Int), congrArg V.int hjh, _, rfl, _, rfl, _, _, rfl, rfl, ((j * 2 ^ g + 2 ^ g : Nat) : Int), hup, b, _, rfl, SqL.of (s1 _ _ (sm _ _ hb.1)), fun t2 ht2 => ?_⟩
      have s2 := same_upd (o := .lst (cutV (o.map V.str) (some ((j * 2 ^ g : Nat) : Int)) (some ((j * 2 ^ g + 2 ^ g : Nat) : Int)))) ht2
      simp only [cut_rows] at s1 s2 ⊢
      have h1 := s2 _ _ (upd_same (H := H') (a := t1) (o := .lst ((rowsOf r g j).map V.str)))
      refine ⟨_, _, RL.dp h1, RL.dp (upd_same), rows_shaped fun x hx => ha.2 x (mem_rowsOf hx), rows_shaped fun x hx => hb.2 x (mem_rowsOf hx), ?_⟩
      subst hal
      refine ⟨rfl, _, rfl, ?_⟩
      rw [eqv_lists]
      have e : V.bl (alike r o g j) = V.bl (decide (rowsOf r g j = rowsOf o g j)) := rfl
      rw [decide_eq_true e]
      refine iteF ?_
      exact ⟨_, _, _, _, _, _, (sm.trans s1).trans s2, rfl⟩
    · rintro σ H' ⟨y3, y4, y5, y6, y7, y8, sm, rfl⟩
      exact q _ sm
end

/-! ### k08: the law -/
def spLaw (K : PySem.W.Frag) : Sp := fun vs H Q _ => ∃ (a : Addr) (ns : List Int), vs = [.ref a] ∧ SqL K H a (ns.map V.int) ∧ ns.length ≤ 63 ∧ ∀ H', Q (.bl true) H'
theorem nodup_pre {α : Type} {as bs : List α} (h : (as ++ bs).Nodup) : as.Nodup := (List.nodup_append.mp h).1
theorem cov_take (ls : List Look) {i : Nat} {q : Look} (h : ls[i]? = some q) : cov (ls.take (i + 1)) = cov (ls.take i) ++ cov [q] := by
  rw [List.take_add_one, h, ← cov_app]
  rfl
theorem cov_nodup (r o : List Str) (i : Nat) : (cov ((allU r o).2.take i)).Nodup := by
  have h : (cov ((allU r o).2)).Nodup := by
    rw [allU_cov]
    exact List.Nodup.sublist List.filter_sublist List.nodup_range
  rw [← List.take_append_drop i (allU r o).2, cov_app] at h
  exact nodup_pre h
theorem cov_size (r o : List Str) (i : Nat) : (cov ((allU r o).2.take i)).length ≤ min r.length o.length := by
  have h : (cov ((allU r o).2)).length ≤ min r.length o.length := by
    rw [allU_cov]
    exact Nat.le_trans (List.length_filter_le _ _) (Nat.le_of_eq List.length_range)
  rw [← List.take_append_drop i (allU r o).2, cov_app, List.length_append] at h
  omega
def natK (n : Nat) : Key := Sum.inl (n : Int)
theorem natK_inj {a b : Nat} (h : natK a = natK b) : a = b := by
  injection h with h
  omega
theorem natK_not {n : Nat} {ps : List Nat} (h : n ∉ ps) : natK n ∉ ps.map natK := fun z => by
  obtain ⟨m, hm, e⟩ := List.mem_map.mp z
  rw [natK_inj e] at hm
  exact h hm
/-- what the first search tells, and the places -/
theorem first_places (r o : List Str) : (firstU r o).1 = (match (allU r o).1 with
    | [] => if r.length = o.length then none else some (min r.length o.length)
    | k :: _ => some k) := by
  obtain ⟨_, _, h⟩ := firstG_ok (r := r) (o := o) (parts (min r.length o.length)) (dig (min r.length o.length)) 0 none (parts_ok _)
  have ef : (firstU r o).1 = (match (firstG r o (parts (min r.length o.length))).1 with
      | none => if r.length = o.length then none else some (min r.length o.length)
      | some k => some k) := by
    unfold firstU
    split <;> rename_i e <;> simp [e]
  rw [ef, allU_places]
  rcases h with ⟨z1, _, z3⟩ | ⟨k, z1, D, _⟩
  · rw [z1]
    have : (List.range (min r.length o.length)).filter (dif r o) = [] := by
      rw [List.filter_eq_nil_iff]
      intro x hx
      have := z3 x (Nat.zero_le _) (List.mem_range.mp hx)
      unfold dif
      rw [decide_eq_false (fun z => z this)]
      decide
    rw [this]
  · rw [z1]
    have e : List.range (min r.length o.length) = List.range' 0 k ++ k :: List.range' (k + 1) (min r.length o.length - (k + 1)) := by
      have lt := D.lt
      rw [List.range_eq_range', show k :: List.range' (k + 1) (min r.length o.length - (k + 1)) = List.range' (0 + k) (1 + (min r.length o.length - (k + 1))) by rw [Nat.zero_add, Nat.add_comm 1]; rfl, List.range'_append_1]
      congr 1
      omega
    have hz : (List.range' 0 k).filter (dif r o) = [] := by
      rw [List.filter_eq_nil_iff]
      intro x hx
      have hx := (List.mem_range'_1.mp hx)
      have := D.ag x (Nat.zero_le _) (by omega)
      unfold dif
      rw [decide_eq_false (fun z => z this)]
      decide
    rw [e, List.filter_append, hz, List.nil_append, List.filter_cons_of_pos (by unfold dif; exact decide_eq_true D.df)]
theorem into_looks (r o : List Str) : ∀ h j, (into r o h j).2.length + 2 ≤ 2 * 2 ^ h
  | 0, j => Nat.le_refl _
  | h + 1, j => by
    have i1 := into_looks r o h (2 * j)
    have i2 := into_looks r o h (2 * j + 1)
    have e : 2 ^ (h + 1) = 2 * 2 ^ h := by rw [Nat.pow_succ, Nat.mul_comm]
    unfold into
    by_cases c1 : alike r o h (2 * j) = true
    · rw [if_pos c1]
      show (into r o h (2 * j + 1)).2.length + 1 + 2 ≤ _
      omega
    · rw [if_neg c1]
      by_cases c2 : alike r o h (2 * j + 1) = true
      · rw [if_pos c2]
        show ((into r o h (2 * j)).2 ++ [(h, 2 * j + 1, true)]).length + 1 + 2 ≤ _
        rw [List.length_append]
        show (into r o h (2 * j)).2.length + 1 + 1 + 2 ≤ _
        omega
      · rw [if_neg c2]
        show ((into r o h (2 * j)).2 ++ (h, 2 * j + 1, false) :: (into r o h (2 * j + 1)).2).length + 1 + 2 ≤ _
        rw [List.length_append, List.length_cons]
        omega
theorem allG_looks {r o : List Str} {n : Nat} : ∀ (ps : List (Nat × Nat)) (h s : Nat), partsOk n h s ps → (allG r o ps).2.length + 2 * s ≤ 2 * n
  | [], _, s, p => by
    have : s = n := p
    rw [this]
    show 0 + _ ≤ _
    omega
  | (g, j) :: ps, h, s, p => by
    obtain ⟨_, _, p3⟩ := p
    have ih := allG_looks (r := r) (o := o) ps g _ p3
    have ip := into_looks r o g j
    have hp0 := Nat.two_pow_pos g
    unfold allG
    by_cases c : alike r o g j = true
    · rw [if_pos c]
      show (allG r o ps).2.length + 1 + _ ≤ _
      omega
    · rw [if_neg c]
      show ((into r o g j).2 ++ (allG r o ps).2).length + 1 + _ ≤ _
      rw [List.length_append]
      omega
theorem allU_looks (r o : List Str) : (allU r o).2.length ≤ 2 * min r.length o.length := by
  have := allG_looks (r := r) (o := o) _ _ 0 (parts_ok (min r.length o.length))
  unfold allU
  omega

theorem placeD_ok : ∀ q : Option Nat, (placeD q).canLay0 = true ∧ (placeD q).depth ≤ 63
  | none => ⟨by simp [placeD, PyData.canLay0], by simp [placeD, PyData.depth]⟩
  | some n => ⟨by simp [placeD, PyData.canLay0], by simp [placeD, PyData.depth]⟩
theorem atI_z {xs : List V} {i : Nat} {v : V} (h : xs[i]? = some v) : atI xs ((0 : Int) + (i : Int)) = some v := by
  rw [Int.zero_add]
  exact atI_nat h
def keyI (q : Look) : List Int := [(q.1 : Int), (q.2.1 : Int)]
theorem keyI_nodup {ls : List Look} (h : (ls.map keyL).Nodup) : (ls.map keyI).Nodup := by
  rw [List.nodup_iff_pairwise_ne, List.pairwise_map] at h ⊢
  refine h.imp fun {a b} n z => n ?_
  unfold keyI at z
  unfold keyL
  injection z with z1 z2
  injection z2 with z2 z3
  rw [show a.1 = b.1 by omega, show a.2.1 = b.2.1 by omega]
theorem inV_places (i : Nat) (ps : List Nat) : inV (.int ((0 : Int) + (i : Int))) (ps.map natW) = decide (i ∈ ps) := by
  unfold inV
  rw [Bool.eq_iff_iff, List.any_eq_true, decide_eq_true_iff, Int.zero_add]
  constructor
  · rintro ⟨y, hy, e⟩
    obtain ⟨m, hm, rfl⟩ := List.mem_map.mp hy
    have e : decide ((m : Int) = (i : Int)) = true := e
    have := of_decide_eq_true e
    rw [show i = m by omega]
    exact hm
  · intro h
    exact ⟨natW i, List.mem_map.mpr ⟨i, h, rfl⟩, decide_eq_true rfl⟩
theorem asc_eq {ns : List Int} {ps : List Nat} (p : ns.Perm (ps.map fun n : Nat => (n : Int))) (s : ns.Pairwise (· ≤ ·)) (ha : ps.Pairwise (· < ·)) : ns = ps.map fun n : Nat => (n : Int) := by
  refine List.Perm.eq_of_pairwise (le := (· ≤ ·)) (fun a b _ _ h1 h2 => Int.le_antisymm h1 h2) s ?_ p
  rw [List.pairwise_map]
  exact ha.imp fun h => by omega
theorem natK_keys (ps : List Nat) : ps.map natK = (ps.map fun n : Nat => (n : Int)).map Sum.inl := by
  rw [List.map_map]
  rfl
theorem filt_snoc (f : Nat → Bool) (i : Nat) : (List.range (i + 1)).filter f = (List.range i).filter f ++ (if f i = true then [i] else []) := by
  rw [List.range_succ, List.filter_append]
  congr 1
  by_cases c : f i = true
  · rw [if_pos c, List.filter_cons_of_pos c]
    rfl
  · rw [if_neg c, List.filter_cons_of_neg c]
    rfl
section
variable {P : Program} {K : PySem.W.Frag} {mg : Str → Option Value} {base : Heap} {CB : Addr} {R : Rep CB} {w : World} {C cR cP cB cF cT : Addr}
theorem ok_law {f : Addr} {fd : FuncData} (F : Fun K "law" "law" s_law f fd) (B : Bi mg) (C_law_books : COk P w K mg base CX0 "_law_books" 11 ["_law_script"] (spBooks R w C K)) (C_law_digits : COk P w K mg base CX0 "_law_digits" 1 ["_law_count"] spDig) (C_law_size : COk P w K mg base CX0 "_law_size" 1 ["_law_height"] spSize)
    (C_law_true : COk P w K mg base CX0 "_law_true" 2 ["_law_rows_here", "_law_other", "_law_looks"] spTrue) (C_all_unlike : COk P w K mg base (L2.CX P w) "all_unlike" 30 ["one", "other"] (spAU R w C cT)) (C_first_unlike : COk P w K mg base (L2.CX P w) "first_unlike" 30 ["one", "other"] (spFU R w C cT)) :
    FnOk P w K mg base CX0 33 f fd ["_law_script"] (spLaw K) := by
  skip
  refine F.ok sc_law (fun vs H Q E h => ?_) fun cdv A outer s H vs Q E hr h => ?_
  · obtain ⟨a, ns, rfl, _⟩ := h
    rfl
  · obtain ⟨a, ns, rfl, hS, hlen, q⟩ := h
    refine ⟨_, (pss_cons (ps_asg (pe_c C_law_books hr (by rfl) (pa_cons (pv 0) pa_nil)) (pg_tup rfl (pgs_cons (pg_name (i := 1) sc_law.nd rfl (.inl rfl)) (pgs_cons (pg_name (i := 2) sc_law.nd rfl (.inl rfl)) pgs_nil))))
      (pss_cons (ps_asg (pv 2) (pg_lst rfl (pgs_cons (pg_name (i := 3) sc_law.nd rfl (.inr rfl)) (pgs_cons (pg_name (i := 4) sc_law.nd rfl (.inr rfl)) pgs_nil))))
      (pss_cons (ps_set (i := 5) sc_law.nd rfl (.inl rfl) (pe_callB (id := "min") (call_min2 rfl) (by rfl) B.min (by decide +kernel) (pa_cons (pe_callB (id := "len") call_len_seq (by rfl) B.len (by decide +kernel) (pa_cons (pv 3) pa_nil)) (pa_cons (pe_callB (id := "len") call_len_seq (by rfl) B.len (by decide +kernel) (pa_cons (pv 4) pa_nil)) pa_nil))))
      (pss_cons (ps_set (i := 7) sc_law.nd rfl (.inr rfl) (pe_lc (own := [("_law_place", 6)]) (g := gName 6) rfl sc_law.nd (pi_range1 (by rfl) B.range (pa_cons (pv 5) pa_nil)) (blkOk_by (N := ["_law_script", "_law_books_here", "_law_kept", "_law_rows_here", "_law_other", "_law_lesser", "_law_place", "_law_due", "_law_places", "_law_looks", "_law_many", "_law_covered", "_law_height", "_law_number", "_law_alike", "_law_size_here", "_law_first", "_law_look"]) (sc := defScope s_law) (by decide +kernel)) (fun _ _ _ _ _ => pg_name (i := 6) sc_law.nd rfl (Or.inl rfl)) (fun _ _ _ _ _ => pts_one (pt_cmpR op_ne (pe_ix (r := rIxL K) ix_list (pv 3) (pv 6) (fun _ _ => rfl)) (pe_ix (r := rIxL K) ix_list (pv 4) (pv 6) (fun _ _ => rfl)) (nomark _))) (fun _ _ _ _ _ => (pv 6))))
      (pss_cons (ps_asg (pe_cx C_all_unlike passL hr (by rfl) (pa_cons (pe_ix ix_list (pv 1) pe_int (fun _ _ => rfl)) (pa_cons (pe_ix ix_list (pv 1) pe_int (fun _ _ => rfl)) pa_nil))) (pg_tup rfl (pgs_cons (pg_name (i := 8) sc_law.nd rfl (.inl rfl)) (pgs_cons (pg_name (i := 9) sc_law.nd rfl (.inl rfl)) pgs_nil))))
      (pss_cons (ps_set (i := 10) sc_law.nd rfl (.inl rfl) (pe_c C_law_digits hr (by rfl) (pa_cons (pv 5) pa_nil)))
      (pss_cons (ps_if ((pw_or (pt_cmpR (op_neD hr.units) (pv 8) (pv 7) (nomark _)) (pw_or1 (pt_cmpR op_gt (pe_callB (id := "len") call_len_seq (by rfl) B.len (by decide +kernel) (pa_cons (pv 9) pa_nil)) (pe_op op_add (pv 10) (pe_op op_mul (pe_op op_mul pe_int (pe_callB (id := "len") call_len_seq (by rfl) B.len (by decide +kernel) (pa_cons (pv 7) pa_nil))) (pe_callB (id := "max") (call_max2 rfl) (by rfl) B.max (by decide +kernel) (pa_cons pe_int (pa_cons (pe_op op_sub (pv 10) pe_int) pa_nil))))) (nomark _))))).pt (pss_one (ps_ret pe_bl)) pss_nil)
      (pss_cons (ps_if ((pw_or (pt_not (pt_val (pe_c C_law_true hr (by rfl) (pa_cons (pv 3) (pa_cons (pv 4) (pa_cons (pv 9) pa_nil)))))) (pw_or1 (pt_cmpR op_ne (pe_lenSetT rfl hr.units (by rfl) B.len (by rfl) B.set (pe_lc (own := [("_law_look", 17)]) (g := gName 17) rfl sc_law.nd (pi_list (pv 9)) (blkOk_by (N := ["_law_script", "_law_books_here", "_law_kept", "_law_rows_here", "_law_other", "_law_lesser", "_law_place", "_law_due", "_law_places", "_law_looks", "_law_many", "_law_covered", "_law_height", "_law_number", "_law_alike", "_law_size_here", "_law_first", "_law_look"]) (sc := defScope s_law) (by decide +kernel)) (fun _ _ _ _ _ => pg_name (i := 17) sc_law.nd rfl (Or.inl rfl)) (fun _ _ _ _ _ => pts_nil) (fun _ _ _ _ _ => (pe_slice (r := rSlT K) sl_tup (pv 17) po_none (po_some pe_int))))) (pe_callB (id := "len") call_len_seq (by rfl) B.len (by decide +kernel) (pa_cons (pv 9) pa_nil)) (nomark _))))).pt (pss_one (ps_ret pe_bl)) pss_nil)
      (pss_cons (ps_set (i := 11) sc_law.nd rfl (.inl rfl) pe_dnewK)
      (pss_cons (ps_for PassesOwn.never rfl (pi_list (pv 9)) (pg_tup rfl (pgs_cons (pg_name (i := 12) sc_law.nd rfl (.inl rfl)) (pgs_cons (pg_name (i := 13) sc_law.nd rfl (.inl rfl)) (pgs_cons (pg_name (i := 14) sc_law.nd rfl (.inl rfl)) pgs_nil))))
      (pss_one (ps_if (pt_val (pv 14)) (pss_cons (ps_set (i := 15) sc_law.nd rfl (.inl rfl) (pe_c C_law_size hr (by rfl) (pa_cons (pv 12) pa_nil)))
      (pss_one (ps_for PassesOwn.never rfl (pi_range2 (by rfl) B.range (pa_cons (pe_op op_mul (pv 13) (pv 15)) (pa_cons (pe_op op_add (pe_op op_mul (pv 13) (pv 15)) (pv 15)) pa_nil))) (pg_name (i := 6) sc_law.nd rfl (.inl rfl))
      (pss_one (ps_dput (hu_of hr) (pv 11) (pv 6) pe_bl rfl))))) pss_nil)))
      (pss_cons (ps_if (pt_cmpR (op_neD hr.units) (pe_callB (id := "sorted") (cr_sortedD rfl) (by rfl) B.sorted (by decide +kernel) (pa_cons (pv 11) pa_nil)) (pe_lc (own := [("_law_place", 6)]) (g := gName 6) rfl sc_law.nd (pi_range1 (by rfl) B.range (pa_cons (pv 5) pa_nil)) (blkOk_by (N := ["_law_script", "_law_books_here", "_law_kept", "_law_rows_here", "_law_other", "_law_lesser", "_law_place", "_law_due", "_law_places", "_law_looks", "_law_many", "_law_covered", "_law_height", "_law_number", "_law_alike", "_law_size_here", "_law_first", "_law_look"]) (sc := defScope s_law) (by decide +kernel)) (fun _ _ _ _ _ => pg_name (i := 6) sc_law.nd rfl (Or.inl rfl)) (fun _ _ _ _ _ => pts_one (pt_cmpR (r := rIn K true) op_notIn_seq (pv 6) (pv 7) (by with_unfolding_all rfl))) (fun _ _ _ _ _ => (pv 6))) (nomark _)) (pss_one (ps_ret pe_bl)) pss_nil)
      (pss_cons (ps_set (i := 16) sc_law.nd rfl (.inl rfl) (pe_ix ix_tup (pe_cx C_first_unlike passL hr (by rfl) (pa_cons (pe_ix ix_list (pv 1) pe_int (fun _ _ => rfl)) (pa_cons (pe_ix ix_list (pv 1) pe_int (fun _ _ => rfl)) pa_nil))) pe_int (fun _ _ => rfl)))
      (pss_cons (ps_if (pt_cmpR (op_neD hr.units) (pv 7) (pe_lst pa_nil) (nomark _)) (pss_one (ps_ret (pe_cmpR (op_eqD hr.units) (pv 16) (pe_ix ix_list (pv 7) pe_int (fun _ _ => rfl)) (nomark _)))) pss_nil)
      (pss_one (ps_ret (pe_cmpR (op_eqD hr.units) (pv 16) (pe_ix ix_list (pe_lst (pa_cons (pv 5) (pa_cons pe_non pa_nil))) (pe_callTy (T := "int") call_int1 (by rfl) B.int (by decide +kernel) (pa_cons (pe_cmpR op_eq (pe_callB (id := "len") call_len_seq (by rfl) B.len (by decide +kernel) (pa_cons (pv 3) pa_nil)) (pe_callB (id := "len") call_len_seq (by rfl) B.len (by decide +kernel) (pa_cons (pv 4) pa_nil)) (nomark _)) pa_nil)) (fun _ _ => rfl)) (nomark _))))))))))))))))), ?_⟩
    refine ⟨_, rfl, a, ns, rfl, hS, hlen, fun H1 tb bl kl p d l L BB Kp m1 htb J old => ?_⟩
    refine ⟨tb, _, rfl, SqT.of htb, rfl, _, _, rfl, _, _, rfl, rfl, ?_⟩
    have z0 : 0 < 2 := by decide
    have z1 : 1 < 2 := by decide
    have f0 := J.few 0 z0
    have f1 := J.few 1 z1
    have R0 := J.RL z0
    have R1 := J.RL z1
    refine ⟨_, rfl, kl, _, rfl, SqL.of J.hk, rfl, _, _, rfl, _, _, rfl, rfl, ?_⟩
    refine ⟨_, rfl, Kp 0, _, rfl, .inl (SqL.of R0.1), _, rfl, Kp 1, _, rfl, .inl (SqL.of R1.1), _, _, rfl, ?_⟩
    rw [min_if]
    generalize hr0 : (BB 0).rows = r at *
    generalize hr1 : (BB 1).rows = o at *
    refine ⟨_, rfl, ((min r.length o.length : Nat) : Int), rfl, by omega, by omega, fun Dl hD => ?_⟩
    rw [Int.toNat_natCast]
    refine lc_range (fun i H' => Same H1 H' ∧ H' Dl = some (.lst (((List.range i).filter (dif r o)).map natW))) ⟨same_upd hD, upd_same⟩ ?_ ?_
    · rintro i H' hi ⟨sm, hl'⟩
      have e0 : (r.map V.str)[i]? = some (.str (r[i]'(by omega))) := by rw [List.getElem?_map, List.getElem?_eq_getElem (by omega)]; rfl
      have e1 : (o.map V.str)[i]? = some (.str (o[i]'(by omega))) := by rw [List.getElem?_map, List.getElem?_eq_getElem (by omega)]; rfl
      have ed : dif r o i = !decide (V.str (r[i]'(by omega)) = V.str (o[i]'(by omega))) := by
        unfold dif
        rw [List.getElem?_eq_getElem (by omega), List.getElem?_eq_getElem (by omega)]
        simp
      refine ⟨rfl, ?_⟩
      refine ⟨_, rfl, _, rfl, Kp 0, _, _, _, rfl, rfl, SqL.of (sm _ _ R0.1), atI_z e0, _, rfl, _, rfl, Kp 1, _, _, _, rfl, rfl, SqL.of (sm _ _ R1.1), atI_z e1, ?_⟩
      refine ⟨rfl, _, rfl, ite2 (fun e => ?_) (fun e => ?_)⟩
      · have ed' : dif r o i = true := by
          rw [ed]
          exact e
        refine ⟨_, rfl, _, hl', ?_, upd_keep sm hD, ?_⟩
        · rw [List.length_map]
          have := List.length_filter_le (dif r o) (List.range i)
          rw [List.length_range] at this
          exact Nat.lt_of_lt_of_le (show ((List.range i).filter (dif r o)).length < 1000000 by omega) (by decide)
        · rw [upd_same, filt_snoc, if_pos ed', List.map_append, Int.zero_add]
          rfl
      · have ed' : ¬ dif r o i = true := by
          rw [ed]
          exact e
        refine ⟨sm, ?_⟩
        rw [filt_snoc, if_neg ed', List.append_nil]
        exact hl'
    rintro H2 ⟨m2, hdue⟩
    rw [← allU_places] at hdue
    have J2 := J.same m2
    refine ⟨_, rfl, bl, _, 0, .ref (BB 0).b, rfl, rfl, SqL.of J2.hb, rfl, _, rfl, bl, _, 1, .ref (BB 1).b, rfl, rfl, SqL.of J2.hb, rfl, .inl ⟨p, d, l, L, BB 0, BB 1, rfl, J2.sys.bk 0 z0, J2.sys.bk 1 z1, fun H3 t pl lk m3 ht hpl hlk npk _ _ F3 => ?_⟩⟩
    rw [hr0, hr1] at F3
    refine ⟨t, _, rfl, SqT.of F3.1, rfl, _, _, rfl, _, _, rfl, rfl, ?_⟩
    refine ⟨_, rfl, min r.length o.length, rfl, ?_⟩
    have J3 := J2.same m3
    have hdue3 := m3 _ _ hdue
    obtain ⟨ht3, hpl3, ts, hlk3, hts⟩ := F3
    have htl : ts.length = (allU r o).2.length := Paired.length hts
    have few := allU_few r o
    obtain ⟨len1, len2⟩ := allU_len (r := r) (o := o) (by omega)
    have hdig : dig (min r.length o.length) ≤ 11 := dig_small (by omega)
    have RR0 : RL H3 (Kp 0) r := by
      have := J3.RL z0
      rw [hr0] at this
      exact this
    have RR1 : RL H3 (Kp 1) o := by
      have := J3.RL z1
      rw [hr1] at this
      exact this
    have hLK : LK H3 lk (allU r o).2 := ⟨ts, hlk3, hts⟩
    refine ⟨_, rfl, _, rfl, _, _, wats_dp hpl3, wats_dp hdue3, shaped1 (wats_ok _), shaped1 (wats_ok _), _, rfl, ne_same (wats_ok _).1 ?_⟩
    refine ⟨_, rfl, lk, _, rfl, .inl (SqL.of hlk3), _, rfl, _, rfl, Dl, _, rfl, .inl (SqL.of hdue3), _, _, rfl, rfl, ?_, ?_⟩
    · exact .inl ⟨by decide, by decide⟩
    have l2 : (2 : Int) * (((allU r o).1.map natW).length : Int) = ((2 * (allU r o).1.length : Nat) : Int) := by
      rw [List.length_map]
      simp
    refine ⟨_, rfl, _, _, rfl, rfl, _, _, rfl, _, _, rfl, rfl, .inl ⟨by rw [l2]; omega, by rw [l2]; omega⟩, _, _, rfl, rfl, _, _, rfl, rfl, _, rfl, iteF' ?_ ?_⟩
    · have em : (if ((dig (min r.length o.length) : Nat) : Int) - 1 > 0 then ((dig (min r.length o.length) : Nat) : Int) - 1 else 0) = ((dig (min r.length o.length) - 1 : Nat) : Int) := by
        split <;> omega
      refine decide_eq_false ?_
      rw [em, l2, List.length_map, ← Int.natCast_mul, Nat.mul_right_comm]
      omega
    have looks := allU_looks r o
    have J4' := J3
    refine ⟨_, rfl, _, rfl, _, rfl, Kp 0, Kp 1, lk, r, o, (allU r o).2, rfl, RR0, RR1, by omega, by omega, hLK, allU_true r o, fun H4 m4 => ⟨_, rfl, iteF ?_⟩⟩
    have hlk4 := m4 _ _ hlk3
    have hts4 : Paired (fun t (q : Look) => H4 t = some (.tup [.int (q.1 : Int), .int (q.2.1 : Int), .bl q.2.2])) ts (allU r o).2 := Paired.mapP hts fun _ _ e => m4 _ _ e
    have hdue4 := m4 _ _ hdue3
    -- each block once
    refine ⟨_, rfl, lk, rfl, ⟨_, SqL.of hlk4⟩, fun D2 hD2 => ?_⟩
    refine lc_list (xs := ts.map V.ref) (fun i H' => Same H4 H' ∧ ∃ ks : List (Addr × List Int), H' D2 = some (.lst (ks.map fun p => V.ref p.1)) ∧ (∀ p ∈ ks, H' p.1 = some (.tup (p.2.map V.int))) ∧ ks.map (·.2) = ((allU r o).2.take i).map keyI) ⟨same_upd hD2, [], upd_same, fun p hp => absurd hp List.not_mem_nil, rfl⟩ (fun i H' _ z => SqL.of (z.1 _ _ hlk4)) ?_ ?_
    · rintro i v H' hv ⟨sm, ks, hd2, hks, hkk⟩
      obtain ⟨t1, ⟨g, j, al⟩, rfl, hq, ht1⟩ := LK.at hts4 hv
      refine ⟨rfl, yes_of (iteT ?_)⟩
      refine ⟨_, rfl, 2, rfl, t1, _, rfl, SqT.of (sm _ _ ht1), ?_, fun u hu => ?_⟩
      · rintro ⟨_, z⟩
        revert z
        show ¬ (2 = 3)
        decide
      have su := same_upd (o := .tup (cutV [V.int (g : Int), .int (j : Int), .bl al] none (some 2))) hu
      have hlen2 : ks.length ≤ i := by
        have := congrArg List.length hkk
        rw [List.length_map, List.length_map, List.length_take] at this
        omega
      have hi := (List.getElem?_eq_some_iff.mp hq).1
      have hu0 : H4 u = none := Same.free sm hu
      have hne : ∀ z, H4 z = none → True := fun _ _ => trivial
      have huD : u ≠ D2 := (ne_of_none hd2 hu).symm
      refine ⟨_, su _ _ hd2, ?_, ?_, ks ++ [(u, keyI (g, j, al))], ?_, fun p hp => ?_, ?_⟩
      · rw [List.length_map]
        exact Nat.lt_of_lt_of_le (show ks.length < 1000000 by omega) (by decide)
      · exact upd_keep (sm.trans su) hD2
      · rw [upd_same, List.map_append]
        rfl
      · rcases List.mem_append.mp hp with hp | hp
        · rw [upd_ne (ne_of (hks p hp) hd2 (by intro z; cases z))]
          exact su _ _ (hks p hp)
        · rw [List.mem_singleton.mp hp]
          rw [upd_ne huD]
          exact upd_same
      · rw [List.map_append, hkk, List.take_add_one, hq, List.map_append]
        rfl
    rintro H5 ⟨m5, ks, hd5, hks5, hkk⟩
    have hkk' : ks.map (·.2) = (allU r o).2.map keyI := by
      rw [hkk, List.take_of_length_le (by rw [List.length_map]; omega)]
    have hkl : ks.length = (allU r o).2.length := by
      have := congrArg List.length hkk'
      rw [List.length_map, List.length_map] at this
      exact this
    have hlk5 := m5 _ _ hlk4
    refine ⟨D2, ks, rfl, SqL.of hd5, fun p hp => SqT.of (hks5 p hp), ?_, by omega, ?_⟩
    · rw [hkk']
      exact keyI_nodup (allU_once r o)
    refine ⟨_, rfl, lk, _, rfl, .inl (SqL.of hlk5), rfl, _, rfl, iteF' ?_ ?_⟩
    · rw [List.length_map, hkl, htl]
      simp
    have m35 := m4.trans m5
    have hts5 : Paired (fun t (q : Look) => H5 t = some (.tup [.int (q.1 : Int), .int (q.2.1 : Int), .bl q.2.2])) ts (allU r o).2 := Paired.mapP hts fun _ _ e => m35 _ _ e
    have hdue5 := m35 _ _ hdue3
    have J5 := J3.same m35
    have h0 := RR0.1
    have R05 := m35 _ _ RR0.1
    have R15 := m35 _ _ RR1.1
    -- what is covered
    refine fun cv hcv => ?_
    refine ⟨_, rfl, lk, rfl, ⟨_, SqL.of (same_upd hcv _ _ hlk5)⟩, ?_⟩
    refine for_list (xs := ts.map V.ref) (fun i σ H' => ∃ (kvs : List (Key × V)) (y6 y12 y13 y14 y15 : Option V), Same H5 H' ∧ H' cv = some (.dK kvs) ∧ kvs.map (·.1) = (cov ((allU r o).2.take i)).map natK ∧
      σ = [some (.ref a), some (.ref bl), some (.ref kl), some (.ref (Kp 0)), some (.ref (Kp 1)), some (.int ((min r.length o.length : Nat) : Int)), y6, some (.ref Dl), some (.ref pl), some (.ref lk), some (.int ((dig (min r.length o.length) : Nat) : Int)), some (.ref cv), y12, y13, y14, y15, none, none]) ⟨[], none, none, none, none, none, same_upd hcv, upd_same, rfl, rfl⟩ ?_ ?_ ?_
    · rintro i σ H' _ ⟨kvs, y6, y12, y13, y14, y15, sm, _, _, rfl⟩
      exact SqL.of (sm _ _ hlk5)
    · rintro i v σ H' hv ⟨kvs, y6, y12, y13, y14, y15, sm, hc, hk, rfl⟩
      obtain ⟨t1, ⟨g, j, al⟩, rfl, hq, ht1⟩ := LK.at hts5 hv
      obtain ⟨hin, _⟩ := allU_true r o g j al (List.mem_of_getElem? hq)
      obtain ⟨b1, b2, b3⟩ := blk_bounds hin
      have hp0 := Nat.two_pow_pos g
      have hg : g < 2 ^ g := Nat.lt_two_pow_self
      have hjh : ((j : Int)) * ((2 ^ g : Nat) : Int) = ((j * 2 ^ g : Nat) : Int) := by simp
      have hin2 : j * 2 ^ g + 2 ^ g ≤ min r.length o.length := by
        rw [Nat.add_mul, Nat.one_mul] at hin
        exact hin
      have ctk := cov_take (allU r o).2 hq
      have cnd := cov_nodup r o (i + 1)
      have csz := cov_size r o (i + 1)
      refine ⟨t1, _, rfl, SqT.of (sm _ _ ht1), rfl, _, _, rfl, _, _, rfl, _, _, rfl, rfl, ?_⟩
      refine ⟨_, rfl, _, rfl, ?_⟩
      cases hz : al with
      | false =>
        subst hz
        refine iteF ⟨kvs, _, _, _, _, _, sm, hc, ?_, rfl⟩
        rw [ctk, hk]
        show _ = (cov _ ++ []).map natK
        rw [List.append_nil]
      | true =>
        subst hz
        have ec : cov [(g, j, true)] = List.range' (j * 2 ^ g) (2 ^ g) := List.append_nil _
        rw [ec] at ctk
        refine iteT ?_
        refine ⟨_, rfl, g, rfl, by omega, ?_⟩
        refine ⟨_, rfl, _, rfl, _, _, rfl, rfl, .inr ⟨by omega, by omega⟩, _, rfl, _, rfl, _, _, rfl, rfl, .inr ⟨by omega, by omega⟩, _, rfl, _, _, rfl, rfl, (j : Int) * ((2 ^ g : Nat) : Int), (j : Int) * ((2 ^ g : Nat) : Int) + ((2 ^ g : Nat) : Int), rfl, ⟨by rw [hjh]; omega, by rw [hjh]; omega, by rw [hjh]; omega, by rw [hjh]; omega⟩, ?_⟩
        rw [show (((j : Int) * ((2 ^ g : Nat) : Int) + ((2 ^ g : Nat) : Int)) - (j : Int) * ((2 ^ g : Nat) : Int)).toNat = 2 ^ g by omega]
        refine for_range (fun k σ H' => ∃ (kvs : List (Key × V)) (y6 : Option V), Same H5 H' ∧ H' cv = some (.dK kvs) ∧ kvs.map (·.1) = (cov ((allU r o).2.take i) ++ List.range' (j * 2 ^ g) k).map natK ∧
          σ = [some (.ref a), some (.ref bl), some (.ref kl), some (.ref (Kp 0)), some (.ref (Kp 1)), some (.int ((min r.length o.length : Nat) : Int)), y6, some (.ref Dl), some (.ref pl), some (.ref lk), some (.int ((dig (min r.length o.length) : Nat) : Int)), some (.ref cv), some (.int (g : Int)), some (.int (j : Int)), some (.bl true), some (.int ((2 ^ g : Nat) : Int)), none, none]) ⟨kvs, y6, sm, hc, by rw [hk]; show _ = (cov _ ++ []).map natK; rw [List.append_nil], rfl⟩ ?_ ?_
        · rintro k σ H' hkl2 ⟨kvs, y6, sm, hc, hk, rfl⟩
          have hrk : List.range' (j * 2 ^ g) (k + 1) = List.range' (j * 2 ^ g) k ++ [j * 2 ^ g + k] := by
            rw [← range'_app]
            rfl
          have hrg : List.range' (j * 2 ^ g) (2 ^ g) = List.range' (j * 2 ^ g) (k + 1) ++ List.range' (j * 2 ^ g + (k + 1)) (2 ^ g - (k + 1)) := by
            rw [range'_app]
            congr 1
            omega
          have nd1 : (cov ((allU r o).2.take i) ++ List.range' (j * 2 ^ g) k ++ [j * 2 ^ g + k]).Nodup := by
            have := cnd
            rw [ctk, hrg, ← List.append_assoc, hrk, ← List.append_assoc] at this
            exact nodup_pre this
          have hnot : j * 2 ^ g + k ∉ cov ((allU r o).2.take i) ++ List.range' (j * 2 ^ g) k := fun z => (List.nodup_append.mp nd1).2.2 _ z _ List.mem_cons_self rfl
          have hkn : natK (j * 2 ^ g + k) ∉ kvs.map (·.1) := by
            rw [hk]
            exact natK_not hnot
          have hkl3 : kvs.length < 1000000 := by
            have e1 := congrArg List.length hk
            rw [List.length_map, List.length_map, List.length_append, List.length_range'] at e1
            have e2 := congrArg List.length ctk
            rw [List.length_append, List.length_range'] at e2
            omega
          refine ⟨_, rfl, _, rfl, cv, _, rfl, .inl ⟨kvs, natK (j * 2 ^ g + k), hc, ?_, Nat.lt_of_lt_of_le hkl3 (by decide), rfl⟩, ?_⟩
          · show V.int ((j : Int) * ((2 ^ g : Nat) : Int) + (k : Int)) = V.int ((j * 2 ^ g + k : Nat) : Int)
            rw [hjh]
            simp
          refine ⟨_, _, upd_keep sm hcv, upd_same, ?_, rfl⟩
          rw [putK_fresh hkn, List.map_append, hk, hrk, ← List.append_assoc]
          simp only [List.map_append]
          rfl
        · rintro σ H' ⟨kvs, y6, sm, hc, hk, rfl⟩
          rw [← ctk] at hk
          exact ⟨kvs, _, _, _, _, _, sm, hc, hk, rfl⟩
    rintro σ H6 ⟨kvs, y6, y12, y13, y14, y15, m6, hc6, hk6, rfl⟩
    rw [List.take_of_length_le (by rw [List.length_map]; omega), allU_cov] at hk6
    have asc : ((List.range (min r.length o.length)).filter (fun i => !dif r o i)).Pairwise (· < ·) := List.Pairwise.sublist List.filter_sublist List.pairwise_lt_range
    refine ⟨_, rfl, cv, kvs, _, rfl, hc6, by rw [hk6, natK_keys], fun ns' sp hperm hsort nsp => ?_⟩
    rw [asc_eq hperm hsort asc, ← nat_wat]
    have ss := same_upd (o := .lst (((List.range (min r.length o.length)).filter (fun i => !dif r o i)).map natW)) nsp
    have hsp : (upd H6 sp (.lst (((List.range (min r.length o.length)).filter (fun i => !dif r o i)).map natW))) sp = some (.lst (((List.range (min r.length o.length)).filter (fun i => !dif r o i)).map natW)) := upd_same
    have m57 := m6.trans ss
    generalize upd H6 sp (.lst (((List.range (min r.length o.length)).filter (fun i => !dif r o i)).map natW)) = H7 at hsp m57 ⊢
    refine ⟨_, rfl, ((min r.length o.length : Nat) : Int), rfl, by omega, by omega, fun D3 hD3 => ?_⟩
    rw [Int.toNat_natCast]
    refine lc_range (fun i H' => Same H7 H' ∧ H' D3 = some (.lst (((List.range i).filter (fun i => !dif r o i)).map natW))) ⟨same_upd hD3, upd_same⟩ ?_ ?_
    · rintro i H' hi ⟨sm, hl'⟩
      have ed : decide (i ∈ (allU r o).1) = dif r o i := by
        unfold dif
        refine decide_eq_decide.mpr ?_
        rw [mem_places]
        exact ⟨fun z => z.2, fun z => ⟨hi, z⟩⟩
      refine ⟨rfl, ?_⟩
      refine ⟨_, rfl, _, rfl, Dl, _, rfl, .inl (SqL.of (sm _ _ (m57 _ _ hdue5))), rfl, ?_, ?_⟩
      · rw [List.all_eq_true]
        intro x hx
        obtain ⟨z, _, rfl⟩ := List.mem_map.mp hx
        rfl
      rw [if_pos rfl, inV_places, ed]
      refine ⟨_, rfl, ite2 (fun e => ?_) (fun e => ?_)⟩
      · refine ⟨_, rfl, _, hl', ?_, upd_keep sm hD3, ?_⟩
        · rw [List.length_map]
          have := List.length_filter_le (fun i => !dif r o i) (List.range i)
          rw [List.length_range] at this
          exact Nat.lt_of_lt_of_le (show ((List.range i).filter (fun i => !dif r o i)).length < 1000000 by omega) (by decide)
        · rw [upd_same, filt_snoc, if_pos e, List.map_append, Int.zero_add]
          rfl
      · refine ⟨sm, ?_⟩
        rw [filt_snoc, if_neg e, List.append_nil]
        exact hl'
    rintro H8 ⟨m8, h8⟩
    refine ⟨_, _, wats_dp (m8 _ _ hsp), wats_dp h8, shaped1 (wats_ok _), shaped1 (wats_ok _), _, rfl, ne_same (wats_ok _).1 ?_⟩
    have m58 := m57.trans m8
    have J8 := J5.same m58
    refine ⟨_, rfl, bl, _, 0, .ref (BB 0).b, rfl, rfl, SqL.of J8.hb, rfl, _, rfl, bl, _, 1, .ref (BB 1).b, rfl, rfl, SqL.of J8.hb, rfl, .inl ⟨p, d, l, L, BB 0, BB 1, rfl, J8.sys.bk 0 z0, J8.sys.bk 1 z1, fun H9 t9 lk9 m9 _ _ _ F9 => ?_⟩⟩
    rw [hr0, hr1] at F9
    obtain ⟨ht9, _⟩ := F9
    have fp := first_places r o
    generalize (firstU r o).1 = fu at ht9 fp
    refine ⟨t9, _, 0, placeO fu, rfl, rfl, SqT.of ht9, rfl, ?_⟩
    have hdue9 := (m58.trans m9) _ _ hdue5
    have R09 := (m58.trans m9) _ _ R05
    have R19 := (m58.trans m9) _ _ R15
    refine ⟨_, rfl, sl40 (by show 0 ≤ 1000000; decide), fun l1 hl1 => ?_⟩
    have s1 := same_upd (o := .lst ([] : List V)) hl1
    have hdue10 := s1 _ _ hdue9
    have R010 := s1 _ _ R09
    have R110 := s1 _ _ R19
    have hl10 : (upd H9 l1 (.lst ([] : List V))) l1 = some (.lst (([] : List Nat).map natW)) := upd_same
    generalize upd H9 l1 (.lst ([] : List V)) = H10 at hdue10 R010 R110 hl10 ⊢
    refine ⟨_, _, wats_dp hdue10, wats_dp hl10, shaped1 (wats_ok _), shaped1 (wats_ok _), _, rfl, ?_⟩
    generalize (allU r o).1 = ps at fp hdue10 ⊢
    cases ps with
    | nil =>
      refine ne_same (wats_ok []).1 ?_
      refine ⟨_, rfl, _, rfl, sl40 (by show 2 ≤ 1000000; decide), fun l2 hl2 => ?_⟩
      have s2 := same_upd (o := .lst [V.int ((min r.length o.length : Nat) : Int), .non]) hl2
      have R011 := s2 _ _ R010
      have R111 := s2 _ _ R110
      have hl11 : (upd H10 l2 (.lst [V.int ((min r.length o.length : Nat) : Int), .non])) l2 = some (.lst [V.int ((min r.length o.length : Nat) : Int), .non]) := upd_same
      generalize upd H10 l2 (.lst [V.int ((min r.length o.length : Nat) : Int), .non]) = H11 at R011 R111 hl11 ⊢
      refine ⟨_, rfl, Kp 0, _, rfl, .inl (SqL.of R011), _, rfl, Kp 1, _, rfl, .inl (SqL.of R111), ?_⟩
      have fp : fu = (if r.length = o.length then none else some (min r.length o.length)) := fp
      by_cases el : r.length = o.length
      · rw [if_pos el] at fp
        subst fp
        have eb : decide (V.int ((r.map V.str).length : Int) = V.int ((o.map V.str).length : Int)) = true := decide_eq_true (by rw [List.length_map, List.length_map, el])
        refine ⟨rfl, ?_⟩
        refine .inr ⟨true, congrArg (fun b => [V.bl b]) eb, l2, _, 1, placeO none, rfl, rfl, SqL.of hl11, rfl, _, _, placeO_dp none, placeO_dp none, shaped1 (placeD_ok _), shaped1 (placeD_ok _), ?_⟩
        rw [SeqAt.eqv_refl _ (placeD_ok _).1]
        exact q _
      · rw [if_neg el] at fp
        subst fp
        have eb : decide (V.int ((r.map V.str).length : Int) = V.int ((o.map V.str).length : Int)) = false := decide_eq_false fun z => el (by
          rw [List.length_map, List.length_map] at z
          injection z with z
          omega)
        refine ⟨rfl, ?_⟩
        refine .inr ⟨false, congrArg (fun b => [V.bl b]) eb, l2, _, 0, placeO (some (min r.length o.length)), rfl, rfl, SqL.of hl11, rfl, _, _, placeO_dp _, placeO_dp (some (min r.length o.length)), shaped1 (placeD_ok _), shaped1 (placeD_ok _), ?_⟩
        rw [SeqAt.eqv_refl _ (placeD_ok _).1]
        exact q _
    | cons k0 rest =>
      refine iteT' (by simp [PyData.eqv, PyData.eqvAll]) ?_
      have fp : fu = some k0 := fp
      subst fp
      refine ⟨_, rfl, _, rfl, Dl, _, 0, placeO (some k0), rfl, rfl, SqL.of hdue10, atI_z (i := 0) rfl, _, _, placeO_dp (some k0), placeO_dp (some k0), shaped1 (placeD_ok _), shaped1 (placeD_ok _), ?_⟩
      rw [SeqAt.eqv_refl _ (placeD_ok _).1]
      exact q _
end

theorem MOk.toN {P : Program} {w : World} {K : PySem.W.Frag} {mg : Str → Option Value} {base : Heap} {CX : CXT} {C : Addr} {k : Nat} {ps : List Str} {sp : Sp} (M : MOk P w K mg base CX C "__init__" k ps sp) (mk : PySem.W.makesIn K C = true) (kc : PySem.W.keepIn K (.ref C) = true) : NOk P w K mg base CX C k ps sp := by
  obtain ⟨f, fd, F, h, b⟩ := M.ex
  exact ⟨f, fd, F, ⟨mk, h.at_, h.fn, kc⟩, b⟩
theorem COk.monoX {P : Program} {w : World} {K : PySem.W.Frag} {mg : Str → Option Value} {base : Heap} {CX : CXT} {x : Str} {ps : List Str} {j k : Nat} {sp : Sp} (C : COk P w K mg base CX x j ps sp) (h : j ≤ k) : COk P w K mg base CX x k ps sp := by
  obtain ⟨f, fd, F, m, kp, b⟩ := C.ex
  exact ⟨f, fd, F.mono h, m, kp, b⟩

theorem all_mk {l : PySem.W.OpenLaw} {w : World} {K : PySem.W.Frag} {h : Heap} {mg : Str → Option Value} {fa : Addr} (X : K.In h) (G : h.Ns mainGlobals mg) (hfa : mg "law" = some (.ref fa))
    {c_Ledger : Addr}
    (aC_Ledger : PySem.W.nsIn K mainGlobals "Ledger" = some (some (.ref c_Ledger)))
    {c_Book : Addr}
    (aC_Book : PySem.W.nsIn K mainGlobals "Book" = some (some (.ref c_Book)))
    {c_Looking : Addr}
    (aC_Looking : PySem.W.nsIn K mainGlobals "Looking" = some (some (.ref c_Looking)))
    {c_NoRow : Addr}
    (aE_NoRow : PySem.W.nsIn K mainGlobals "NoRow" = some (some (.ref c_NoRow)))
    {c_NoSum : Addr}
    (aE_NoSum : PySem.W.nsIn K mainGlobals "NoSum" = some (some (.ref c_NoSum)))
    {c_NoPlace : Addr}
    (aE_NoPlace : PySem.W.nsIn K mainGlobals "NoPlace" = some (some (.ref c_NoPlace)))
    {c_NoBlock : Addr}
    (aE_NoBlock : PySem.W.nsIn K mainGlobals "NoBlock" = some (some (.ref c_NoBlock)))
    {c_Full : Addr}
    (aE_Full : PySem.W.nsIn K mainGlobals "Full" = some (some (.ref c_Full)))
    {c_Strange : Addr}
    (aE_Strange : PySem.W.nsIn K mainGlobals "Strange" = some (some (.ref c_Strange)))
    (pg_Ledger : PySem.W.plainGet K c_Ledger Str.empty = true)
    (hd_Ledger : PySem.W.hasDictIn K c_Ledger = true)
    (po_Ledger : PySem.W.plainOver K c_Ledger = true)
    (sa_Ledger : PySem.W.findIn K (.ref c_Ledger) "__setattr__" = some (some (.builtin "object.__setattr__")))
    (mk_Ledger : PySem.W.makesIn K c_Ledger = true)
    (kc_Ledger : PySem.W.keepIn K (.ref c_Ledger) = true)
    (n_Ledger__sums : PySem.W.findIn K (.ref c_Ledger) "_sums" = some none)
    (n_Ledger__told : PySem.W.findIn K (.ref c_Ledger) "_told" = some none)
    {f_Ledger___init__ : Addr} {od_Ledger___init__ an_Ledger___init__ : Option Addr} {sl_Ledger___init__ : Array (Option Value)} {oc_Ledger___init__ kV_Ledger___init__ dc_Ledger___init__ pm_Ledger___init__ cd_Ledger___init__ ct_Ledger___init__ : Value}
    (a_Ledger___init__ : PySem.W.findIn K (.ref c_Ledger) "__init__" = some (some (.ref f_Ledger___init__)))
    (i_Ledger___init__ : PySem.W.isFn K (.ref f_Ledger___init__) = true)
    (l_Ledger___init__ : K.lookup f_Ledger___init__ = some ⟨oc_Ledger___init__, od_Ledger___init__, .func (PySem.W.fnOf "__init__" "Ledger.__init__" (defArgs s_Ledger___init__) (defBody s_Ledger___init__) (defScope s_Ledger___init__) .none kV_Ledger___init__ dc_Ledger___init__ pm_Ledger___init__ an_Ledger___init__ cd_Ledger___init__ ct_Ledger___init__), sl_Ledger___init__⟩)
    (c_Ledger___init__ : PySem.W.codeIn K cd_Ledger___init__ "Ledger.__init__" = true)
    (k_Ledger___init__ : PySem.W.keepIn K (.ref f_Ledger___init__) = true)
    {f_Ledger_of_row : Addr} {od_Ledger_of_row an_Ledger_of_row : Option Addr} {sl_Ledger_of_row : Array (Option Value)} {oc_Ledger_of_row kV_Ledger_of_row dc_Ledger_of_row pm_Ledger_of_row cd_Ledger_of_row ct_Ledger_of_row : Value}
    (a_Ledger_of_row : PySem.W.findIn K (.ref c_Ledger) "of_row" = some (some (.ref f_Ledger_of_row)))
    (i_Ledger_of_row : PySem.W.isFn K (.ref f_Ledger_of_row) = true)
    (l_Ledger_of_row : K.lookup f_Ledger_of_row = some ⟨oc_Ledger_of_row, od_Ledger_of_row, .func (PySem.W.fnOf "of_row" "Ledger.of_row" (defArgs s_Ledger_of_row) (defBody s_Ledger_of_row) (defScope s_Ledger_of_row) .none kV_Ledger_of_row dc_Ledger_of_row pm_Ledger_of_row an_Ledger_of_row cd_Ledger_of_row ct_Ledger_of_row), sl_Ledger_of_row⟩)
    (c_Ledger_of_row : PySem.W.codeIn K cd_Ledger_of_row "Ledger.of_row" = true)
    (k_Ledger_of_row : PySem.W.keepIn K (.ref f_Ledger_of_row) = true)
    {f_Ledger_of_pair : Addr} {od_Ledger_of_pair an_Ledger_of_pair : Option Addr} {sl_Ledger_of_pair : Array (Option Value)} {oc_Ledger_of_pair kV_Ledger_of_pair dc_Ledger_of_pair pm_Ledger_of_pair cd_Ledger_of_pair ct_Ledger_of_pair : Value}
    (a_Ledger_of_pair : PySem.W.findIn K (.ref c_Ledger) "of_pair" = some (some (.ref f_Ledger_of_pair)))
    (i_Ledger_of_pair : PySem.W.isFn K (.ref f_Ledger_of_pair) = true)
    (l_Ledger_of_pair : K.lookup f_Ledger_of_pair = some ⟨oc_Ledger_of_pair, od_Ledger_of_pair, .func (PySem.W.fnOf "of_pair" "Ledger.of_pair" (defArgs s_Ledger_of_pair) (defBody s_Ledger_of_pair) (defScope s_Ledger_of_pair) .none kV_Ledger_of_pair dc_Ledger_of_pair pm_Ledger_of_pair an_Ledger_of_pair cd_Ledger_of_pair ct_Ledger_of_pair), sl_Ledger_of_pair⟩)
    (c_Ledger_of_pair : PySem.W.codeIn K cd_Ledger_of_pair "Ledger.of_pair" = true)
    (k_Ledger_of_pair : PySem.W.keepIn K (.ref f_Ledger_of_pair) = true)
    {f_Ledger__gave_out : Addr} {od_Ledger__gave_out an_Ledger__gave_out : Option Addr} {sl_Ledger__gave_out : Array (Option Value)} {oc_Ledger__gave_out kV_Ledger__gave_out dc_Ledger__gave_out pm_Ledger__gave_out cd_Ledger__gave_out ct_Ledger__gave_out : Value}
    (a_Ledger__gave_out : PySem.W.findIn K (.ref c_Ledger) "_gave_out" = some (some (.ref f_Ledger__gave_out)))
    (i_Ledger__gave_out : PySem.W.isFn K (.ref f_Ledger__gave_out) = true)
    (l_Ledger__gave_out : K.lookup f_Ledger__gave_out = some ⟨oc_Ledger__gave_out, od_Ledger__gave_out, .func (PySem.W.fnOf "_gave_out" "Ledger._gave_out" (defArgs s_Ledger__gave_out) (defBody s_Ledger__gave_out) (defScope s_Ledger__gave_out) .none kV_Ledger__gave_out dc_Ledger__gave_out pm_Ledger__gave_out an_Ledger__gave_out cd_Ledger__gave_out ct_Ledger__gave_out), sl_Ledger__gave_out⟩)
    (c_Ledger__gave_out : PySem.W.codeIn K cd_Ledger__gave_out "Ledger._gave_out" = true)
    (k_Ledger__gave_out : PySem.W.keepIn K (.ref f_Ledger__gave_out) = true)
    {f_Ledger__sum_of : Addr} {od_Ledger__sum_of an_Ledger__sum_of : Option Addr} {sl_Ledger__sum_of : Array (Option Value)} {oc_Ledger__sum_of kV_Ledger__sum_of dc_Ledger__sum_of pm_Ledger__sum_of cd_Ledger__sum_of ct_Ledger__sum_of : Value}
    (a_Ledger__sum_of : PySem.W.findIn K (.ref c_Ledger) "_sum_of" = some (some (.ref f_Ledger__sum_of)))
    (i_Ledger__sum_of : PySem.W.isFn K (.ref f_Ledger__sum_of) = true)
    (l_Ledger__sum_of : K.lookup f_Ledger__sum_of = some ⟨oc_Ledger__sum_of, od_Ledger__sum_of, .func (PySem.W.fnOf "_sum_of" "Ledger._sum_of" (defArgs s_Ledger__sum_of) (defBody s_Ledger__sum_of) (defScope s_Ledger__sum_of) .none kV_Ledger__sum_of dc_Ledger__sum_of pm_Ledger__sum_of an_Ledger__sum_of cd_Ledger__sum_of ct_Ledger__sum_of), sl_Ledger__sum_of⟩)
    (c_Ledger__sum_of : PySem.W.codeIn K cd_Ledger__sum_of "Ledger._sum_of" = true)
    (k_Ledger__sum_of : PySem.W.keepIn K (.ref f_Ledger__sum_of) = true)
    (pg_Book : PySem.W.plainGet K c_Book Str.empty = true)
    (hd_Book : PySem.W.hasDictIn K c_Book = true)
    (po_Book : PySem.W.plainOver K c_Book = true)
    (sa_Book : PySem.W.findIn K (.ref c_Book) "__setattr__" = some (some (.builtin "object.__setattr__")))
    (mk_Book : PySem.W.makesIn K c_Book = true)
    (kc_Book : PySem.W.keepIn K (.ref c_Book) = true)
    (n_Book_ledger : PySem.W.findIn K (.ref c_Book) "ledger" = some none)
    (n_Book__rows : PySem.W.findIn K (.ref c_Book) "_rows" = some none)
    (n_Book__sums : PySem.W.findIn K (.ref c_Book) "_sums" = some none)
    {f_Book___init__ : Addr} {od_Book___init__ an_Book___init__ : Option Addr} {sl_Book___init__ : Array (Option Value)} {oc_Book___init__ kV_Book___init__ dc_Book___init__ pm_Book___init__ cd_Book___init__ ct_Book___init__ : Value}
    (a_Book___init__ : PySem.W.findIn K (.ref c_Book) "__init__" = some (some (.ref f_Book___init__)))
    (i_Book___init__ : PySem.W.isFn K (.ref f_Book___init__) = true)
    (l_Book___init__ : K.lookup f_Book___init__ = some ⟨oc_Book___init__, od_Book___init__, .func (PySem.W.fnOf "__init__" "Book.__init__" (defArgs s_Book___init__) (defBody s_Book___init__) (defScope s_Book___init__) .none kV_Book___init__ dc_Book___init__ pm_Book___init__ an_Book___init__ cd_Book___init__ ct_Book___init__), sl_Book___init__⟩)
    (c_Book___init__ : PySem.W.codeIn K cd_Book___init__ "Book.__init__" = true)
    (k_Book___init__ : PySem.W.keepIn K (.ref f_Book___init__) = true)
    {f_Book_put : Addr} {od_Book_put an_Book_put : Option Addr} {sl_Book_put : Array (Option Value)} {oc_Book_put kV_Book_put dc_Book_put pm_Book_put cd_Book_put ct_Book_put : Value}
    (a_Book_put : PySem.W.findIn K (.ref c_Book) "put" = some (some (.ref f_Book_put)))
    (i_Book_put : PySem.W.isFn K (.ref f_Book_put) = true)
    (l_Book_put : K.lookup f_Book_put = some ⟨oc_Book_put, od_Book_put, .func (PySem.W.fnOf "put" "Book.put" (defArgs s_Book_put) (defBody s_Book_put) (defScope s_Book_put) .none kV_Book_put dc_Book_put pm_Book_put an_Book_put cd_Book_put ct_Book_put), sl_Book_put⟩)
    (c_Book_put : PySem.W.codeIn K cd_Book_put "Book.put" = true)
    (k_Book_put : PySem.W.keepIn K (.ref f_Book_put) = true)
    {f_Book_add : Addr} {od_Book_add an_Book_add : Option Addr} {sl_Book_add : Array (Option Value)} {oc_Book_add kV_Book_add dc_Book_add pm_Book_add cd_Book_add ct_Book_add : Value}
    (a_Book_add : PySem.W.findIn K (.ref c_Book) "add" = some (some (.ref f_Book_add)))
    (i_Book_add : PySem.W.isFn K (.ref f_Book_add) = true)
    (l_Book_add : K.lookup f_Book_add = some ⟨oc_Book_add, od_Book_add, .func (PySem.W.fnOf "add" "Book.add" (defArgs s_Book_add) (defBody s_Book_add) (defScope s_Book_add) .none kV_Book_add dc_Book_add pm_Book_add an_Book_add cd_Book_add ct_Book_add), sl_Book_add⟩)
    (c_Book_add : PySem.W.codeIn K cd_Book_add "Book.add" = true)
    (k_Book_add : PySem.W.keepIn K (.ref f_Book_add) = true)
    {f_Book_cut : Addr} {od_Book_cut an_Book_cut : Option Addr} {sl_Book_cut : Array (Option Value)} {oc_Book_cut kV_Book_cut dc_Book_cut pm_Book_cut cd_Book_cut ct_Book_cut : Value}
    (a_Book_cut : PySem.W.findIn K (.ref c_Book) "cut" = some (some (.ref f_Book_cut)))
    (i_Book_cut : PySem.W.isFn K (.ref f_Book_cut) = true)
    (l_Book_cut : K.lookup f_Book_cut = some ⟨oc_Book_cut, od_Book_cut, .func (PySem.W.fnOf "cut" "Book.cut" (defArgs s_Book_cut) (defBody s_Book_cut) (defScope s_Book_cut) .none kV_Book_cut dc_Book_cut pm_Book_cut an_Book_cut cd_Book_cut ct_Book_cut), sl_Book_cut⟩)
    (c_Book_cut : PySem.W.codeIn K cd_Book_cut "Book.cut" = true)
    (k_Book_cut : PySem.W.keepIn K (.ref f_Book_cut) = true)
    {f_Book_count : Addr} {od_Book_count an_Book_count : Option Addr} {sl_Book_count : Array (Option Value)} {oc_Book_count kV_Book_count dc_Book_count pm_Book_count cd_Book_count ct_Book_count : Value}
    (a_Book_count : PySem.W.findIn K (.ref c_Book) "count" = some (some (.ref f_Book_count)))
    (i_Book_count : PySem.W.isFn K (.ref f_Book_count) = true)
    (l_Book_count : K.lookup f_Book_count = some ⟨oc_Book_count, od_Book_count, .func (PySem.W.fnOf "count" "Book.count" (defArgs s_Book_count) (defBody s_Book_count) (defScope s_Book_count) .none kV_Book_count dc_Book_count pm_Book_count an_Book_count cd_Book_count ct_Book_count), sl_Book_count⟩)
    (c_Book_count : PySem.W.codeIn K cd_Book_count "Book.count" = true)
    (k_Book_count : PySem.W.keepIn K (.ref f_Book_count) = true)
    {f_Book_sum_of : Addr} {od_Book_sum_of an_Book_sum_of : Option Addr} {sl_Book_sum_of : Array (Option Value)} {oc_Book_sum_of kV_Book_sum_of dc_Book_sum_of pm_Book_sum_of cd_Book_sum_of ct_Book_sum_of : Value}
    (a_Book_sum_of : PySem.W.findIn K (.ref c_Book) "sum_of" = some (some (.ref f_Book_sum_of)))
    (i_Book_sum_of : PySem.W.isFn K (.ref f_Book_sum_of) = true)
    (l_Book_sum_of : K.lookup f_Book_sum_of = some ⟨oc_Book_sum_of, od_Book_sum_of, .func (PySem.W.fnOf "sum_of" "Book.sum_of" (defArgs s_Book_sum_of) (defBody s_Book_sum_of) (defScope s_Book_sum_of) .none kV_Book_sum_of dc_Book_sum_of pm_Book_sum_of an_Book_sum_of cd_Book_sum_of ct_Book_sum_of), sl_Book_sum_of⟩)
    (c_Book_sum_of : PySem.W.codeIn K cd_Book_sum_of "Book.sum_of" = true)
    (k_Book_sum_of : PySem.W.keepIn K (.ref f_Book_sum_of) = true)
    {f_Book__sum_up : Addr} {od_Book__sum_up an_Book__sum_up : Option Addr} {sl_Book__sum_up : Array (Option Value)} {oc_Book__sum_up kV_Book__sum_up dc_Book__sum_up pm_Book__sum_up cd_Book__sum_up ct_Book__sum_up : Value}
    (a_Book__sum_up : PySem.W.findIn K (.ref c_Book) "_sum_up" = some (some (.ref f_Book__sum_up)))
    (i_Book__sum_up : PySem.W.isFn K (.ref f_Book__sum_up) = true)
    (l_Book__sum_up : K.lookup f_Book__sum_up = some ⟨oc_Book__sum_up, od_Book__sum_up, .func (PySem.W.fnOf "_sum_up" "Book._sum_up" (defArgs s_Book__sum_up) (defBody s_Book__sum_up) (defScope s_Book__sum_up) .none kV_Book__sum_up dc_Book__sum_up pm_Book__sum_up an_Book__sum_up cd_Book__sum_up ct_Book__sum_up), sl_Book__sum_up⟩)
    (c_Book__sum_up : PySem.W.codeIn K cd_Book__sum_up "Book._sum_up" = true)
    (k_Book__sum_up : PySem.W.keepIn K (.ref f_Book__sum_up) = true)
    {f_Book__asked : Addr} {od_Book__asked an_Book__asked : Option Addr} {sl_Book__asked : Array (Option Value)} {oc_Book__asked kV_Book__asked dc_Book__asked pm_Book__asked cd_Book__asked ct_Book__asked : Value}
    (a_Book__asked : PySem.W.findIn K (.ref c_Book) "_asked" = some (some (.ref f_Book__asked)))
    (i_Book__asked : PySem.W.isFn K (.ref f_Book__asked) = true)
    (l_Book__asked : K.lookup f_Book__asked = some ⟨oc_Book__asked, od_Book__asked, .func (PySem.W.fnOf "_asked" "Book._asked" (defArgs s_Book__asked) (defBody s_Book__asked) (defScope s_Book__asked) .none kV_Book__asked dc_Book__asked pm_Book__asked an_Book__asked cd_Book__asked ct_Book__asked), sl_Book__asked⟩)
    (c_Book__asked : PySem.W.codeIn K cd_Book__asked "Book._asked" = true)
    (k_Book__asked : PySem.W.keepIn K (.ref f_Book__asked) = true)
    (pg_Looking : PySem.W.plainGet K c_Looking Str.empty = true)
    (hd_Looking : PySem.W.hasDictIn K c_Looking = true)
    (po_Looking : PySem.W.plainOver K c_Looking = true)
    (sa_Looking : PySem.W.findIn K (.ref c_Looking) "__setattr__" = some (some (.builtin "object.__setattr__")))
    (mk_Looking : PySem.W.makesIn K c_Looking = true)
    (kc_Looking : PySem.W.keepIn K (.ref c_Looking) = true)
    (n_Looking__one : PySem.W.findIn K (.ref c_Looking) "_one" = some none)
    (n_Looking__other : PySem.W.findIn K (.ref c_Looking) "_other" = some none)
    (n_Looking_looks : PySem.W.findIn K (.ref c_Looking) "looks" = some none)
    {f_Looking___init__ : Addr} {od_Looking___init__ an_Looking___init__ : Option Addr} {sl_Looking___init__ : Array (Option Value)} {oc_Looking___init__ kV_Looking___init__ dc_Looking___init__ pm_Looking___init__ cd_Looking___init__ ct_Looking___init__ : Value}
    (a_Looking___init__ : PySem.W.findIn K (.ref c_Looking) "__init__" = some (some (.ref f_Looking___init__)))
    (i_Looking___init__ : PySem.W.isFn K (.ref f_Looking___init__) = true)
    (l_Looking___init__ : K.lookup f_Looking___init__ = some ⟨oc_Looking___init__, od_Looking___init__, .func (PySem.W.fnOf "__init__" "Looking.__init__" (defArgs s_Looking___init__) (defBody s_Looking___init__) (defScope s_Looking___init__) .none kV_Looking___init__ dc_Looking___init__ pm_Looking___init__ an_Looking___init__ cd_Looking___init__ ct_Looking___init__), sl_Looking___init__⟩)
    (c_Looking___init__ : PySem.W.codeIn K cd_Looking___init__ "Looking.__init__" = true)
    (k_Looking___init__ : PySem.W.keepIn K (.ref f_Looking___init__) = true)
    {f_Looking_alike : Addr} {od_Looking_alike an_Looking_alike : Option Addr} {sl_Looking_alike : Array (Option Value)} {oc_Looking_alike kV_Looking_alike dc_Looking_alike pm_Looking_alike cd_Looking_alike ct_Looking_alike : Value}
    (a_Looking_alike : PySem.W.findIn K (.ref c_Looking) "alike" = some (some (.ref f_Looking_alike)))
    (i_Looking_alike : PySem.W.isFn K (.ref f_Looking_alike) = true)
    (l_Looking_alike : K.lookup f_Looking_alike = some ⟨oc_Looking_alike, od_Looking_alike, .func (PySem.W.fnOf "alike" "Looking.alike" (defArgs s_Looking_alike) (defBody s_Looking_alike) (defScope s_Looking_alike) .none kV_Looking_alike dc_Looking_alike pm_Looking_alike an_Looking_alike cd_Looking_alike ct_Looking_alike), sl_Looking_alike⟩)
    (c_Looking_alike : PySem.W.codeIn K cd_Looking_alike "Looking.alike" = true)
    (k_Looking_alike : PySem.W.keepIn K (.ref f_Looking_alike) = true)
    {f_Looking_first_in : Addr} {od_Looking_first_in an_Looking_first_in : Option Addr} {sl_Looking_first_in : Array (Option Value)} {oc_Looking_first_in kV_Looking_first_in dc_Looking_first_in pm_Looking_first_in cd_Looking_first_in ct_Looking_first_in : Value}
    (a_Looking_first_in : PySem.W.findIn K (.ref c_Looking) "first_in" = some (some (.ref f_Looking_first_in)))
    (i_Looking_first_in : PySem.W.isFn K (.ref f_Looking_first_in) = true)
    (l_Looking_first_in : K.lookup f_Looking_first_in = some ⟨oc_Looking_first_in, od_Looking_first_in, .func (PySem.W.fnOf "first_in" "Looking.first_in" (defArgs s_Looking_first_in) (defBody s_Looking_first_in) (defScope s_Looking_first_in) .none kV_Looking_first_in dc_Looking_first_in pm_Looking_first_in an_Looking_first_in cd_Looking_first_in ct_Looking_first_in), sl_Looking_first_in⟩)
    (c_Looking_first_in : PySem.W.codeIn K cd_Looking_first_in "Looking.first_in" = true)
    (k_Looking_first_in : PySem.W.keepIn K (.ref f_Looking_first_in) = true)
    {f_Looking_all_in : Addr} {od_Looking_all_in an_Looking_all_in : Option Addr} {sl_Looking_all_in : Array (Option Value)} {oc_Looking_all_in kV_Looking_all_in dc_Looking_all_in pm_Looking_all_in cd_Looking_all_in ct_Looking_all_in : Value}
    (a_Looking_all_in : PySem.W.findIn K (.ref c_Looking) "all_in" = some (some (.ref f_Looking_all_in)))
    (i_Looking_all_in : PySem.W.isFn K (.ref f_Looking_all_in) = true)
    (l_Looking_all_in : K.lookup f_Looking_all_in = some ⟨oc_Looking_all_in, od_Looking_all_in, .func (PySem.W.fnOf "all_in" "Looking.all_in" (defArgs s_Looking_all_in) (defBody s_Looking_all_in) (defScope s_Looking_all_in) .none kV_Looking_all_in dc_Looking_all_in pm_Looking_all_in an_Looking_all_in cd_Looking_all_in ct_Looking_all_in), sl_Looking_all_in⟩)
    (c_Looking_all_in : PySem.W.codeIn K cd_Looking_all_in "Looking.all_in" = true)
    (k_Looking_all_in : PySem.W.keepIn K (.ref f_Looking_all_in) = true)
    (qE_NoRow : PySem.W.excIn K c_NoRow [.type "ValueError", .type "Exception", .type "BaseException", .type "object"] "ValueError.__new__" = true)
    (kE_NoRow : PySem.W.keepIn K (.ref c_NoRow) = true)
    (bE_NoRow : PySem.W.subIn K (.ref c_NoRow) (.type "BaseException") = some true)
    (tE_NoRow : PySem.W.typeIn K (.ref c_NoRow) = some (.type "type"))
    (dE_NoRow : PySem.W.hasDictIn K c_NoRow = true)
    (qE_NoSum : PySem.W.excIn K c_NoSum [.type "ValueError", .type "Exception", .type "BaseException", .type "object"] "ValueError.__new__" = true)
    (kE_NoSum : PySem.W.keepIn K (.ref c_NoSum) = true)
    (bE_NoSum : PySem.W.subIn K (.ref c_NoSum) (.type "BaseException") = some true)
    (tE_NoSum : PySem.W.typeIn K (.ref c_NoSum) = some (.type "type"))
    (dE_NoSum : PySem.W.hasDictIn K c_NoSum = true)
    (qE_NoPlace : PySem.W.excIn K c_NoPlace [.type "ValueError", .type "Exception", .type "BaseException", .type "object"] "ValueError.__new__" = true)
    (kE_NoPlace : PySem.W.keepIn K (.ref c_NoPlace) = true)
    (bE_NoPlace : PySem.W.subIn K (.ref c_NoPlace) (.type "BaseException") = some true)
    (tE_NoPlace : PySem.W.typeIn K (.ref c_NoPlace) = some (.type "type"))
    (dE_NoPlace : PySem.W.hasDictIn K c_NoPlace = true)
    (qE_NoBlock : PySem.W.excIn K c_NoBlock [.type "ValueError", .type "Exception", .type "BaseException", .type "object"] "ValueError.__new__" = true)
    (kE_NoBlock : PySem.W.keepIn K (.ref c_NoBlock) = true)
    (bE_NoBlock : PySem.W.subIn K (.ref c_NoBlock) (.type "BaseException") = some true)
    (tE_NoBlock : PySem.W.typeIn K (.ref c_NoBlock) = some (.type "type"))
    (dE_NoBlock : PySem.W.hasDictIn K c_NoBlock = true)
    (qE_Full : PySem.W.excIn K c_Full [.type "ValueError", .type "Exception", .type "BaseException", .type "object"] "ValueError.__new__" = true)
    (kE_Full : PySem.W.keepIn K (.ref c_Full) = true)
    (bE_Full : PySem.W.subIn K (.ref c_Full) (.type "BaseException") = some true)
    (tE_Full : PySem.W.typeIn K (.ref c_Full) = some (.type "type"))
    (dE_Full : PySem.W.hasDictIn K c_Full = true)
    (qE_Strange : PySem.W.excIn K c_Strange [.type "ValueError", .type "Exception", .type "BaseException", .type "object"] "ValueError.__new__" = true)
    (kE_Strange : PySem.W.keepIn K (.ref c_Strange) = true)
    (bE_Strange : PySem.W.subIn K (.ref c_Strange) (.type "BaseException") = some true)
    (tE_Strange : PySem.W.typeIn K (.ref c_Strange) = some (.type "type"))
    (dE_Strange : PySem.W.hasDictIn K c_Strange = true)
    {t_SIGNS : _}
    (v_SIGNS : PySem.W.nsIn K mainGlobals "SIGNS" = some (some (.str (Str.ofString "abcdefghijklmnopqrstuvwxyz0123456789 ") t_SIGNS)))
    {t_LONGEST_ROW : _}
    (v_LONGEST_ROW : PySem.W.nsIn K mainGlobals "LONGEST_ROW" = some (some (.int 40 t_LONGEST_ROW)))
    {t_MOST_ROWS : _}
    (v_MOST_ROWS : PySem.W.nsIn K mainGlobals "MOST_ROWS" = some (some (.int 1024 t_MOST_ROWS)))
    (pl_m : PySem.W.mroIn K c_Ledger (.type "object") = some true)
    (pl_e : PySem.W.findIn K (.ref c_Ledger) "__eq__" = some (some (.builtin "object.__eq__")))
    (pl_n : PySem.W.findIn K (.ref c_Ledger) "__ne__" = some (some (.builtin "object.__ne__")))
    {f_digits : Addr} {od_digits an_digits : Option Addr} {sl_digits : Array (Option Value)} {oc_digits kV_digits dc_digits pm_digits cd_digits ct_digits : Value}
    (a_digits : PySem.W.nsIn K mainGlobals "digits" = some (some (.ref f_digits)))
    (l_digits : K.lookup f_digits = some ⟨oc_digits, od_digits, .func (PySem.W.fnOf "digits" "digits" (defArgs s_digits) (defBody s_digits) (defScope s_digits) .none kV_digits dc_digits pm_digits an_digits cd_digits ct_digits), sl_digits⟩)
    (c_digits : PySem.W.codeIn K cd_digits "digits" = true)
    (k_digits : PySem.W.keepIn K (.ref f_digits) = true)
    {f_parted : Addr} {od_parted an_parted : Option Addr} {sl_parted : Array (Option Value)} {oc_parted kV_parted dc_parted pm_parted cd_parted ct_parted : Value}
    (a_parted : PySem.W.nsIn K mainGlobals "parted" = some (some (.ref f_parted)))
    (l_parted : K.lookup f_parted = some ⟨oc_parted, od_parted, .func (PySem.W.fnOf "parted" "parted" (defArgs s_parted) (defBody s_parted) (defScope s_parted) .none kV_parted dc_parted pm_parted an_parted cd_parted ct_parted), sl_parted⟩)
    (c_parted : PySem.W.codeIn K cd_parted "parted" = true)
    (k_parted : PySem.W.keepIn K (.ref f_parted) = true)
    {f_blocks_at : Addr} {od_blocks_at an_blocks_at : Option Addr} {sl_blocks_at : Array (Option Value)} {oc_blocks_at kV_blocks_at dc_blocks_at pm_blocks_at cd_blocks_at ct_blocks_at : Value}
    (a_blocks_at : PySem.W.nsIn K mainGlobals "blocks_at" = some (some (.ref f_blocks_at)))
    (l_blocks_at : K.lookup f_blocks_at = some ⟨oc_blocks_at, od_blocks_at, .func (PySem.W.fnOf "blocks_at" "blocks_at" (defArgs s_blocks_at) (defBody s_blocks_at) (defScope s_blocks_at) .none kV_blocks_at dc_blocks_at pm_blocks_at an_blocks_at cd_blocks_at ct_blocks_at), sl_blocks_at⟩)
    (c_blocks_at : PySem.W.codeIn K cd_blocks_at "blocks_at" = true)
    (k_blocks_at : PySem.W.keepIn K (.ref f_blocks_at) = true)
    {f_first_unlike : Addr} {od_first_unlike an_first_unlike : Option Addr} {sl_first_unlike : Array (Option Value)} {oc_first_unlike kV_first_unlike dc_first_unlike pm_first_unlike cd_first_unlike ct_first_unlike : Value}
    (a_first_unlike : PySem.W.nsIn K mainGlobals "first_unlike" = some (some (.ref f_first_unlike)))
    (l_first_unlike : K.lookup f_first_unlike = some ⟨oc_first_unlike, od_first_unlike, .func (PySem.W.fnOf "first_unlike" "first_unlike" (defArgs s_first_unlike) (defBody s_first_unlike) (defScope s_first_unlike) .none kV_first_unlike dc_first_unlike pm_first_unlike an_first_unlike cd_first_unlike ct_first_unlike), sl_first_unlike⟩)
    (c_first_unlike : PySem.W.codeIn K cd_first_unlike "first_unlike" = true)
    (k_first_unlike : PySem.W.keepIn K (.ref f_first_unlike) = true)
    {f_all_unlike : Addr} {od_all_unlike an_all_unlike : Option Addr} {sl_all_unlike : Array (Option Value)} {oc_all_unlike kV_all_unlike dc_all_unlike pm_all_unlike cd_all_unlike ct_all_unlike : Value}
    (a_all_unlike : PySem.W.nsIn K mainGlobals "all_unlike" = some (some (.ref f_all_unlike)))
    (l_all_unlike : K.lookup f_all_unlike = some ⟨oc_all_unlike, od_all_unlike, .func (PySem.W.fnOf "all_unlike" "all_unlike" (defArgs s_all_unlike) (defBody s_all_unlike) (defScope s_all_unlike) .none kV_all_unlike dc_all_unlike pm_all_unlike an_all_unlike cd_all_unlike ct_all_unlike), sl_all_unlike⟩)
    (c_all_unlike : PySem.W.codeIn K cd_all_unlike "all_unlike" = true)
    (k_all_unlike : PySem.W.keepIn K (.ref f_all_unlike) = true)
    {f_is_whole : Addr} {od_is_whole an_is_whole : Option Addr} {sl_is_whole : Array (Option Value)} {oc_is_whole kV_is_whole dc_is_whole pm_is_whole cd_is_whole ct_is_whole : Value}
    (a_is_whole : PySem.W.nsIn K mainGlobals "is_whole" = some (some (.ref f_is_whole)))
    (l_is_whole : K.lookup f_is_whole = some ⟨oc_is_whole, od_is_whole, .func (PySem.W.fnOf "is_whole" "is_whole" (defArgs s_is_whole) (defBody s_is_whole) (defScope s_is_whole) .none kV_is_whole dc_is_whole pm_is_whole an_is_whole cd_is_whole ct_is_whole), sl_is_whole⟩)
    (c_is_whole : PySem.W.codeIn K cd_is_whole "is_whole" = true)
    (k_is_whole : PySem.W.keepIn K (.ref f_is_whole) = true)
    {f_is_row : Addr} {od_is_row an_is_row : Option Addr} {sl_is_row : Array (Option Value)} {oc_is_row kV_is_row dc_is_row pm_is_row cd_is_row ct_is_row : Value}
    (a_is_row : PySem.W.nsIn K mainGlobals "is_row" = some (some (.ref f_is_row)))
    (l_is_row : K.lookup f_is_row = some ⟨oc_is_row, od_is_row, .func (PySem.W.fnOf "is_row" "is_row" (defArgs s_is_row) (defBody s_is_row) (defScope s_is_row) .none kV_is_row dc_is_row pm_is_row an_is_row cd_is_row ct_is_row), sl_is_row⟩)
    (c_is_row : PySem.W.codeIn K cd_is_row "is_row" = true)
    (k_is_row : PySem.W.keepIn K (.ref f_is_row) = true)
    {f_check_row : Addr} {od_check_row an_check_row : Option Addr} {sl_check_row : Array (Option Value)} {oc_check_row kV_check_row dc_check_row pm_check_row cd_check_row ct_check_row : Value}
    (a_check_row : PySem.W.nsIn K mainGlobals "check_row" = some (some (.ref f_check_row)))
    (l_check_row : K.lookup f_check_row = some ⟨oc_check_row, od_check_row, .func (PySem.W.fnOf "check_row" "check_row" (defArgs s_check_row) (defBody s_check_row) (defScope s_check_row) .none kV_check_row dc_check_row pm_check_row an_check_row cd_check_row ct_check_row), sl_check_row⟩)
    (c_check_row : PySem.W.codeIn K cd_check_row "check_row" = true)
    (k_check_row : PySem.W.keepIn K (.ref f_check_row) = true)
    {f_check_place : Addr} {od_check_place an_check_place : Option Addr} {sl_check_place : Array (Option Value)} {oc_check_place kV_check_place dc_check_place pm_check_place cd_check_place ct_check_place : Value}
    (a_check_place : PySem.W.nsIn K mainGlobals "check_place" = some (some (.ref f_check_place)))
    (l_check_place : K.lookup f_check_place = some ⟨oc_check_place, od_check_place, .func (PySem.W.fnOf "check_place" "check_place" (defArgs s_check_place) (defBody s_check_place) (defScope s_check_place) .none kV_check_place dc_check_place pm_check_place an_check_place cd_check_place ct_check_place), sl_check_place⟩)
    (c_check_place : PySem.W.codeIn K cd_check_place "check_place" = true)
    (k_check_place : PySem.W.keepIn K (.ref f_check_place) = true)
    {f_law_cell_at : Addr} {od_law_cell_at an_law_cell_at : Option Addr} {sl_law_cell_at : Array (Option Value)} {oc_law_cell_at kV_law_cell_at dc_law_cell_at pm_law_cell_at cd_law_cell_at ct_law_cell_at : Value}
    (a_law_cell_at : PySem.W.nsIn K mainGlobals "_law_cell_at" = some (some (.ref f_law_cell_at)))
    (l_law_cell_at : K.lookup f_law_cell_at = some ⟨oc_law_cell_at, od_law_cell_at, .func (PySem.W.fnOf "_law_cell_at" "_law_cell_at" (defArgs s_law_cell_at) (defBody s_law_cell_at) (defScope s_law_cell_at) .none kV_law_cell_at dc_law_cell_at pm_law_cell_at an_law_cell_at cd_law_cell_at ct_law_cell_at), sl_law_cell_at⟩)
    (c_law_cell_at : PySem.W.codeIn K cd_law_cell_at "_law_cell_at" = true)
    (k_law_cell_at : PySem.W.keepIn K (.ref f_law_cell_at) = true)
    {f_law_mix : Addr} {od_law_mix an_law_mix : Option Addr} {sl_law_mix : Array (Option Value)} {oc_law_mix kV_law_mix dc_law_mix pm_law_mix cd_law_mix ct_law_mix : Value}
    (a_law_mix : PySem.W.nsIn K mainGlobals "_law_mix" = some (some (.ref f_law_mix)))
    (l_law_mix : K.lookup f_law_mix = some ⟨oc_law_mix, od_law_mix, .func (PySem.W.fnOf "_law_mix" "_law_mix" (defArgs s_law_mix) (defBody s_law_mix) (defScope s_law_mix) .none kV_law_mix dc_law_mix pm_law_mix an_law_mix cd_law_mix ct_law_mix), sl_law_mix⟩)
    (c_law_mix : PySem.W.codeIn K cd_law_mix "_law_mix" = true)
    (k_law_mix : PySem.W.keepIn K (.ref f_law_mix) = true)
    {f_law_text : Addr} {od_law_text an_law_text : Option Addr} {sl_law_text : Array (Option Value)} {oc_law_text kV_law_text dc_law_text pm_law_text cd_law_text ct_law_text : Value}
    (a_law_text : PySem.W.nsIn K mainGlobals "_law_text" = some (some (.ref f_law_text)))
    (l_law_text : K.lookup f_law_text = some ⟨oc_law_text, od_law_text, .func (PySem.W.fnOf "_law_text" "_law_text" (defArgs s_law_text) (defBody s_law_text) (defScope s_law_text) .none kV_law_text dc_law_text pm_law_text an_law_text cd_law_text ct_law_text), sl_law_text⟩)
    (c_law_text : PySem.W.codeIn K cd_law_text "_law_text" = true)
    (k_law_text : PySem.W.keepIn K (.ref f_law_text) = true)
    {f_law_near : Addr} {od_law_near an_law_near : Option Addr} {sl_law_near : Array (Option Value)} {oc_law_near kV_law_near dc_law_near pm_law_near cd_law_near ct_law_near : Value}
    (a_law_near : PySem.W.nsIn K mainGlobals "_law_near" = some (some (.ref f_law_near)))
    (l_law_near : K.lookup f_law_near = some ⟨oc_law_near, od_law_near, .func (PySem.W.fnOf "_law_near" "_law_near" (defArgs s_law_near) (defBody s_law_near) (defScope s_law_near) .none kV_law_near dc_law_near pm_law_near an_law_near cd_law_near ct_law_near), sl_law_near⟩)
    (c_law_near : PySem.W.codeIn K cd_law_near "_law_near" = true)
    (k_law_near : PySem.W.keepIn K (.ref f_law_near) = true)
    {f_law_rows : Addr} {od_law_rows an_law_rows : Option Addr} {sl_law_rows : Array (Option Value)} {oc_law_rows kV_law_rows dc_law_rows pm_law_rows cd_law_rows ct_law_rows : Value}
    (a_law_rows : PySem.W.nsIn K mainGlobals "_law_rows" = some (some (.ref f_law_rows)))
    (l_law_rows : K.lookup f_law_rows = some ⟨oc_law_rows, od_law_rows, .func (PySem.W.fnOf "_law_rows" "_law_rows" (defArgs s_law_rows) (defBody s_law_rows) (defScope s_law_rows) .none kV_law_rows dc_law_rows pm_law_rows an_law_rows cd_law_rows ct_law_rows), sl_law_rows⟩)
    (c_law_rows : PySem.W.codeIn K cd_law_rows "_law_rows" = true)
    (k_law_rows : PySem.W.keepIn K (.ref f_law_rows) = true)
    {f_law_twin : Addr} {od_law_twin an_law_twin : Option Addr} {sl_law_twin : Array (Option Value)} {oc_law_twin kV_law_twin dc_law_twin pm_law_twin cd_law_twin ct_law_twin : Value}
    (a_law_twin : PySem.W.nsIn K mainGlobals "_law_twin" = some (some (.ref f_law_twin)))
    (l_law_twin : K.lookup f_law_twin = some ⟨oc_law_twin, od_law_twin, .func (PySem.W.fnOf "_law_twin" "_law_twin" (defArgs s_law_twin) (defBody s_law_twin) (defScope s_law_twin) .none kV_law_twin dc_law_twin pm_law_twin an_law_twin cd_law_twin ct_law_twin), sl_law_twin⟩)
    (c_law_twin : PySem.W.codeIn K cd_law_twin "_law_twin" = true)
    (k_law_twin : PySem.W.keepIn K (.ref f_law_twin) = true)
    {f_law_books : Addr} {od_law_books an_law_books : Option Addr} {sl_law_books : Array (Option Value)} {oc_law_books kV_law_books dc_law_books pm_law_books cd_law_books ct_law_books : Value}
    (a_law_books : PySem.W.nsIn K mainGlobals "_law_books" = some (some (.ref f_law_books)))
    (l_law_books : K.lookup f_law_books = some ⟨oc_law_books, od_law_books, .func (PySem.W.fnOf "_law_books" "_law_books" (defArgs s_law_books) (defBody s_law_books) (defScope s_law_books) .none kV_law_books dc_law_books pm_law_books an_law_books cd_law_books ct_law_books), sl_law_books⟩)
    (c_law_books : PySem.W.codeIn K cd_law_books "_law_books" = true)
    (k_law_books : PySem.W.keepIn K (.ref f_law_books) = true)
    {f_law_change : Addr} {od_law_change an_law_change : Option Addr} {sl_law_change : Array (Option Value)} {oc_law_change kV_law_change dc_law_change pm_law_change cd_law_change ct_law_change : Value}
    (a_law_change : PySem.W.nsIn K mainGlobals "_law_change" = some (some (.ref f_law_change)))
    (l_law_change : K.lookup f_law_change = some ⟨oc_law_change, od_law_change, .func (PySem.W.fnOf "_law_change" "_law_change" (defArgs s_law_change) (defBody s_law_change) (defScope s_law_change) .none kV_law_change dc_law_change pm_law_change an_law_change cd_law_change ct_law_change), sl_law_change⟩)
    (c_law_change : PySem.W.codeIn K cd_law_change "_law_change" = true)
    (k_law_change : PySem.W.keepIn K (.ref f_law_change) = true)
    {f_law_digits : Addr} {od_law_digits an_law_digits : Option Addr} {sl_law_digits : Array (Option Value)} {oc_law_digits kV_law_digits dc_law_digits pm_law_digits cd_law_digits ct_law_digits : Value}
    (a_law_digits : PySem.W.nsIn K mainGlobals "_law_digits" = some (some (.ref f_law_digits)))
    (l_law_digits : K.lookup f_law_digits = some ⟨oc_law_digits, od_law_digits, .func (PySem.W.fnOf "_law_digits" "_law_digits" (defArgs s_law_digits) (defBody s_law_digits) (defScope s_law_digits) .none kV_law_digits dc_law_digits pm_law_digits an_law_digits cd_law_digits ct_law_digits), sl_law_digits⟩)
    (c_law_digits : PySem.W.codeIn K cd_law_digits "_law_digits" = true)
    (k_law_digits : PySem.W.keepIn K (.ref f_law_digits) = true)
    {f_law_size : Addr} {od_law_size an_law_size : Option Addr} {sl_law_size : Array (Option Value)} {oc_law_size kV_law_size dc_law_size pm_law_size cd_law_size ct_law_size : Value}
    (a_law_size : PySem.W.nsIn K mainGlobals "_law_size" = some (some (.ref f_law_size)))
    (l_law_size : K.lookup f_law_size = some ⟨oc_law_size, od_law_size, .func (PySem.W.fnOf "_law_size" "_law_size" (defArgs s_law_size) (defBody s_law_size) (defScope s_law_size) .none kV_law_size dc_law_size pm_law_size an_law_size cd_law_size ct_law_size), sl_law_size⟩)
    (c_law_size : PySem.W.codeIn K cd_law_size "_law_size" = true)
    (k_law_size : PySem.W.keepIn K (.ref f_law_size) = true)
    {f_law_room : Addr} {od_law_room an_law_room : Option Addr} {sl_law_room : Array (Option Value)} {oc_law_room kV_law_room dc_law_room pm_law_room cd_law_room ct_law_room : Value}
    (a_law_room : PySem.W.nsIn K mainGlobals "_law_room" = some (some (.ref f_law_room)))
    (l_law_room : K.lookup f_law_room = some ⟨oc_law_room, od_law_room, .func (PySem.W.fnOf "_law_room" "_law_room" (defArgs s_law_room) (defBody s_law_room) (defScope s_law_room) .none kV_law_room dc_law_room pm_law_room an_law_room cd_law_room ct_law_room), sl_law_room⟩)
    (c_law_room : PySem.W.codeIn K cd_law_room "_law_room" = true)
    (k_law_room : PySem.W.keepIn K (.ref f_law_room) = true)
    {f_law_true : Addr} {od_law_true an_law_true : Option Addr} {sl_law_true : Array (Option Value)} {oc_law_true kV_law_true dc_law_true pm_law_true cd_law_true ct_law_true : Value}
    (a_law_true : PySem.W.nsIn K mainGlobals "_law_true" = some (some (.ref f_law_true)))
    (l_law_true : K.lookup f_law_true = some ⟨oc_law_true, od_law_true, .func (PySem.W.fnOf "_law_true" "_law_true" (defArgs s_law_true) (defBody s_law_true) (defScope s_law_true) .none kV_law_true dc_law_true pm_law_true an_law_true cd_law_true ct_law_true), sl_law_true⟩)
    (c_law_true : PySem.W.codeIn K cd_law_true "_law_true" = true)
    (k_law_true : PySem.W.keepIn K (.ref f_law_true) = true)
    {f_law : Addr} {od_law an_law : Option Addr} {sl_law : Array (Option Value)} {oc_law kV_law dc_law pm_law cd_law ct_law : Value}
    (a_law : PySem.W.nsIn K mainGlobals "law" = some (some (.ref f_law)))
    (l_law : K.lookup f_law = some ⟨oc_law, od_law, .func (PySem.W.fnOf "law" "law" (defArgs s_law) (defBody s_law) (defScope s_law) .none kV_law dc_law pm_law an_law cd_law ct_law), sl_law⟩)
    (c_law : PySem.W.codeIn K cd_law "law" = true)
    (k_law : PySem.W.keepIn K (.ref f_law) = true)
    (z_len : PySem.W.nsIn K mainGlobals "len" = some none)
    (z_range : PySem.W.nsIn K mainGlobals "range" = some none)
    (z_reversed : PySem.W.nsIn K mainGlobals "reversed" = some none)
    (z_isinstance : PySem.W.nsIn K mainGlobals "isinstance" = some none)
    (z_int : PySem.W.nsIn K mainGlobals "int" = some none)
    (z_bool : PySem.W.nsIn K mainGlobals "bool" = some none)
    (z_list : PySem.W.nsIn K mainGlobals "list" = some none)
    (z_tuple : PySem.W.nsIn K mainGlobals "tuple" = some none)
    (z_str : PySem.W.nsIn K mainGlobals "str" = some none)
    (z_set : PySem.W.nsIn K mainGlobals "set" = some none)
    (z_all : PySem.W.nsIn K mainGlobals "all" = some none)
    (z_min : PySem.W.nsIn K mainGlobals "min" = some none)
    (z_max : PySem.W.nsIn K mainGlobals "max" = some none)
    (z_sorted : PySem.W.nsIn K mainGlobals "sorted" = some none)
    (z_ValueError : PySem.W.nsIn K mainGlobals "ValueError" = some none)
    (z_enumerate : PySem.W.nsIn K mainGlobals "enumerate" = some none)
    : ∃ fd : FuncData, (∀ (s : Shared) (v : Value), BindsTo s fd ⟨[v], []⟩ [("_law_script", v)]) ∧ ∀ base : Heap, K.In base → base.Ns mainGlobals mg → FnOk l.prog w K mg base CX0 33 fa fd ["_law_script"] (spLaw K) := by
  have e := hfa.symm.trans (PySem.W.mg_of X G a_law)
  cases e
  have F_digits := fun_mk (st := s_digits) l_digits c_digits k_digits
  have m_digits := PySem.W.mg_of X G a_digits
  have b_digits := F_digits.binds (ps := ["count"]) fun _ _ _ _ _ _ us hl => match us, hl with | [_], _ => rfl
  have D_digits : Dfn K mg "digits" s_digits ["count"] := ⟨_, _, F_digits, m_digits, b_digits⟩
  have F_parted := fun_mk (st := s_parted) l_parted c_parted k_parted
  have m_parted := PySem.W.mg_of X G a_parted
  have b_parted := F_parted.binds (ps := ["count"]) fun _ _ _ _ _ _ us hl => match us, hl with | [_], _ => rfl
  have D_parted : Dfn K mg "parted" s_parted ["count"] := ⟨_, _, F_parted, m_parted, b_parted⟩
  have F_blocks_at := fun_mk (st := s_blocks_at) l_blocks_at c_blocks_at k_blocks_at
  have m_blocks_at := PySem.W.mg_of X G a_blocks_at
  have b_blocks_at := F_blocks_at.binds (ps := ["count", "place"]) fun _ _ _ _ _ _ us hl => match us, hl with | [_, _], _ => rfl
  have D_blocks_at : Dfn K mg "blocks_at" s_blocks_at ["count", "place"] := ⟨_, _, F_blocks_at, m_blocks_at, b_blocks_at⟩
  have F_first_unlike := fun_mk (st := s_first_unlike) l_first_unlike c_first_unlike k_first_unlike
  have m_first_unlike := PySem.W.mg_of X G a_first_unlike
  have b_first_unlike := F_first_unlike.binds (ps := ["one", "other"]) fun _ _ _ _ _ _ us hl => match us, hl with | [_, _], _ => rfl
  have D_first_unlike : Dfn K mg "first_unlike" s_first_unlike ["one", "other"] := ⟨_, _, F_first_unlike, m_first_unlike, b_first_unlike⟩
  have F_all_unlike := fun_mk (st := s_all_unlike) l_all_unlike c_all_unlike k_all_unlike
  have m_all_unlike := PySem.W.mg_of X G a_all_unlike
  have b_all_unlike := F_all_unlike.binds (ps := ["one", "other"]) fun _ _ _ _ _ _ us hl => match us, hl with | [_, _], _ => rfl
  have D_all_unlike : Dfn K mg "all_unlike" s_all_unlike ["one", "other"] := ⟨_, _, F_all_unlike, m_all_unlike, b_all_unlike⟩
  have F_is_whole := fun_mk (st := s_is_whole) l_is_whole c_is_whole k_is_whole
  have m_is_whole := PySem.W.mg_of X G a_is_whole
  have b_is_whole := F_is_whole.binds (ps := ["thing"]) fun _ _ _ _ _ _ us hl => match us, hl with | [_], _ => rfl
  have D_is_whole : Dfn K mg "is_whole" s_is_whole ["thing"] := ⟨_, _, F_is_whole, m_is_whole, b_is_whole⟩
  have F_is_row := fun_mk (st := s_is_row) l_is_row c_is_row k_is_row
  have m_is_row := PySem.W.mg_of X G a_is_row
  have b_is_row := F_is_row.binds (ps := ["thing"]) fun _ _ _ _ _ _ us hl => match us, hl with | [_], _ => rfl
  have D_is_row : Dfn K mg "is_row" s_is_row ["thing"] := ⟨_, _, F_is_row, m_is_row, b_is_row⟩
  have F_check_row := fun_mk (st := s_check_row) l_check_row c_check_row k_check_row
  have m_check_row := PySem.W.mg_of X G a_check_row
  have b_check_row := F_check_row.binds (ps := ["thing"]) fun _ _ _ _ _ _ us hl => match us, hl with | [_], _ => rfl
  have D_check_row : Dfn K mg "check_row" s_check_row ["thing"] := ⟨_, _, F_check_row, m_check_row, b_check_row⟩
  have F_check_place := fun_mk (st := s_check_place) l_check_place c_check_place k_check_place
  have m_check_place := PySem.W.mg_of X G a_check_place
  have b_check_place := F_check_place.binds (ps := ["thing", "count"]) fun _ _ _ _ _ _ us hl => match us, hl with | [_, _], _ => rfl
  have D_check_place : Dfn K mg "check_place" s_check_place ["thing", "count"] := ⟨_, _, F_check_place, m_check_place, b_check_place⟩
  have F_law_cell_at := fun_mk (st := s_law_cell_at) l_law_cell_at c_law_cell_at k_law_cell_at
  have m_law_cell_at := PySem.W.mg_of X G a_law_cell_at
  have b_law_cell_at := F_law_cell_at.binds (ps := ["_law_script", "_law_k"]) fun _ _ _ _ _ _ us hl => match us, hl with | [_, _], _ => rfl
  have D_law_cell_at : Dfn K mg "_law_cell_at" s_law_cell_at ["_law_script", "_law_k"] := ⟨_, _, F_law_cell_at, m_law_cell_at, b_law_cell_at⟩
  have F_law_mix := fun_mk (st := s_law_mix) l_law_mix c_law_mix k_law_mix
  have m_law_mix := PySem.W.mg_of X G a_law_mix
  have b_law_mix := F_law_mix.binds (ps := ["_law_number", "_law_k"]) fun _ _ _ _ _ _ us hl => match us, hl with | [_, _], _ => rfl
  have D_law_mix : Dfn K mg "_law_mix" s_law_mix ["_law_number", "_law_k"] := ⟨_, _, F_law_mix, m_law_mix, b_law_mix⟩
  have F_law_text := fun_mk (st := s_law_text) l_law_text c_law_text k_law_text
  have m_law_text := PySem.W.mg_of X G a_law_text
  have b_law_text := F_law_text.binds (ps := ["_law_cell"]) fun _ _ _ _ _ _ us hl => match us, hl with | [_], _ => rfl
  have D_law_text : Dfn K mg "_law_text" s_law_text ["_law_cell"] := ⟨_, _, F_law_text, m_law_text, b_law_text⟩
  have F_law_near := fun_mk (st := s_law_near) l_law_near c_law_near k_law_near
  have m_law_near := PySem.W.mg_of X G a_law_near
  have b_law_near := F_law_near.binds (ps := ["_law_text_here", "_law_cell"]) fun _ _ _ _ _ _ us hl => match us, hl with | [_, _], _ => rfl
  have D_law_near : Dfn K mg "_law_near" s_law_near ["_law_text_here", "_law_cell"] := ⟨_, _, F_law_near, m_law_near, b_law_near⟩
  have F_law_rows := fun_mk (st := s_law_rows) l_law_rows c_law_rows k_law_rows
  have m_law_rows := PySem.W.mg_of X G a_law_rows
  have b_law_rows := F_law_rows.binds (ps := ["_law_cell", "_law_more"]) fun _ _ _ _ _ _ us hl => match us, hl with | [_, _], _ => rfl
  have D_law_rows : Dfn K mg "_law_rows" s_law_rows ["_law_cell", "_law_more"] := ⟨_, _, F_law_rows, m_law_rows, b_law_rows⟩
  have F_law_twin := fun_mk (st := s_law_twin) l_law_twin c_law_twin k_law_twin
  have m_law_twin := PySem.W.mg_of X G a_law_twin
  have b_law_twin := F_law_twin.binds (ps := ["_law_rows_here", "_law_cell"]) fun _ _ _ _ _ _ us hl => match us, hl with | [_, _], _ => rfl
  have D_law_twin : Dfn K mg "_law_twin" s_law_twin ["_law_rows_here", "_law_cell"] := ⟨_, _, F_law_twin, m_law_twin, b_law_twin⟩
  have F_law_books := fun_mk (st := s_law_books) l_law_books c_law_books k_law_books
  have m_law_books := PySem.W.mg_of X G a_law_books
  have b_law_books := F_law_books.binds (ps := ["_law_script"]) fun _ _ _ _ _ _ us hl => match us, hl with | [_], _ => rfl
  have D_law_books : Dfn K mg "_law_books" s_law_books ["_law_script"] := ⟨_, _, F_law_books, m_law_books, b_law_books⟩
  have F_law_change := fun_mk (st := s_law_change) l_law_change c_law_change k_law_change
  have m_law_change := PySem.W.mg_of X G a_law_change
  have b_law_change := F_law_change.binds (ps := ["_law_book", "_law_rows_here", "_law_others", "_law_cell"]) fun _ _ _ _ _ _ us hl => match us, hl with | [_, _, _, _], _ => rfl
  have D_law_change : Dfn K mg "_law_change" s_law_change ["_law_book", "_law_rows_here", "_law_others", "_law_cell"] := ⟨_, _, F_law_change, m_law_change, b_law_change⟩
  have F_law_digits := fun_mk (st := s_law_digits) l_law_digits c_law_digits k_law_digits
  have m_law_digits := PySem.W.mg_of X G a_law_digits
  have b_law_digits := F_law_digits.binds (ps := ["_law_count"]) fun _ _ _ _ _ _ us hl => match us, hl with | [_], _ => rfl
  have D_law_digits : Dfn K mg "_law_digits" s_law_digits ["_law_count"] := ⟨_, _, F_law_digits, m_law_digits, b_law_digits⟩
  have F_law_size := fun_mk (st := s_law_size) l_law_size c_law_size k_law_size
  have m_law_size := PySem.W.mg_of X G a_law_size
  have b_law_size := F_law_size.binds (ps := ["_law_height"]) fun _ _ _ _ _ _ us hl => match us, hl with | [_], _ => rfl
  have D_law_size : Dfn K mg "_law_size" s_law_size ["_law_height"] := ⟨_, _, F_law_size, m_law_size, b_law_size⟩
  have F_law_room := fun_mk (st := s_law_room) l_law_room c_law_room k_law_room
  have m_law_room := PySem.W.mg_of X G a_law_room
  have b_law_room := F_law_room.binds (ps := ["_law_script", "_law_small", "_law_great"]) fun _ _ _ _ _ _ us hl => match us, hl with | [_, _, _], _ => rfl
  have D_law_room : Dfn K mg "_law_room" s_law_room ["_law_script", "_law_small", "_law_great"] := ⟨_, _, F_law_room, m_law_room, b_law_room⟩
  have F_law_true := fun_mk (st := s_law_true) l_law_true c_law_true k_law_true
  have m_law_true := PySem.W.mg_of X G a_law_true
  have b_law_true := F_law_true.binds (ps := ["_law_rows_here", "_law_other", "_law_looks"]) fun _ _ _ _ _ _ us hl => match us, hl with | [_, _, _], _ => rfl
  have D_law_true : Dfn K mg "_law_true" s_law_true ["_law_rows_here", "_law_other", "_law_looks"] := ⟨_, _, F_law_true, m_law_true, b_law_true⟩
  have F_law := fun_mk (st := s_law) l_law c_law k_law
  have F_Ledger___init__ := fun_mk (st := s_Ledger___init__) l_Ledger___init__ c_Ledger___init__ k_Ledger___init__
  have D_Ledger___init__ : Mth K c_Ledger "__init__" "Ledger.__init__" s_Ledger___init__ ["self"] := ⟨_, _, F_Ledger___init__, ⟨a_Ledger___init__, i_Ledger___init__, k_Ledger___init__⟩, F_Ledger___init__.binds (ps := ["self"]) fun _ _ _ _ _ _ us hl => match us, hl with | [_], _ => rfl⟩
  have F_Ledger_of_row := fun_mk (st := s_Ledger_of_row) l_Ledger_of_row c_Ledger_of_row k_Ledger_of_row
  have D_Ledger_of_row : Mth K c_Ledger "of_row" "Ledger.of_row" s_Ledger_of_row ["self", "row"] := ⟨_, _, F_Ledger_of_row, ⟨a_Ledger_of_row, i_Ledger_of_row, k_Ledger_of_row⟩, F_Ledger_of_row.binds (ps := ["self", "row"]) fun _ _ _ _ _ _ us hl => match us, hl with | [_, _], _ => rfl⟩
  have F_Ledger_of_pair := fun_mk (st := s_Ledger_of_pair) l_Ledger_of_pair c_Ledger_of_pair k_Ledger_of_pair
  have D_Ledger_of_pair : Mth K c_Ledger "of_pair" "Ledger.of_pair" s_Ledger_of_pair ["self", "one", "other"] := ⟨_, _, F_Ledger_of_pair, ⟨a_Ledger_of_pair, i_Ledger_of_pair, k_Ledger_of_pair⟩, F_Ledger_of_pair.binds (ps := ["self", "one", "other"]) fun _ _ _ _ _ _ us hl => match us, hl with | [_, _, _], _ => rfl⟩
  have F_Ledger__gave_out := fun_mk (st := s_Ledger__gave_out) l_Ledger__gave_out c_Ledger__gave_out k_Ledger__gave_out
  have D_Ledger__gave_out : Mth K c_Ledger "_gave_out" "Ledger._gave_out" s_Ledger__gave_out ["self", "thing"] := ⟨_, _, F_Ledger__gave_out, ⟨a_Ledger__gave_out, i_Ledger__gave_out, k_Ledger__gave_out⟩, F_Ledger__gave_out.binds (ps := ["self", "thing"]) fun _ _ _ _ _ _ us hl => match us, hl with | [_, _], _ => rfl⟩
  have F_Ledger__sum_of := fun_mk (st := s_Ledger__sum_of) l_Ledger__sum_of c_Ledger__sum_of k_Ledger__sum_of
  have D_Ledger__sum_of : Mth K c_Ledger "_sum_of" "Ledger._sum_of" s_Ledger__sum_of ["self", "thing"] := ⟨_, _, F_Ledger__sum_of, ⟨a_Ledger__sum_of, i_Ledger__sum_of, k_Ledger__sum_of⟩, F_Ledger__sum_of.binds (ps := ["self", "thing"]) fun _ _ _ _ _ _ us hl => match us, hl with | [_, _], _ => rfl⟩
  have T_Ledger : TLed K mg c_Ledger := ⟨⟨pg_Ledger, hd_Ledger, po_Ledger, sa_Ledger⟩, n_Ledger__sums, n_Ledger__told, PySem.W.mg_of X G aC_Ledger⟩
  have F_Book___init__ := fun_mk (st := s_Book___init__) l_Book___init__ c_Book___init__ k_Book___init__
  have D_Book___init__ : Mth K c_Book "__init__" "Book.__init__" s_Book___init__ ["self", "ledger", "rows"] := ⟨_, _, F_Book___init__, ⟨a_Book___init__, i_Book___init__, k_Book___init__⟩, F_Book___init__.binds (ps := ["self", "ledger", "rows"]) fun _ _ _ _ _ _ us hl => match us, hl with | [_, _, _], _ => rfl⟩
  have F_Book_put := fun_mk (st := s_Book_put) l_Book_put c_Book_put k_Book_put
  have D_Book_put : Mth K c_Book "put" "Book.put" s_Book_put ["self", "place", "row"] := ⟨_, _, F_Book_put, ⟨a_Book_put, i_Book_put, k_Book_put⟩, F_Book_put.binds (ps := ["self", "place", "row"]) fun _ _ _ _ _ _ us hl => match us, hl with | [_, _, _], _ => rfl⟩
  have F_Book_add := fun_mk (st := s_Book_add) l_Book_add c_Book_add k_Book_add
  have D_Book_add : Mth K c_Book "add" "Book.add" s_Book_add ["self", "row"] := ⟨_, _, F_Book_add, ⟨a_Book_add, i_Book_add, k_Book_add⟩, F_Book_add.binds (ps := ["self", "row"]) fun _ _ _ _ _ _ us hl => match us, hl with | [_, _], _ => rfl⟩
  have F_Book_cut := fun_mk (st := s_Book_cut) l_Book_cut c_Book_cut k_Book_cut
  have D_Book_cut : Mth K c_Book "cut" "Book.cut" s_Book_cut ["self"] := ⟨_, _, F_Book_cut, ⟨a_Book_cut, i_Book_cut, k_Book_cut⟩, F_Book_cut.binds (ps := ["self"]) fun _ _ _ _ _ _ us hl => match us, hl with | [_], _ => rfl⟩
  have F_Book_count := fun_mk (st := s_Book_count) l_Book_count c_Book_count k_Book_count
  have D_Book_count : Mth K c_Book "count" "Book.count" s_Book_count ["self"] := ⟨_, _, F_Book_count, ⟨a_Book_count, i_Book_count, k_Book_count⟩, F_Book_count.binds (ps := ["self"]) fun _ _ _ _ _ _ us hl => match us, hl with | [_], _ => rfl⟩
  have F_Book_sum_of := fun_mk (st := s_Book_sum_of) l_Book_sum_of c_Book_sum_of k_Book_sum_of
  have D_Book_sum_of : Mth K c_Book "sum_of" "Book.sum_of" s_Book_sum_of ["self", "height", "number"] := ⟨_, _, F_Book_sum_of, ⟨a_Book_sum_of, i_Book_sum_of, k_Book_sum_of⟩, F_Book_sum_of.binds (ps := ["self", "height", "number"]) fun _ _ _ _ _ _ us hl => match us, hl with | [_, _, _], _ => rfl⟩
  have F_Book__sum_up := fun_mk (st := s_Book__sum_up) l_Book__sum_up c_Book__sum_up k_Book__sum_up
  have D_Book__sum_up : Mth K c_Book "_sum_up" "Book._sum_up" s_Book__sum_up ["self", "place"] := ⟨_, _, F_Book__sum_up, ⟨a_Book__sum_up, i_Book__sum_up, k_Book__sum_up⟩, F_Book__sum_up.binds (ps := ["self", "place"]) fun _ _ _ _ _ _ us hl => match us, hl with | [_, _], _ => rfl⟩
  have F_Book__asked := fun_mk (st := s_Book__asked) l_Book__asked c_Book__asked k_Book__asked
  have D_Book__asked : Mth K c_Book "_asked" "Book._asked" s_Book__asked ["self", "height", "number"] := ⟨_, _, F_Book__asked, ⟨a_Book__asked, i_Book__asked, k_Book__asked⟩, F_Book__asked.binds (ps := ["self", "height", "number"]) fun _ _ _ _ _ _ us hl => match us, hl with | [_, _, _], _ => rfl⟩
  have T_Book : TBo K mg c_Book := ⟨⟨pg_Book, hd_Book, po_Book, sa_Book⟩, n_Book_ledger, n_Book__rows, n_Book__sums, PySem.W.mg_of X G aC_Book⟩
  have F_Looking___init__ := fun_mk (st := s_Looking___init__) l_Looking___init__ c_Looking___init__ k_Looking___init__
  have D_Looking___init__ : Mth K c_Looking "__init__" "Looking.__init__" s_Looking___init__ ["self", "one", "other"] := ⟨_, _, F_Looking___init__, ⟨a_Looking___init__, i_Looking___init__, k_Looking___init__⟩, F_Looking___init__.binds (ps := ["self", "one", "other"]) fun _ _ _ _ _ _ us hl => match us, hl with | [_, _, _], _ => rfl⟩
  have F_Looking_alike := fun_mk (st := s_Looking_alike) l_Looking_alike c_Looking_alike k_Looking_alike
  have D_Looking_alike : Mth K c_Looking "alike" "Looking.alike" s_Looking_alike ["self", "height", "number"] := ⟨_, _, F_Looking_alike, ⟨a_Looking_alike, i_Looking_alike, k_Looking_alike⟩, F_Looking_alike.binds (ps := ["self", "height", "number"]) fun _ _ _ _ _ _ us hl => match us, hl with | [_, _, _], _ => rfl⟩
  have F_Looking_first_in := fun_mk (st := s_Looking_first_in) l_Looking_first_in c_Looking_first_in k_Looking_first_in
  have D_Looking_first_in : Mth K c_Looking "first_in" "Looking.first_in" s_Looking_first_in ["self", "height", "number"] := ⟨_, _, F_Looking_first_in, ⟨a_Looking_first_in, i_Looking_first_in, k_Looking_first_in⟩, F_Looking_first_in.binds (ps := ["self", "height", "number"]) fun _ _ _ _ _ _ us hl => match us, hl with | [_, _, _], _ => rfl⟩
  have F_Looking_all_in := fun_mk (st := s_Looking_all_in) l_Looking_all_in c_Looking_all_in k_Looking_all_in
  have D_Looking_all_in : Mth K c_Looking "all_in" "Looking.all_in" s_Looking_all_in ["self", "height", "number"] := ⟨_, _, F_Looking_all_in, ⟨a_Looking_all_in, i_Looking_all_in, k_Looking_all_in⟩, F_Looking_all_in.binds (ps := ["self", "height", "number"]) fun _ _ _ _ _ _ us hl => match us, hl with | [_, _, _], _ => rfl⟩
  have T_Looking : TLk K mg c_Looking := ⟨⟨pg_Looking, hd_Looking, po_Looking, sa_Looking⟩, n_Looking__one, n_Looking__other, n_Looking_looks, PySem.W.mg_of X G aC_Looking⟩
  have X_NoRow : ExT K mg "NoRow" c_NoRow := ⟨PySem.W.mg_of X G aE_NoRow, qE_NoRow, kE_NoRow, bE_NoRow, tE_NoRow⟩
  have X_NoSum : ExT K mg "NoSum" c_NoSum := ⟨PySem.W.mg_of X G aE_NoSum, qE_NoSum, kE_NoSum, bE_NoSum, tE_NoSum⟩
  have X_NoPlace : ExT K mg "NoPlace" c_NoPlace := ⟨PySem.W.mg_of X G aE_NoPlace, qE_NoPlace, kE_NoPlace, bE_NoPlace, tE_NoPlace⟩
  have X_NoBlock : ExT K mg "NoBlock" c_NoBlock := ⟨PySem.W.mg_of X G aE_NoBlock, qE_NoBlock, kE_NoBlock, bE_NoBlock, tE_NoBlock⟩
  have X_Full : ExT K mg "Full" c_Full := ⟨PySem.W.mg_of X G aE_Full, qE_Full, kE_Full, bE_Full, tE_Full⟩
  have X_Strange : ExT K mg "Strange" c_Strange := ⟨PySem.W.mg_of X G aE_Strange, qE_Strange, kE_Strange, bE_Strange, tE_Strange⟩
  have V : Gb mg := ⟨⟨_, PySem.W.mg_of X G v_SIGNS⟩, ⟨_, PySem.W.mg_of X G v_LONGEST_ROW⟩, ⟨_, PySem.W.mg_of X G v_MOST_ROWS⟩⟩
  have B : Bi mg := ⟨PySem.W.mg_none_of X G z_len, PySem.W.mg_none_of X G z_range, PySem.W.mg_none_of X G z_reversed, PySem.W.mg_none_of X G z_isinstance, PySem.W.mg_none_of X G z_int, PySem.W.mg_none_of X G z_bool, PySem.W.mg_none_of X G z_list, PySem.W.mg_none_of X G z_tuple, PySem.W.mg_none_of X G z_str, PySem.W.mg_none_of X G z_set, PySem.W.mg_none_of X G z_all, PySem.W.mg_none_of X G z_min, PySem.W.mg_none_of X G z_max, PySem.W.mg_none_of X G z_sorted, PySem.W.mg_none_of X G z_ValueError, PySem.W.mg_none_of X G z_enumerate⟩
  refine ⟨PySem.W.fnOf "law" "law" (defArgs s_law) (defBody s_law) (defScope s_law) .none kV_law dc_law pm_law an_law cd_law ct_law, fun s v => .of_eq rfl, fun base _ _ => ?_⟩
  have C_is_whole := ok_is_whole (P := l.prog) (w := w) (base := base) D_is_whole B
  have C_is_row := ok_is_row (P := l.prog) (w := w) (base := base) D_is_row B V
  have C_check_row := ok_check_row D_check_row X_NoRow C_is_row
  have C_check_place := ok_check_place D_check_place X_NoPlace C_is_whole
  have C_digits := ok_digits (P := l.prog) (w := w) (base := base) D_digits
  have C_blocks := ok_blocks_at D_blocks_at B C_digits
  have M_linit := ok_init (P := l.prog) (w := w) (base := base) D_Ledger___init__ T_Ledger
  have M_sum := ok_sum (P := l.prog) (w := w) (base := base) D_Ledger__sum_of T_Ledger B
  have M_gave := ok_gave D_Ledger__gave_out T_Ledger B C_is_whole
  have M_ofrow := ok_of_row D_Ledger_of_row T_Ledger C_check_row M_sum
  have M_pair := ok_of_pair D_Ledger_of_pair T_Ledger B X_NoSum M_gave M_sum
  have N_Ledger := M_linit.toN mk_Ledger kc_Ledger
  have M_cnt := ok_cnt (P := l.prog) (w := w) (base := base) D_Book_count T_Book B
  have M_sumG := ok_sumG D_Book_sum_of T_Book X_NoBlock C_is_whole
  have M_asked := ok_askedB D_Book__asked T_Book T_Ledger M_sumG M_ofrow M_pair
  have M_up := ok_sumUp D_Book__sum_up T_Book B M_cnt M_asked C_blocks
  have M_put := (ok_put D_Book_put T_Book M_cnt M_up C_check_place C_check_row).mono (by decide : 6 ≤ 9)
  have M_add := ok_add D_Book_add T_Book V.MOST_ROWS X_Full M_cnt M_up C_check_row
  have M_cut := (ok_cut (w := w) (C := c_Ledger) D_Book_cut T_Book B X_NoPlace M_cnt C_blocks).mono (by decide : 3 ≤ 9)
  have M_binit := ok_bookInit D_Book___init__ T_Book B V.MOST_ROWS X_Full C_check_row M_add
  have N_Book := (M_binit.mono (by decide : 7 ≤ 9)).toN mk_Book kc_Book
  have M_add := M_add.mono (by decide : 6 ≤ 9)
  have M_sumof := sumOf_of M_sumG
  have M_count := count_of M_cnt
  have C_mix := ok_mix (P := l.prog) (w := w) (base := base) D_law_mix
  have C_cell := ok_cell (P := l.prog) (w := w) (base := base) D_law_cell_at B
  have C_text := ok_text D_law_text B C_mix
  have C_near := ok_near (P := l.prog) (w := w) (base := base) D_law_near B
  have C_rows := ok_rows D_law_rows B C_mix C_text

  have C_room := ok_room (P := l.prog) (w := w) (base := base) D_law_room B
  have C_twin := ok_twin D_law_twin B C_mix C_text C_near
  have C_change := ok_change D_law_change T_Book.bk B C_mix C_text C_near M_put M_add M_cut
  have C_books := ok_books D_law_books T_Book.bk T_Ledger B N_Ledger N_Book C_cell C_rows C_twin C_room C_change

  have hPl : PlainC K c_Ledger := ⟨pl_m, pl_e, pl_n⟩
  have C_parted := ok_parted D_parted B C_digits
  have M_lkinit := ok_lkInit (P := l.prog) (w := w) (base := base) (CB := c_Book) D_Looking___init__ T_Looking T_Book hPl X_Strange
  have N_Looking := M_lkinit.toN mk_Looking kc_Looking
  have M_lkalike := ok_lkAlike (C := c_Ledger) D_Looking_alike T_Looking T_Book M_sumof

  have M_lkfirst := ok_lkFirst D_Looking_first_in T_Looking B M_lkalike
  have C_FU := (ok_firstUnlike D_first_unlike T_Looking B N_Looking M_count T_Book M_lkalike M_lkfirst C_parted).monoX (by decide : 6 ≤ 30)

  have M_lkall := ok_lkAll D_Looking_all_in T_Looking M_lkalike
  have C_AU := (ok_allUnlike D_all_unlike T_Looking B N_Looking M_count T_Book M_lkalike M_lkall C_parted).monoX (by decide : 18 ≤ 30)

  have C_ldig := ok_law_digits (P := l.prog) (w := w) (base := base) D_law_digits
  have C_size := ok_size (P := l.prog) (w := w) (base := base) D_law_size B
  have C_true := ok_true D_law_true B C_size
  exact ok_law F_law B C_books C_ldig C_size C_true C_AU C_FU


end My
open PySem PySem.W PyProof.Rows
set_option maxRecDepth 100000 in
set_option maxHeartbeats 0 in
theorem PySem.Challenge.cw_twinsum_k08_whole_all_by_looks_holds : PySem.Challenge.rw_twinsum_k08_whole_all_by_looks.Holds := by
  w_on; o_law; k_head; (case hw => w_witness2)
  k_fill
  refine L2.walk_of (l := PySem.Challenge.rw_twinsum_k08_whole_all_by_looks) (n := 63) (k := 33) (x := "_law_script") (CX := fun _ => L2.CX0) (sp := fun w => My.spLaw _) rfl (by decide) rfl ⟨rfl, by decide, by decide⟩ (fun w h Y => PySem.W.kIn_of Y) ?F (fun _ _ a ns hl _ hS => ⟨a, ns, rfl, hS, hl, fun _ => rfl⟩) (fun _ _ _ _ _ h => h)
  case F =>
    intro w mg fa h KX G hmg
    refine' My.all_mk KX G hmg ?aC_Ledger ?aC_Book ?aC_Looking ?aE_NoRow ?aE_NoSum ?aE_NoPlace ?aE_NoBlock ?aE_Full ?aE_Strange ?pg_Ledger ?hd_Ledger ?po_Ledger ?sa_Ledger ?mk_Ledger ?kc_Ledger ?n_Ledger__sums ?n_Ledger__told ?a_Ledger___init__ ?i_Ledger___init__ ?l_Ledger___init__ ?c_Ledger___init__ ?k_Ledger___init__ ?a_Ledger_of_row ?i_Ledger_of_row ?l_Ledger_of_row ?c_Ledger_of_row ?k_Ledger_of_row ?a_Ledger_of_pair ?i_Ledger_of_pair ?l_Ledger_of_pair ?c_Ledger_of_pair ?k_Ledger_of_pair ?a_Ledger__gave_out ?i_Ledger__gave_out ?l_Ledger__gave_out ?c_Ledger__gave_out ?k_Ledger__gave_out ?a_Ledger__sum_of ?i_Ledger__sum_of ?l_Ledger__sum_of ?c_Ledger__sum_of ?k_Ledger__sum_of ?pg_Book ?hd_Book ?po_Book ?sa_Book ?mk_Book ?kc_Book ?n_Book_ledger ?n_Book__rows ?n_Book__sums ?a_Book___init__ ?i_Book___init__ ?l_Book___init__ ?c_Book___init__ ?k_Book___init__ ?a_Book_put ?i_Book_put ?l_Book_put ?c_Book_put ?k_Book_put ?a_Book_add ?i_Book_add ?l_Book_add ?c_Book_add ?k_Book_add ?a_Book_cut ?i_Book_cut ?l_Book_cut ?c_Book_cut ?k_Book_cut ?a_Book_count ?i_Book_count ?l_Book_count ?c_Book_count ?k_Book_count ?a_Book_sum_of ?i_Book_sum_of ?l_Book_sum_of ?c_Book_sum_of ?k_Book_sum_of ?a_Book__sum_up ?i_Book__sum_up ?l_Book__sum_up ?c_Book__sum_up ?k_Book__sum_up ?a_Book__asked ?i_Book__asked ?l_Book__asked ?c_Book__asked ?k_Book__asked ?pg_Looking ?hd_Looking ?po_Looking ?sa_Looking ?mk_Looking ?kc_Looking ?n_Looking__one ?n_Looking__other ?n_Looking_looks ?a_Looking___init__ ?i_Looking___init__ ?l_Looking___init__ ?c_Looking___init__ ?k_Looking___init__ ?a_Looking_alike ?i_Looking_alike ?l_Looking_alike ?c_Looking_alike ?k_Looking_alike ?a_Looking_first_in ?i_Looking_first_in ?l_Looking_first_in ?c_Looking_first_in ?k_Looking_first_in ?a_Looking_all_in ?i_Looking_all_in ?l_Looking_all_in ?c_Looking_all_in ?k_Looking_all_in ?qE_NoRow ?kE_NoRow ?bE_NoRow ?tE_NoRow ?dE_NoRow ?qE_NoSum ?kE_NoSum ?bE_NoSum ?tE_NoSum ?dE_NoSum ?qE_NoPlace ?kE_NoPlace ?bE_NoPlace ?tE_NoPlace ?dE_NoPlace ?qE_NoBlock ?kE_NoBlock ?bE_NoBlock ?tE_NoBlock ?dE_NoBlock ?qE_Full ?kE_Full ?bE_Full ?tE_Full ?dE_Full ?qE_Strange ?kE_Strange ?bE_Strange ?tE_Strange ?dE_Strange ?v_SIGNS ?v_LONGEST_ROW ?v_MOST_ROWS ?pl_m ?pl_e ?pl_n ?a_digits ?l_digits ?c_digits ?k_digits ?a_parted ?l_parted ?c_parted ?k_parted ?a_blocks_at ?l_blocks_at ?c_blocks_at ?k_blocks_at ?a_first_unlike ?l_first_unlike ?c_first_unlike ?k_first_unlike ?a_all_unlike ?l_all_unlike ?c_all_unlike ?k_all_unlike ?a_is_whole ?l_is_whole ?c_is_whole ?k_is_whole ?a_is_row ?l_is_row ?c_is_row ?k_is_row ?a_check_row ?l_check_row ?c_check_row ?k_check_row ?a_check_place ?l_check_place ?c_check_place ?k_check_place ?a_law_cell_at ?l_law_cell_at ?c_law_cell_at ?k_law_cell_at ?a_law_mix ?l_law_mix ?c_law_mix ?k_law_mix ?a_law_text ?l_law_text ?c_law_text ?k_law_text ?a_law_near ?l_law_near ?c_law_near ?k_law_near ?a_law_rows ?l_law_rows ?c_law_rows ?k_law_rows ?a_law_twin ?l_law_twin ?c_law_twin ?k_law_twin ?a_law_books ?l_law_books ?c_law_books ?k_law_books ?a_law_change ?l_law_change ?c_law_change ?k_law_change ?a_law_digits ?l_law_digits ?c_law_digits ?k_law_digits ?a_law_size ?l_law_size ?c_law_size ?k_law_size ?a_law_room ?l_law_room ?c_law_room ?k_law_room ?a_law_true ?l_law_true ?c_law_true ?k_law_true ?a_law ?l_law ?c_law ?k_law ?z_len ?z_range ?z_reversed ?z_isinstance ?z_int ?z_bool ?z_list ?z_tuple ?z_str ?z_set ?z_all ?z_min ?z_max ?z_sorted ?z_ValueError ?z_enumerate
    (case aC_Ledger => first | k_is | fail "fact aC_Ledger")
    (case aC_Book => first | k_is | fail "fact aC_Book")
    (case aC_Looking => first | k_is | fail "fact aC_Looking")
    (case aE_NoRow => first | k_is | fail "fact aE_NoRow")
    (case aE_NoSum => first | k_is | fail "fact aE_NoSum")
    (case aE_NoPlace => first | k_is | fail "fact aE_NoPlace")
    (case aE_NoBlock => first | k_is | fail "fact aE_NoBlock")
    (case aE_Full => first | k_is | fail "fact aE_Full")
    (case aE_Strange => first | k_is | fail "fact aE_Strange")
    (case pg_Ledger => first | k_is | fail "fact pg_Ledger")
    (case hd_Ledger => first | k_is | fail "fact hd_Ledger")
    (case po_Ledger => first | k_is | fail "fact po_Ledger")
    (case sa_Ledger => first | k_is | fail "fact sa_Ledger")
    (case mk_Ledger => first | k_is | fail "fact mk_Ledger")
    (case kc_Ledger => first | k_is | fail "fact kc_Ledger")
    (case n_Ledger__sums => first | k_is | fail "fact n_Ledger__sums")
    (case n_Ledger__told => first | k_is | fail "fact n_Ledger__told")
    (case a_Ledger___init__ => first | k_is | fail "fact a_Ledger___init__")
    (case i_Ledger___init__ => first | k_is | fail "fact i_Ledger___init__")
    (case l_Ledger___init__ => first | k_is | fail "fact l_Ledger___init__")
    (case c_Ledger___init__ => first | k_is | fail "fact c_Ledger___init__")
    (case k_Ledger___init__ => first | k_is | fail "fact k_Ledger___init__")
    (case a_Ledger_of_row => first | k_is | fail "fact a_Ledger_of_row")
    (case i_Ledger_of_row => first | k_is | fail "fact i_Ledger_of_row")
    (case l_Ledger_of_row => first | k_is | fail "fact l_Ledger_of_row")
    (case c_Ledger_of_row => first | k_is | fail "fact c_Ledger_of_row")
    (case k_Ledger_of_row => first | k_is | fail "fact k_Ledger_of_row")
    (case a_Ledger_of_pair => first | k_is | fail "fact a_Ledger_of_pair")
    (case i_Ledger_of_pair => first | k_is | fail "fact i_Ledger_of_pair")
    (case l_Ledger_of_pair => first | k_is | fail "fact l_Ledger_of_pair")
    (case c_Ledger_of_pair => first | k_is | fail "fact c_Ledger_of_pair")
    (case k_Ledger_of_pair => first | k_is | fail "fact k_Ledger_of_pair")
    (case a_Ledger__gave_out => first | k_is | fail "fact a_Ledger__gave_out")
    (case i_Ledger__gave_out => first | k_is | fail "fact i_Ledger__gave_out")
    (case l_Ledger__gave_out => first | k_is | fail "fact l_Ledger__gave_out")
    (case c_Ledger__gave_out => first | k_is | fail "fact c_Ledger__gave_out")
    (case k_Ledger__gave_out => first | k_is | fail "fact k_Ledger__gave_out")
    (case a_Ledger__sum_of => first | k_is | fail "fact a_Ledger__sum_of")
    (case i_Ledger__sum_of => first | k_is | fail "fact i_Ledger__sum_of")
    (case l_Ledger__sum_of => first | k_is | fail "fact l_Ledger__sum_of")
    (case c_Ledger__sum_of => first | k_is | fail "fact c_Ledger__sum_of")
    (case k_Ledger__sum_of => first | k_is | fail "fact k_Ledger__sum_of")
    (case pg_Book => first | k_is | fail "fact pg_Book")
    (case hd_Book => first | k_is | fail "fact hd_Book")
    (case po_Book => first | k_is | fail "fact po_Book")
    (case sa_Book => first | k_is | fail "fact sa_Book")
    (case mk_Book => first | k_is | fail "fact mk_Book")
    (case kc_Book => first | k_is | fail "fact kc_Book")
    (case n_Book_ledger => first | k_is | fail "fact n_Book_ledger")
    (case n_Book__rows => first | k_is | fail "fact n_Book__rows")
    (case n_Book__sums => first | k_is | fail "fact n_Book__sums")
    (case a_Book___init__ => first | k_is | fail "fact a_Book___init__")
    (case i_Book___init__ => first | k_is | fail "fact i_Book___init__")
    (case l_Book___init__ => first | k_is | fail "fact l_Book___init__")
    (case c_Book___init__ => first | k_is | fail "fact c_Book___init__")
    (case k_Book___init__ => first | k_is | fail "fact k_Book___init__")
    (case a_Book_put => first | k_is | fail "fact a_Book_put")
    (case i_Book_put => first | k_is | fail "fact i_Book_put")
    (case l_Book_put => first | k_is | fail "fact l_Book_put")
    (case c_Book_put => first | k_is | fail "fact c_Book_put")
    (case k_Book_put => first | k_is | fail "fact k_Book_put")
    (case a_Book_add => first | k_is | fail "fact a_Book_add")
    (case i_Book_add => first | k_is | fail "fact i_Book_add")
    (case l_Book_add => first | k_is | fail "fact l_Book_add")
    (case c_Book_add => first | k_is | fail "fact c_Book_add")
    (case k_Book_add => first | k_is | fail "fact k_Book_add")
    (case a_Book_cut => first | k_is | fail "fact a_Book_cut")
    (case i_Book_cut => first | k_is | fail "fact i_Book_cut")
    (case l_Book_cut => first | k_is | fail "fact l_Book_cut")
    (case c_Book_cut => first | k_is | fail "fact c_Book_cut")
    (case k_Book_cut => first | k_is | fail "fact k_Book_cut")
    (case a_Book_count => first | k_is | fail "fact a_Book_count")
    (case i_Book_count => first | k_is | fail "fact i_Book_count")
    (case l_Book_count => first | k_is | fail "fact l_Book_count")
    (case c_Book_count => first | k_is | fail "fact c_Book_count")
    (case k_Book_count => first | k_is | fail "fact k_Book_count")
    (case a_Book_sum_of => first | k_is | fail "fact a_Book_sum_of")
    (case i_Book_sum_of => first | k_is | fail "fact i_Book_sum_of")
    (case l_Book_sum_of => first | k_is | fail "fact l_Book_sum_of")
    (case c_Book_sum_of => first | k_is | fail "fact c_Book_sum_of")
    (case k_Book_sum_of => first | k_is | fail "fact k_Book_sum_of")
    (case a_Book__sum_up => first | k_is | fail "fact a_Book__sum_up")
    (case i_Book__sum_up => first | k_is | fail "fact i_Book__sum_up")
    (case l_Book__sum_up => first | k_is | fail "fact l_Book__sum_up")
    (case c_Book__sum_up => first | k_is | fail "fact c_Book__sum_up")
    (case k_Book__sum_up => first | k_is | fail "fact k_Book__sum_up")
    (case a_Book__asked => first | k_is | fail "fact a_Book__asked")
    (case i_Book__asked => first | k_is | fail "fact i_Book__asked")
    (case l_Book__asked => first | k_is | fail "fact l_Book__asked")
    (case c_Book__asked => first | k_is | fail "fact c_Book__asked")
    (case k_Book__asked => first | k_is | fail "fact k_Book__asked")
    (case pg_Looking => first | k_is | fail "fact pg_Looking")
    (case hd_Looking => first | k_is | fail "fact hd_Looking")
    (case po_Looking => first | k_is | fail "fact po_Looking")
    (case sa_Looking => first | k_is | fail "fact sa_Looking")
    (case mk_Looking => first | k_is | fail "fact mk_Looking")
    (case kc_Looking => first | k_is | fail "fact kc_Looking")
    (case n_Looking__one => first | k_is | fail "fact n_Looking__one")
    (case n_Looking__other => first | k_is | fail "fact n_Looking__other")
    (case n_Looking_looks => first | k_is | fail "fact n_Looking_looks")
    (case a_Looking___init__ => first | k_is | fail "fact a_Looking___init__")
    (case i_Looking___init__ => first | k_is | fail "fact i_Looking___init__")
    (case l_Looking___init__ => first | k_is | fail "fact l_Looking___init__")
    (case c_Looking___init__ => first | k_is | fail "fact c_Looking___init__")
    (case k_Looking___init__ => first | k_is | fail "fact k_Looking___init__")
    (case a_Looking_alike => first | k_is | fail "fact a_Looking_alike")
    (case i_Looking_alike => first | k_is | fail "fact i_Looking_alike")
    (case l_Looking_alike => first | k_is | fail "fact l_Looking_alike")
    (case c_Looking_alike => first | k_is | fail "fact c_Looking_alike")
    (case k_Looking_alike => first | k_is | fail "fact k_Looking_alike")
    (case a_Looking_first_in => first | k_is | fail "fact a_Looking_first_in")
    (case i_Looking_first_in => first | k_is | fail "fact i_Looking_first_in")
    (case l_Looking_first_in => first | k_is | fail "fact l_Looking_first_in")
    (case c_Looking_first_in => first | k_is | fail "fact c_Looking_first_in")
    (case k_Looking_first_in => first | k_is | fail "fact k_Looking_first_in")
    (case a_Looking_all_in => first | k_is | fail "fact a_Looking_all_in")
    (case i_Looking_all_in => first | k_is | fail "fact i_Looking_all_in")
    (case l_Looking_all_in => first | k_is | fail "fact l_Looking_all_in")
    (case c_Looking_all_in => first | k_is | fail "fact c_Looking_all_in")
    (case k_Looking_all_in => first | k_is | fail "fact k_Looking_all_in")
    (case qE_NoRow => first | k_exc | fail "fact qE_NoRow")
    (case kE_NoRow => first | k_is | fail "fact kE_NoRow")
    (case bE_NoRow => first | k_is | fail "fact bE_NoRow")
    (case tE_NoRow => first | k_is | fail "fact tE_NoRow")
    (case dE_NoRow => first | k_is | fail "fact dE_NoRow")
    (case qE_NoSum => first | k_exc | fail "fact qE_NoSum")
    (case kE_NoSum => first | k_is | fail "fact kE_NoSum")
    (case bE_NoSum => first | k_is | fail "fact bE_NoSum")
    (case tE_NoSum => first | k_is | fail "fact tE_NoSum")
    (case dE_NoSum => first | k_is | fail "fact dE_NoSum")
    (case qE_NoPlace => first | k_exc | fail "fact qE_NoPlace")
    (case kE_NoPlace => first | k_is | fail "fact kE_NoPlace")
    (case bE_NoPlace => first | k_is | fail "fact bE_NoPlace")
    (case tE_NoPlace => first | k_is | fail "fact tE_NoPlace")
    (case dE_NoPlace => first | k_is | fail "fact dE_NoPlace")
    (case qE_NoBlock => first | k_exc | fail "fact qE_NoBlock")
    (case kE_NoBlock => first | k_is | fail "fact kE_NoBlock")
    (case bE_NoBlock => first | k_is | fail "fact bE_NoBlock")
    (case tE_NoBlock => first | k_is | fail "fact tE_NoBlock")
    (case dE_NoBlock => first | k_is | fail "fact dE_NoBlock")
    (case qE_Full => first | k_exc | fail "fact qE_Full")
    (case kE_Full => first | k_is | fail "fact kE_Full")
    (case bE_Full => first | k_is | fail "fact bE_Full")
    (case tE_Full => first | k_is | fail "fact tE_Full")
    (case dE_Full => first | k_is | fail "fact dE_Full")
    (case qE_Strange => first | k_exc | fail "fact qE_Strange")
    (case kE_Strange => first | k_is | fail "fact kE_Strange")
    (case bE_Strange => first | k_is | fail "fact bE_Strange")
    (case tE_Strange => first | k_is | fail "fact tE_Strange")
    (case dE_Strange => first | k_is | fail "fact dE_Strange")
    (case v_SIGNS => first | k_is | fail "fact v_SIGNS")
    (case v_LONGEST_ROW => first | k_is | fail "fact v_LONGEST_ROW")
    (case v_MOST_ROWS => first | k_is | fail "fact v_MOST_ROWS")
    (case pl_m => first | (first | k_is | rfl) | fail "fact pl_m")
    (case pl_e => first | (first | k_is | rfl) | fail "fact pl_e")
    (case pl_n => first | (first | k_is | rfl) | fail "fact pl_n")
    (case a_digits => first | k_is | fail "fact a_digits")
    (case l_digits => first | k_is | fail "fact l_digits")
    (case c_digits => first | k_is | fail "fact c_digits")
    (case k_digits => first | k_is | fail "fact k_digits")
    (case a_parted => first | k_is | fail "fact a_parted")
    (case l_parted => first | k_is | fail "fact l_parted")
    (case c_parted => first | k_is | fail "fact c_parted")
    (case k_parted => first | k_is | fail "fact k_parted")
    (case a_blocks_at => first | k_is | fail "fact a_blocks_at")
    (case l_blocks_at => first | k_is | fail "fact l_blocks_at")
    (case c_blocks_at => first | k_is | fail "fact c_blocks_at")
    (case k_blocks_at => first | k_is | fail "fact k_blocks_at")
    (case a_first_unlike => first | k_is | fail "fact a_first_unlike")
    (case l_first_unlike => first | k_is | fail "fact l_first_unlike")
    (case c_first_unlike => first | k_is | fail "fact c_first_unlike")
    (case k_first_unlike => first | k_is | fail "fact k_first_unlike")
    (case a_all_unlike => first | k_is | fail "fact a_all_unlike")
    (case l_all_unlike => first | k_is | fail "fact l_all_unlike")
    (case c_all_unlike => first | k_is | fail "fact c_all_unlike")
    (case k_all_unlike => first | k_is | fail "fact k_all_unlike")
    (case a_is_whole => first | k_is | fail "fact a_is_whole")
    (case l_is_whole => first | k_is | fail "fact l_is_whole")
    (case c_is_whole => first | k_is | fail "fact c_is_whole")
    (case k_is_whole => first | k_is | fail "fact k_is_whole")
    (case a_is_row => first | k_is | fail "fact a_is_row")
    (case l_is_row => first | k_is | fail "fact l_is_row")
    (case c_is_row => first | k_is | fail "fact c_is_row")
    (case k_is_row => first | k_is | fail "fact k_is_row")
    (case a_check_row => first | k_is | fail "fact a_check_row")
    (case l_check_row => first | k_is | fail "fact l_check_row")
    (case c_check_row => first | k_is | fail "fact c_check_row")
    (case k_check_row => first | k_is | fail "fact k_check_row")
    (case a_check_place => first | k_is | fail "fact a_check_place")
    (case l_check_place => first | k_is | fail "fact l_check_place")
    (case c_check_place => first | k_is | fail "fact c_check_place")
    (case k_check_place => first | k_is | fail "fact k_check_place")
    (case a_law_cell_at => first | k_is | fail "fact a_law_cell_at")
    (case l_law_cell_at => first | k_is | fail "fact l_law_cell_at")
    (case c_law_cell_at => first | k_is | fail "fact c_law_cell_at")
    (case k_law_cell_at => first | k_is | fail "fact k_law_cell_at")
    (case a_law_mix => first | k_is | fail "fact a_law_mix")
    (case l_law_mix => first | k_is | fail "fact l_law_mix")
    (case c_law_mix => first | k_is | fail "fact c_law_mix")
    (case k_law_mix => first | k_is | fail "fact k_law_mix")
    (case a_law_text => first | k_is | fail "fact a_law_text")
    (case l_law_text => first | k_is | fail "fact l_law_text")
    (case c_law_text => first | k_is | fail "fact c_law_text")
    (case k_law_text => first | k_is | fail "fact k_law_text")
    (case a_law_near => first | k_is | fail "fact a_law_near")
    (case l_law_near => first | k_is | fail "fact l_law_near")
    (case c_law_near => first | k_is | fail "fact c_law_near")
    (case k_law_near => first | k_is | fail "fact k_law_near")
    (case a_law_rows => first | k_is | fail "fact a_law_rows")
    (case l_law_rows => first | k_is | fail "fact l_law_rows")
    (case c_law_rows => first | k_is | fail "fact c_law_rows")
    (case k_law_rows => first | k_is | fail "fact k_law_rows")
    (case a_law_twin => first | k_is | fail "fact a_law_twin")
    (case l_law_twin => first | k_is | fail "fact l_law_twin")
    (case c_law_twin => first | k_is | fail "fact c_law_twin")
    (case k_law_twin => first | k_is | fail "fact k_law_twin")
    (case a_law_books => first | k_is | fail "fact a_law_books")
    (case l_law_books => first | k_is | fail "fact l_law_books")
    (case c_law_books => first | k_is | fail "fact c_law_books")
    (case k_law_books => first | k_is | fail "fact k_law_books")
    (case a_law_change => first | k_is | fail "fact a_law_change")
    (case l_law_change => first | k_is | fail "fact l_law_change")
    (case c_law_change => first | k_is | fail "fact c_law_change")
    (case k_law_change => first | k_is | fail "fact k_law_change")
    (case a_law_digits => first | k_is | fail "fact a_law_digits")
    (case l_law_digits => first | k_is | fail "fact l_law_digits")
    (case c_law_digits => first | k_is | fail "fact c_law_digits")
    (case k_law_digits => first | k_is | fail "fact k_law_digits")
    (case a_law_size => first | k_is | fail "fact a_law_size")
    (case l_law_size => first | k_is | fail "fact l_law_size")
    (case c_law_size => first | k_is | fail "fact c_law_size")
    (case k_law_size => first | k_is | fail "fact k_law_size")
    (case a_law_room => first | k_is | fail "fact a_law_room")
    (case l_law_room => first | k_is | fail "fact l_law_room")
    (case c_law_room => first | k_is | fail "fact c_law_room")
    (case k_law_room => first | k_is | fail "fact k_law_room")
    (case a_law_true => first | k_is | fail "fact a_law_true")
    (case l_law_true => first | k_is | fail "fact l_law_true")
    (case c_law_true => first | k_is | fail "fact c_law_true")
    (case k_law_true => first | k_is | fail "fact k_law_true")
    (case a_law => first | k_is | fail "fact a_law")
    (case l_law => first | k_is | fail "fact l_law")
    (case c_law => first | k_is | fail "fact c_law")
    (case k_law => first | k_is | fail "fact k_law")
    (case z_len => first | k_is | fail "fact z_len")
    (case z_range => first | k_is | fail "fact z_range")
    (case z_reversed => first | k_is | fail "fact z_reversed")
    (case z_isinstance => first | k_is | fail "fact z_isinstance")
    (case z_int => first | k_is | fail "fact z_int")
    (case z_bool => first | k_is | fail "fact z_bool")
    (case z_list => first | k_is | fail "fact z_list")
    (case z_tuple => first | k_is | fail "fact z_tuple")
    (case z_str => first | k_is | fail "fact z_str")
    (case z_set => first | k_is | fail "fact z_set")
    (case z_all => first | k_is | fail "fact z_all")
    (case z_min => first | k_is | fail "fact z_min")
    (case z_max => first | k_is | fail "fact z_max")
    (case z_sorted => first | k_is | fail "fact z_sorted")
    (case z_ValueError => first | k_is | fail "fact z_ValueError")
    (case z_enumerate => first | k_is | fail "fact z_enumerate")

