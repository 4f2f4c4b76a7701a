--@ head
import PyProof.Rows.All
import Wide.All
import OpenK.AllK
import Wide.FinOn
import PySem.Challenge.RW_twinsum_k01_digits_and_parts
import HandS.ForMost
import HandS.WideBits
import HandS.RevRange
import HandS.IsInst
import HandS.Evl
set_option Elab.async false
set_option linter.all false
set_option maxRecDepth 100000

--@ hints_law

--@ math1
namespace My
open PySem PySem.Spec PyProof.Rows L2
/-! ### digits, sizes, parts -/
def dig (n : Nat) : Nat := if n = 0 then 0 else n.log2 + 1
theorem dig_zero : dig 0 = 0 := rfl
theorem dig_half {n : Nat} (h : 0 < n) : dig n = dig (n / 2) + 1 := by
  unfold dig
  rw [if_neg (by omega)]
  by_cases h2 : n / 2 = 0
  · rw [if_pos h2]
    have : n = 1 := by omega
    subst this
    rfl
  · rw [if_neg h2, Nat.log2_def, if_pos (by omega)]
theorem dig_lt (n : Nat) : n < 2 ^ dig n := by
  unfold dig
  by_cases h : n = 0
  · rw [if_pos h, h]
    decide
  · rw [if_neg h]
    exact Nat.lt_log2_self
theorem dig_le {n m : Nat} (h : n < 2 ^ m) : dig n ≤ m := by
  unfold dig
  by_cases h0 : n = 0
  · rw [if_pos h0]
    exact Nat.zero_le _
  · rw [if_neg h0]
    exact (Nat.log2_lt h0).mpr h
theorem dig_bits (n : Nat) : Builtin.Int.intBits (n : Int) = dig n := by
  unfold Builtin.Int.intBits dig
  by_cases h : n = 0
  · subst h
    rfl
  · rw [if_neg h, if_neg]
    · rfl
    · intro e
      have := eq_of_beq e
      omega
def partsG (n : Nat) : Nat → Nat → List (Nat × Nat)
  | 0, _ => []
  | h + 1, s => if s + 2 ^ h ≤ n then (h, s / 2 ^ h) :: partsG n h (s + 2 ^ h) else partsG n h s
def parts (n : Nat) : List (Nat × Nat) := partsG n (dig n) 0
theorem parts_more (n : Nat) : partsG n (dig n + 1) 0 = parts n := by
  show (if 0 + 2 ^ dig n ≤ n then _ else _) = _
  rw [if_neg (by have := dig_lt n; omega)]
  rfl
/-- the parts stand one behind the other, of lesser and lesser height -/
def partsOk (n : Nat) : Nat → Nat → List (Nat × Nat) → Prop
  | _, s, [] => s = n
  | h, s, (g, j) :: r => g < h ∧ j * 2 ^ g = s ∧ partsOk n g (s + 2 ^ g) r
theorem partsOk_mono {n : Nat} : ∀ {h h' s : Nat} {l : List (Nat × Nat)}, h ≤ h' → partsOk n h s l → partsOk n h' s l
  | _, _, _, [], _, p => p
  | _, _, _, (_, _) :: _, hh, p => ⟨Nat.lt_of_lt_of_le p.1 hh, p.2⟩
theorem partsG_ok (n : Nat) : ∀ (h s : Nat), 2 ^ h ∣ s → s ≤ n → n < s + 2 ^ h → partsOk n h s (partsG n h s)
  | 0, s, _, h1, h2 => by
    show s = n
    have : 2 ^ 0 = 1 := rfl
    omega
  | h + 1, s, hd, h1, h2 => by
    have e : 2 ^ (h + 1) = 2 ^ h + 2 ^ h := by rw [Nat.pow_succ]; omega
    have hd' : 2 ^ h ∣ s := Nat.dvd_trans ⟨2, Nat.pow_succ 2 h⟩ hd
    unfold partsG
    by_cases hc : s + 2 ^ h ≤ n
    · rw [if_pos hc]
      refine ⟨Nat.lt_succ_self h, Nat.div_mul_cancel hd', ?_⟩
      exact partsG_ok n h (s + 2 ^ h) (Nat.dvd_add hd' (Nat.dvd_refl _)) hc (by omega)
    · rw [if_neg hc]
      exact partsOk_mono (Nat.le_succ h) (partsG_ok n h s hd' h1 (by omega))
theorem parts_ok (n : Nat) : partsOk n (dig n) 0 (parts n) := partsG_ok n (dig n) 0 (Nat.dvd_zero _) (Nat.zero_le _) (by have := dig_lt n; omega)
theorem partsG_len (n : Nat) : ∀ (h s : Nat), (partsG n h s).length ≤ h
  | 0, _ => Nat.le_refl 0
  | h + 1, s => by
    unfold partsG
    by_cases hc : s + 2 ^ h ≤ n
    · rw [if_pos hc]
      exact Nat.succ_le_succ (partsG_len n h _)
    · rw [if_neg hc]
      exact Nat.le_succ_of_le (partsG_len n h s)
theorem parts_len (n : Nat) : (parts n).length ≤ dig n := partsG_len n (dig n) 0
def pairD (q : Nat × Nat) : PyData := .tuple [.int (q.1 : Int), .int (q.2 : Int)]
theorem all_shaped {m : Nat} : ∀ (ds : List PyData), (∀ d ∈ ds, d.canLay0 = true ∧ d.depth ≤ m) → PyData.canLayAll0 ds = true ∧ PyData.depthAll ds ≤ m
  | [], _ => ⟨by simp [PyData.canLayAll0], by simp [PyData.depthAll]⟩
  | d :: ds, h => by
    have h1 := h d List.mem_cons_self
    have h2 := all_shaped ds fun x hx => h x (List.mem_cons_of_mem _ hx)
    refine ⟨by simp [PyData.canLayAll0, h1.1, h2.1], ?_⟩
    show max d.depth (PyData.depthAll ds) ≤ m
    omega
theorem shaped_list {ds : List PyData} (h : ∀ d ∈ ds, d.canLay0 = true ∧ d.depth ≤ 63) : SeqAt.shaped (.list ds) = true := by
  obtain ⟨h1, h2⟩ := all_shaped ds h
  unfold SeqAt.shaped
  rw [Bool.and_eq_true]
  refine ⟨by simp [PyData.canLay0, h1], decide_eq_true ?_⟩
  show PyData.depthAll ds + 1 ≤ 64
  omega
theorem shaped_tup {ds : List PyData} (h : ∀ d ∈ ds, d.canLay0 = true ∧ d.depth ≤ 63) : SeqAt.shaped (.tuple ds) = true := by
  obtain ⟨h1, h2⟩ := all_shaped ds h
  unfold SeqAt.shaped
  rw [Bool.and_eq_true]
  refine ⟨by simp [PyData.canLay0, h1], decide_eq_true ?_⟩
  show PyData.depthAll ds + 1 ≤ 64
  omega
theorem pairD_ok (q : Nat × Nat) : (pairD q).canLay0 = true ∧ (pairD q).depth ≤ 63 := ⟨by simp [pairD, PyData.canLay0, PyData.canLayAll0], by simp [pairD, PyData.depth, PyData.depthAll]⟩
theorem pairs_shaped (ps : List (Nat × Nat)) : SeqAt.shaped (.list (ps.map pairD)) = true := shaped_list fun d hd => by
  obtain ⟨q, _, rfl⟩ := List.mem_map.mp hd
  exact pairD_ok q
end My

--@ common
namespace My
open PySem PySem.Spec PyProof.Rows L2
/-! ### a def as it stands, and as it may be called -/
def Dfn (K : PySem.W.Frag) (mg : Str → Option Value) (x : Str) (st : Stmt) (ps : List Str) : Prop :=
  ∃ (f : Addr) (fd : FuncData), Fun K x x st f fd ∧ mg x = some (.ref f) ∧ Binds K fd ps []
structure COk (P : Program) (w : World) (K : PySem.W.Frag) (mg : Str → Option Value) (base : Heap) (CX : CXT) (x : Str) (k : Nat) (ps : List Str) (sp : Sp) : Prop where
  ex : ∃ (f : Addr) (fd : FuncData), FnOk P w K mg base CX k f fd ps sp ∧ mg x = some (.ref f) ∧ PySem.W.keepIn K (.ref f) = true ∧ Binds K fd ps []
section
variable {P : Program} {w : World} {K : PySem.W.Frag} {mg : Str → Option Value} {base : Heap}
theorem c_mk {x : Str} {st : Stmt} {N ps : List Str} {k : Nat} {sp : Sp} (D : Dfn K mg x st ps) (S : FnScope N ps (defScope st)) (len : ∀ vs H Q E, sp vs H Q E → vs.length = ps.length)
    (hbody : ∀ (f : Addr) (cdv : Value) (A : Around) (outer : List Env) (s : Shared) (H : Hp) (vs : List V) (Q : VK) (E : XK), Room k (A.deeper (envOfC x (defScope st) s.heap.objs.size f cdv)) → sp vs H Q E →
      ∃ t, PSs (cxOf CX0 P w K mg base N x (defScope st) f cdv A outer s H E).nox (defBody st) t ∧ t { nx := fun _ H' => Q .non H', rt := Q } (start N vs) H) : COk P w K mg base CX0 x (k + 1) ps sp := by
  obtain ⟨f, fd, F, m, b⟩ := D
  exact ⟨f, fd, F.ok S len fun cdv A outer s H vs Q E hr h => hbody f cdv A outer s H vs Q E hr h, m, F.kp, b⟩
theorem COk.imp {x : Str} {ps : List Str} {k : Nat} {sp sp' : Sp} (C : COk P w K mg base CX0 x k ps sp) (h : ∀ vs H Q E, sp' vs H Q E → sp vs H Q E) : COk P w K mg base CX0 x k ps sp' := by
  obtain ⟨f, fd, F, m, kp, b⟩ := C.ex
  exact ⟨f, fd, F.imp h, m, kp, b⟩
theorem COk.mono {x : Str} {ps : List Str} {j k : Nat} {sp : Sp} (C : COk P w K mg base CX0 x j ps sp) (h : j ≤ k) : COk P w K mg base CX0 x k ps sp := by
  obtain ⟨f, fd, F, m, kp, b⟩ := C.ex
  exact ⟨f, fd, F.mono h, m, kp, b⟩
end
section
variable {X : Cx}
theorem pe_c {x : Str} {k k' : Nat} {ps : List Str} {sp : Sp} {p pos : Pos} {e : Expr} {es : List Expr} {t : TA} (C : COk X.prog X.w X.K X.mg X.base CX0 x k ps sp) (hr : Room k' X.A) (hg : Gl X x) (ha : PA X (e :: es) t) (hk : k ≤ k' := by first | decide | omega)
    (hdb : (x == ("__debug__" : Str)) = false := by decide) (he : starEach (e :: es) X.env = (false, eval e X.env) :: starEach es X.env := by rfl) (hpl : (backTo pos (starEach es X.env)).any (·.1) = false := by rfl) :
    PE X (.Call (.Name x p) (e :: es) [] pos) (tCall sp [] E0 t) := by
  obtain ⟨f, fd, F, m, kp, b⟩ := C.ex
  exact pe_call F (hr.mono hk) hg m kp b .nil pass0 ha hdb he hpl
theorem pe_c0 {x : Str} {k k' : Nat} {ps : List Str} {sp : Sp} {p pos : Pos} (C : COk X.prog X.w X.K X.mg X.base CX0 x k ps sp) (hr : Room k' X.A) (hg : Gl X x) (hk : k ≤ k' := by decide)
    (hdb : (x == ("__debug__" : Str)) = false := by decide) : PE X (.Call (.Name x p) [] [] pos) (tCall sp [] E0 tNil) := by
  obtain ⟨f, fd, F, m, kp, b⟩ := C.ex
  exact pe_call0 F (hr.mono hk) hg m kp b .nil pass0 hdb
end

/-! ### the text -/
--@ text
def topS (i : Nat) : Stmt := PySem.Challenge.pw_twinsum_k01_digits_and_parts.main.body.getD i (.Pass ⟨0, 0, 0, 0⟩)
abbrev s_digits : Stmt := topS 1
theorem sc_digits : FnScope ["count"] ["count"] (defScope s_digits) := ⟨rfl, rfl, rfl, by decide +kernel, rfl, by decide +kernel, by decide +kernel⟩
abbrev s_parted : Stmt := topS 2
theorem sc_parted : FnScope ["count", "parts", "start", "height", "size"] ["count"] (defScope s_parted) := ⟨rfl, rfl, rfl, by decide +kernel, rfl, by decide +kernel, by decide +kernel⟩
abbrev s_law_cell_at : Stmt := topS 4
theorem sc_law_cell_at : FnScope ["_law_script", "_law_k"] ["_law_script", "_law_k"] (defScope s_law_cell_at) := ⟨rfl, rfl, rfl, by decide +kernel, rfl, by decide +kernel, by decide +kernel⟩
abbrev s_law_whole : Stmt := topS 5
theorem sc_law_whole : FnScope ["_law_found"] ["_law_found"] (defScope s_law_whole) := ⟨rfl, rfl, rfl, by decide +kernel, rfl, by decide +kernel, by decide +kernel⟩
abbrev s_law_digits : Stmt := topS 6
theorem sc_law_digits : FnScope ["_law_count", "_law_found"] ["_law_count"] (defScope s_law_digits) := ⟨rfl, rfl, rfl, by decide +kernel, rfl, by decide +kernel, by decide +kernel⟩
abbrev s_law_size : Stmt := topS 7
theorem sc_law_size : FnScope ["_law_height", "_law_size_here", "_law_turn"] ["_law_height"] (defScope s_law_size) := ⟨rfl, rfl, rfl, by decide +kernel, rfl, by decide +kernel, by decide +kernel⟩
abbrev s_law_parted : Stmt := topS 8
theorem sc_law_parted : FnScope ["_law_count", "_law_found", "_law_place", "_law_height"] ["_law_count"] (defScope s_law_parted) := ⟨rfl, rfl, rfl, by decide +kernel, rfl, by decide +kernel, by decide +kernel⟩
abbrev s_law : Stmt := topS 9
theorem sc_law : FnScope ["_law_script", "_law_cell", "_law_count", "_law_many", "_law_found", "_law_place", "_law_last", "_law_part"] ["_law_script"] (defScope s_law) := ⟨rfl, rfl, rfl, by decide +kernel, rfl, by decide +kernel, by decide +kernel⟩
/-! ### small steps -/
local macro_rules | `(tactic| walk_at "1") => `(tactic| first | refine ⟨_, rfl, ?_⟩ | refine ⟨_, _, rfl, rfl, ?_⟩ | refine ⟨rfl, ?_⟩)
local macro_rules | `(tactic| walk_at "go") => `(tactic| repeat walk_at "1")
structure Bi (mg : Str → Option Value) : Prop where
  len : mg "len" = none
  range : mg "range" = none
  reversed : mg "reversed" = none
  isinstance : mg "isinstance" = none
  int : mg "int" = none
  bool : mg "bool" = none
  list : mg "list" = none
  tuple : mg "tuple" = none
  max : mg "max" = none
section
variable {P : Program} {w : World} {K : PySem.W.Frag} {mg : Str → Option Value} {base : Heap}
/-! ### promises and bodies -/
def spDig : Sp := fun vs H Q _ => ∃ n : Nat, vs = [.int (n : Int)] ∧ Q (.int (dig n : Nat)) H
theorem ok_digits (D : Dfn K mg "digits" s_digits ["count"]) : COk P w K mg base CX0 "digits" 1 ["count"] spDig := by
  refine c_mk D sc_digits (fun vs H Q E h => ?_) (fun f cdv A outer s H vs Q E hr h => ?_)
  · obtain ⟨n, rfl, _⟩ := h
    rfl
  · obtain ⟨n, rfl, q⟩ := h
    refine ⟨_, (pss_one (ps_ret (pe_bits (pv 0)))), ?_⟩
    refine ⟨_, rfl, n, rfl, ?_⟩
    rw [dig_bits]
    exact q
/-- a list of pairs of numbers -/
def PL (H : Hp) (p : Addr) (ps : List (Nat × Nat)) : Prop := ∃ ts : List Addr, H p = some (.lst (ts.map V.ref)) ∧ Paired (fun t (q : Nat × Nat) => H t = some (.tup [.int (q.1 : Int), .int (q.2 : Int)])) ts ps
theorem PL.same {H H' : Hp} {p : Addr} {ps : List (Nat × Nat)} (s : Same H H') (h : PL H p ps) : PL H' p ps := by
  obtain ⟨ts, h1, h2⟩ := h
  exact ⟨ts, s _ _ h1, Paired.mapP h2 fun _ _ e => s _ _ e⟩
theorem same_upd {H : Hp} {p : Addr} {o : HO} (h : H p = none) : Same H (upd H p o) := fun b x e => by
  rw [upd_ne (ne_of_none e h)]
  exact e
/-- another tuple is laid and appended -/
theorem PL.snoc {H : Hp} {p t : Addr} {ps : List (Nat × Nat)} {ts : List Addr} {g j : Nat} (h1 : H p = some (.lst (ts.map V.ref))) (h2 : Paired (fun t (q : Nat × Nat) => H t = some (.tup [.int (q.1 : Int), .int (q.2 : Int)])) ts ps)
    (ht : H t = none) : PL (upd (upd H t (.tup [.int (g : Int), .int (j : Int)])) p (.lst (ts.map V.ref ++ [.ref t]))) p (ps ++ [(g, j)]) := by
  have np : p ≠ t := ne_of_none h1 ht
  refine ⟨ts ++ [t], ?_, ?_⟩
  · rw [upd_same, List.map_append]
    rfl
  · refine Paired.snoc (Paired.mapP h2 fun a q e => ?_) ?_
    · have na : a ≠ p := ne_of e h1 (by intro z; cases z)
      rw [upd_ne na, upd_ne (ne_of_none e ht)]
      exact e
    · rw [upd_ne np.symm, upd_same]
theorem p2_pos (g : Nat) : (0 : Int) < 2 ^ g := by
  have := Nat.two_pow_pos g
  have e2 : ((2 ^ g : Nat) : Int) = 2 ^ g := by simp
  omega
theorem small {n : Nat} (h : n < 1000000) : n < sizeLine := Nat.lt_of_lt_of_le h (by decide)
theorem sml {n : Nat} (h : n < 1000000) : n ≤ sizeLine := Nat.le_of_lt (small h)
/-- what a frame of changes leaves -/
def spParted : Sp := fun vs H Q _ => ∃ n : Nat, vs = [.int (n : Int)] ∧ n < 2 ^ 28 ∧ ∀ H' p, Same H H' → H p = none → PL H' p (parts n) → Q (.ref p) H'
theorem ok_parted (D : Dfn K mg "parted" s_parted ["count"]) (B : Bi mg) (C_digits : COk P w K mg base CX0 "digits" 1 ["count"] spDig) : COk P w K mg base CX0 "parted" 2 ["count"] spParted := by
  refine c_mk D sc_parted (fun vs H Q E h => ?_) (fun f cdv A outer s H vs Q E hr h => ?_)
  · obtain ⟨n, rfl, _⟩ := h
    rfl
  · obtain ⟨n, rfl, hn, q⟩ := h
    have hd : dig n ≤ 28 := dig_le hn
    refine ⟨_, (pss_cons (ps_set (i := 1) sc_parted.nd rfl (.inl rfl) (pe_lst pa_nil))
      (pss_cons (ps_set (i := 2) sc_parted.nd rfl (.inl rfl) pe_int)
      (pss_cons (ps_for PassesOwn.never rfl (pi_revR (by rfl) B.reversed (prg_1 (by rfl) B.range (pe_c C_digits hr (by rfl) (pa_cons (pv 0) pa_nil)))) (pg_name (i := 3) sc_parted.nd rfl (.inl rfl))
      (pss_cons (ps_set (i := 4) sc_parted.nd rfl (.inl rfl) (pe_op op_oneShl pe_int (pv 3)))
      (pss_one (ps_if (pt_cmpR op_le (pv 4) (pe_op op_sub (pv 0) (pv 2)) (nomark _)) (pss_cons (ps_expr (pe_bm PySem.F.plainAttrs_list PySem.F.slot_list_append PySem.F.type_list_append mt_append (pv 1) (pa_cons (pe_tup (pa_cons (pv 3) (pa_cons (pe_op op_fdiv (pv 2) (pv 4)) pa_nil))) pa_nil)))
      (pss_one (ps_aug (i := 2) sc_parted.nd rfl (.inl rfl) (pv 4) ip_add))) pss_nil))))
      (pss_one (ps_ret (pv 1)))))), ?_⟩
    refine ⟨Nat.zero_le _, fun p hp => ?_⟩
    refine ⟨_, rfl, n, rfl, ?_⟩
    refine ⟨(dig n : Int), rfl, by decide, by decide, by omega, by omega, ?_⟩
    have e1 : ((dig n : Int) - 0).toNat = dig n := by omega
    rw [e1]
    refine for_rangeC (fun i σ H1 => ∃ (s : Nat) (done : List (Nat × Nat)) (y3 y4 : Option V), σ = [some (.int (n : Int)), some (.ref p), some (.int (s : Int)), y3, y4] ∧ s ≤ n ∧ done.length ≤ i ∧ done ++ partsG n (dig n - i) s = parts n ∧ Same H H1 ∧ PL H1 p done) ?_ ?_ ?_
    · refine ⟨0, [], none, none, rfl, Nat.zero_le _, Nat.le_refl _, rfl, same_upd hp, [], upd_same, .nil⟩
    · rintro i σ H1 hi ⟨s, done, y3, y4, rfl, hs, hl, hparts, sm, ts, hp1, hts⟩
      obtain ⟨g, eg⟩ : ∃ g, dig n - i = g + 1 := ⟨dig n - i - 1, by omega⟩
      have ei : (0 : Int) + ((dig n : Nat) : Int) - 1 + (i : Int) * -1 = (g : Int) := by omega
      rw [ei]
      refine ⟨_, rfl, g, rfl, rfl, by omega, ?_⟩
      refine ⟨_, rfl, _, rfl, _, rfl, _, _, rfl, rfl, _, _, rfl, rfl, _, rfl, ite2 (fun e => ?_) (fun e => ?_)⟩
      · have h2 : s + 2 ^ g ≤ n := by
          have := of_decide_eq_true e
          have e2 : ((2 ^ g : Nat) : Int) = 2 ^ g := by simp
          omega
        rw [eg] at hparts
        unfold partsG at hparts
        rw [if_pos h2] at hparts
        have hg : (2 : Nat) ^ g < 2 ^ 28 := by omega
        refine ⟨_, rfl, .inl ⟨rfl, _, SqL.of hp1⟩, _, rfl, _, rfl, _, rfl, _, _, rfl, rfl, ⟨?_, ?_⟩, by show 2 ≤ sizeLine; decide, fun t ht => ?_⟩
        · show (0 : Int) < 2 ^ g
          exact p2_pos g
        · show (2 : Int) ^ g < 1073741824
          have e2 : ((2 ^ g : Nat) : Int) = 2 ^ g := by simp
          omega
        have ev : (s : Int) / 2 ^ g = ((s / 2 ^ g : Nat) : Int) := by simp
        have hp2 : (upd H1 t (.tup [.int (g : Int), .int ((s : Int) / 2 ^ g)])) p = some (.lst (ts.map V.ref)) := by
          rw [upd_ne (ne_of_none hp1 ht)]
          exact hp1
        have hlen : (ts.map V.ref).length < sizeLine := by
          rw [List.length_map, Paired.length hts]
          exact small (by omega)
        refine ⟨p, _, _, rfl, rfl, hp2, hlen, ?_⟩
        refine ⟨_, rfl, _, rfl, _, _, rfl, rfl, ?_⟩
        refine ⟨s + 2 ^ g, done ++ [(g, s / 2 ^ g)], some (.int (g : Int)), some (.int (2 ^ g)), ?_, h2, ?_, ?_, ?_, ?_⟩
        · show [some (V.int (n : Int)), some (V.ref p), some (V.int ((s : Int) + 2 ^ g)), some (V.int (g : Int)), some (V.int (2 ^ g))] = _
          rw [show (s : Int) + 2 ^ g = ((s + 2 ^ g : Nat) : Int) by simp]
        · rw [List.length_append]
          exact Nat.succ_le_succ hl
        · rw [show dig n - (i + 1) = g by omega, ← hparts, List.append_assoc]
          rfl
        · intro b o e
          have nb : b ≠ p := ne_of_none e hp
          rw [upd_ne nb, upd_ne (ne_of_none (sm _ _ e) ht)]
          exact sm _ _ e
        · show PL (upd (upd H1 t (.tup [.int (g : Int), .int ((s : Int) / 2 ^ g)])) p _) p _
          rw [ev]
          exact PL.snoc hp1 hts ht
      · have h2 : ¬ s + 2 ^ g ≤ n := fun z => e (decide_eq_true (by
          have e2 : ((2 ^ g : Nat) : Int) = 2 ^ g := by simp
          omega))
        rw [eg] at hparts
        unfold partsG at hparts
        rw [if_neg h2] at hparts
        refine ⟨s, done, _, _, rfl, hs, by omega, ?_, sm, ts, hp1, hts⟩
        rw [show dig n - (i + 1) = g by omega]
        exact hparts
    · rintro σ H1 ⟨s, done, y3, y4, rfl, hs, hl, hparts, sm, hpl⟩
      rw [Nat.sub_self] at hparts
      unfold partsG at hparts
      rw [List.append_nil] at hparts
      rw [hparts] at hpl
      exact ⟨_, rfl, q _ _ sm hp hpl⟩

/-! ### the law's helpers -/
def spCellAt (K : PySem.W.Frag) : Sp := fun vs H Q _ => ∃ (l : Addr) (ns : List Int) (j : Nat), vs = [.ref l, .int (j : Int)] ∧ SqL K H l (ns.map V.int) ∧ Q (.int (ns.getD j 0)) H
theorem ok_cell (D : Dfn K mg "_law_cell_at" s_law_cell_at ["_law_script", "_law_k"]) (B : Bi mg) : COk P w K mg base CX0 "_law_cell_at" 1 ["_law_script", "_law_k"] (spCellAt K) := by
  refine c_mk D sc_law_cell_at (fun vs H Q E h => ?_) (fun f cdv A outer s H vs Q E hr h => ?_)
  · obtain ⟨l, ns, j, rfl, _⟩ := h
    rfl
  · obtain ⟨l, ns, j, rfl, hS, q⟩ := h
    refine ⟨_, (pss_cons (ps_if (pt_cmpR op_lt (pv 1) (pe_callB (id := "len") call_len_seq (by rfl) B.len (by decide +kernel) (pa_cons (pv 0) pa_nil)) (nomark _)) (pss_one (ps_ret (pe_ix ix_list (pv 0) (pv 1) (fun _ _ => rfl)))) pss_nil)
      (pss_one (ps_ret pe_int))), ?_⟩
    refine ⟨_, rfl, _, rfl, l, _, rfl, .inl hS, _, _, rfl, rfl, _, rfl, ite2 (fun e => ?_) (fun e => ?_)⟩
    · have h1 : j < ns.length := by
        have := of_decide_eq_true e
        rw [List.length_map] at this
        omega
      refine ⟨_, rfl, _, rfl, l, _, (j : Int), .int (ns.getD j 0), rfl, rfl, hS, atI_nat ?_, q⟩
      rw [List.getElem?_map, List.getElem?_eq_getElem h1, List.getD_eq_getElem?_getD, List.getElem?_eq_getElem h1]
      rfl
    · have h1 : ¬ j < ns.length := fun z => e (decide_eq_true (by
        rw [List.length_map]
        omega))
      have e2 : ns.getD j 0 = 0 := by
        rw [List.getD_eq_getElem?_getD, List.getElem?_eq_none (by omega)]
        rfl
      rw [e2] at q
      exact q
def spWhole : Sp := fun vs H Q _ => ∃ i : Int, vs = [.int i] ∧ Q (.bl true) H
theorem ok_whole (D : Dfn K mg "_law_whole" s_law_whole ["_law_found"]) (B : Bi mg) : COk P w K mg base CX0 "_law_whole" 1 ["_law_found"] spWhole := by
  refine c_mk D sc_law_whole (fun vs H Q E h => ?_) (fun f cdv A outer s H vs Q E hr h => ?_)
  · obtain ⟨i, rfl, _⟩ := h
    rfl
  · obtain ⟨i, rfl, q⟩ := h
    refine ⟨_, (pss_one (ps_ret (pe_and (pe_callB (id := "isinstance") call_isi (by rfl) B.isinstance (by decide +kernel) (pa_cons (pv 0) (pa_cons (pe_bltn (v := .ty "int") (u := .type "int") (by rfl) B.int (by decide +kernel) rfl) pa_nil))) (pe_one (pe_not (pe_callB (id := "isinstance") call_isi (by rfl) B.isinstance (by decide +kernel) (pa_cons (pv 0) (pa_cons (pe_bltn (v := .ty "bool") (u := .type "bool") (by rfl) B.bool (by decide +kernel) rfl) pa_nil)))))))), ?_⟩
    refine ⟨_, rfl, .int i, .ty "int", _, _, true, rfl, .ty "int", .base (.int i), kit_ty (by decide +kernel), true, rfl, iteT ?_⟩
    refine ⟨_, rfl, .int i, .ty "bool", _, _, false, rfl, .ty "bool", .base (.int i), kit_ty (by decide +kernel), false, rfl, ?_⟩
    exact q
theorem ok_law_digits (D : Dfn K mg "_law_digits" s_law_digits ["_law_count"]) : COk P w K mg base CX0 "_law_digits" 1 ["_law_count"] spDig := by
  refine c_mk D sc_law_digits (fun vs H Q E h => ?_) (fun f cdv A outer s H vs Q E hr h => ?_)
  · obtain ⟨n, rfl, _⟩ := h
    rfl
  · obtain ⟨n, rfl, q⟩ := h
    refine ⟨_, (pss_cons (ps_set (i := 1) sc_law_digits.nd rfl (.inl rfl) pe_int)
      (pss_cons (ps_while PassesOwn.never (pt_cmpR op_gt (pv 0) pe_int (nomark _)) (pss_cons (ps_set (i := 0) sc_law_digits.nd rfl (.inl rfl) (pe_op op_fdiv (pv 0) pe_int))
      (pss_one (ps_set (i := 1) sc_law_digits.nd rfl (.inl rfl) (pe_op op_add (pv 1) pe_int)))))
      (pss_one (ps_ret (pv 1))))), ?_⟩
    refine ⟨fun m σ H1 => ∃ (c d : Nat), σ = [some (.int (c : Int)), some (.int (d : Int))] ∧ dig c + d = dig n ∧ m = c ∧ H1 = H, ⟨n, n, 0, rfl, Nat.add_zero _, rfl, rfl⟩, ?_⟩
    rintro m σ H1 ⟨c, d, rfl, e, rfl, rfl⟩
    refine ⟨_, rfl, _, _, rfl, rfl, _, rfl, ite2 (fun hc => ?_) (fun hc => ?_)⟩
    · have h0 : 0 < m := by
        have := of_decide_eq_true hc
        omega
      refine ⟨fun σ' H' => ∃ d' : Nat, σ' = [some (.int ((m / 2 : Nat) : Int)), some (.int (d' : Int))] ∧ dig (m / 2) + d' = dig n ∧ H' = H1, ?_, ?_⟩
      · rintro σ' H' ⟨d', rfl, e', rfl⟩
        exact ⟨m / 2, by omega, m / 2, d', rfl, e', rfl, rfl⟩
      · refine ⟨_, rfl, _, _, rfl, rfl, ⟨by decide, by decide⟩, ?_⟩
        refine ⟨_, rfl, _, _, rfl, rfl, ?_⟩
        refine ⟨d + 1, rfl, ?_, rfl⟩
        have := dig_half h0
        omega
    · have h0 : m = 0 := by
        have : ¬ (0 : Int) < (m : Int) := fun z => hc (decide_eq_true z)
        omega
      subst h0
      rw [dig_zero, Nat.zero_add] at e
      subst e
      exact ⟨_, rfl, q⟩
def spSize : Sp := fun vs H Q _ => ∃ n : Nat, vs = [.int (n : Int)] ∧ n < 2 ^ 30 ∧ Q (.int ((2 ^ n : Nat) : Int)) H
theorem ok_size (D : Dfn K mg "_law_size" s_law_size ["_law_height"]) (B : Bi mg) : COk P w K mg base CX0 "_law_size" 1 ["_law_height"] spSize := by
  refine c_mk D sc_law_size (fun vs H Q E h => ?_) (fun f cdv A outer s H vs Q E hr h => ?_)
  · obtain ⟨n, rfl, _⟩ := h
    rfl
  · obtain ⟨n, rfl, hn, q⟩ := h
    refine ⟨_, (pss_cons (ps_set (i := 1) sc_law_size.nd rfl (.inl rfl) pe_int)
      (pss_cons (ps_for PassesOwn.never rfl (pi_range1 (by rfl) B.range (pa_cons (pv 0) pa_nil)) (pg_name (i := 2) sc_law_size.nd rfl (.inl rfl))
      (pss_one (ps_set (i := 1) sc_law_size.nd rfl (.inl rfl) (pe_op op_mul (pv 1) pe_int))))
      (pss_one (ps_ret (pv 1))))), ?_⟩
    refine ⟨_, rfl, (n : Int), rfl, by omega, by omega, ?_⟩
    have e1 : ((n : Int)).toNat = n := by omega
    rw [e1]
    refine for_range (fun i σ H1 => ∃ y : Option V, σ = [some (.int (n : Int)), some (.int ((2 ^ i : Nat) : Int)), y] ∧ H1 = H) ⟨none, rfl, rfl⟩ ?_ ?_
    · rintro i σ H1 hi ⟨y, rfl, rfl⟩
      refine ⟨_, rfl, _, _, rfl, rfl, .inr ⟨by decide, by decide⟩, ?_⟩
      refine ⟨some (.int ((0 : Int) + (i : Int))), ?_, rfl⟩
      show [some (V.int (n : Int)), some (V.int (((2 ^ i : Nat) : Int) * 2)), some (V.int ((0 : Int) + (i : Int)))] = _
      rw [show ((2 ^ i : Nat) : Int) * 2 = ((2 ^ (i + 1) : Nat) : Int) by rw [Nat.pow_succ]; simp]
    · rintro σ H1 ⟨y, rfl, rfl⟩
      exact ⟨_, rfl, q⟩
theorem ok_law_parted (D : Dfn K mg "_law_parted" s_law_parted ["_law_count"]) (B : Bi mg) (C_law_digits : COk P w K mg base CX0 "_law_digits" 1 ["_law_count"] spDig) (C_law_size : COk P w K mg base CX0 "_law_size" 1 ["_law_height"] spSize) :
    COk P w K mg base CX0 "_law_parted" 2 ["_law_count"] spParted := by
  refine c_mk D sc_law_parted (fun vs H Q E h => ?_) (fun f cdv A outer s H vs Q E hr h => ?_)
  · obtain ⟨n, rfl, _⟩ := h
    rfl
  · obtain ⟨n, rfl, hn, q⟩ := h
    have hd : dig n ≤ 28 := dig_le hn
    refine ⟨_, (pss_cons (ps_set (i := 1) sc_law_parted.nd rfl (.inl rfl) (pe_lst pa_nil))
      (pss_cons (ps_set (i := 2) sc_law_parted.nd rfl (.inl rfl) pe_int)
      (pss_cons (ps_for PassesOwn.never rfl (pi_range3 (by rfl) B.range (pa_cons (pe_c C_law_digits hr (by rfl) (pa_cons (pv 0) pa_nil)) (pa_cons (pe_un un_neg pe_int) (pa_cons (pe_un un_neg pe_int) pa_nil)))) (pg_name (i := 3) sc_law_parted.nd rfl (.inl rfl))
      (pss_one (ps_if (pt_cmpR op_le (pe_op op_add (pv 2) (pe_c C_law_size hr (by rfl) (pa_cons (pv 3) pa_nil))) (pv 0) (nomark _)) (pss_cons (ps_expr (pe_bm PySem.F.plainAttrs_list PySem.F.slot_list_append PySem.F.type_list_append mt_append (pv 1) (pa_cons (pe_tup (pa_cons (pv 3) (pa_cons (pe_op op_fdiv (pv 2) (pe_c C_law_size hr (by rfl) (pa_cons (pv 3) pa_nil))) pa_nil))) pa_nil)))
      (pss_one (ps_set (i := 2) sc_law_parted.nd rfl (.inl rfl) (pe_op op_add (pv 2) (pe_c C_law_size hr (by rfl) (pa_cons (pv 3) pa_nil)))))) pss_nil)))
      (pss_one (ps_ret (pv 1)))))), ?_⟩
    refine ⟨Nat.zero_le _, fun p hp => ?_⟩
    refine ⟨_, rfl, n, rfl, _, rfl, _, rfl, _, _, _, _, rfl, RgC.neg (by omega) (by omega) (by decide) (by decide), ?_⟩
    have e1 : ((dig n : Int) - -1).toNat = dig n + 1 := by omega
    rw [e1]
    refine for_rangeC (fun i σ H1 => ∃ (s : Nat) (done : List (Nat × Nat)) (y3 : Option V), σ = [some (.int (n : Int)), some (.ref p), some (.int (s : Int)), y3] ∧ s ≤ n ∧ done.length ≤ i ∧ done ++ partsG n (dig n + 1 - i) s = parts n ∧ Same H H1 ∧ PL H1 p done) ?_ ?_ ?_
    · exact ⟨0, [], none, rfl, Nat.zero_le _, Nat.le_refl _, parts_more n, same_upd hp, [], upd_same, .nil⟩
    · rintro i σ H1 hi ⟨s, done, y3, rfl, hs, hl, hparts, sm, ts, hp1, hts⟩
      obtain ⟨g, eg⟩ : ∃ g, dig n + 1 - i = g + 1 := ⟨dig n - i, by omega⟩
      have ei : ((dig n : Nat) : Int) + (i : Int) * -1 = (g : Int) := by omega
      rw [ei]
      refine ⟨_, rfl, _, rfl, g, rfl, by omega, _, _, rfl, rfl, _, rfl, _, _, rfl, rfl, _, rfl, ite2 (fun e => ?_) (fun e => ?_)⟩
      · have h2 : s + 2 ^ g ≤ n := by
          have := of_decide_eq_true e
          omega
        rw [eg] at hparts
        unfold partsG at hparts
        rw [if_pos h2] at hparts
        have hg : (2 : Nat) ^ g < 2 ^ 28 := by omega
        have hg0 := Nat.two_pow_pos g
        refine ⟨_, rfl, .inl ⟨rfl, _, SqL.of hp1⟩, _, rfl, _, rfl, _, rfl, g, rfl, by omega, _, _, rfl, rfl, ⟨?_, ?_⟩, by show 2 ≤ sizeLine; decide, fun t ht => ?_⟩
        · show (0 : Int) < ((2 ^ g : Nat) : Int)
          omega
        · show ((2 ^ g : Nat) : Int) < 1073741824
          omega
        have hp2 : (upd H1 t (.tup [.int (g : Int), .int ((s : Int) / ((2 ^ g : Nat) : Int))])) p = some (.lst (ts.map V.ref)) := by
          rw [upd_ne (ne_of_none hp1 ht)]
          exact hp1
        have hlen : (ts.map V.ref).length < sizeLine := by
          rw [List.length_map, Paired.length hts]
          exact small (by omega)
        refine ⟨p, _, _, rfl, rfl, hp2, hlen, ?_⟩
        refine ⟨_, rfl, _, rfl, g, rfl, by omega, _, _, rfl, rfl, ?_⟩
        refine ⟨s + 2 ^ g, done ++ [(g, s / 2 ^ g)], some (.int (g : Int)), ?_, h2, ?_, ?_, ?_, ?_⟩
        · rfl
        · rw [List.length_append]
          exact Nat.succ_le_succ hl
        · rw [show dig n + 1 - (i + 1) = g by omega, ← hparts, List.append_assoc]
          rfl
        · intro b o e
          have nb : b ≠ p := ne_of_none e hp
          rw [upd_ne nb, upd_ne (ne_of_none (sm _ _ e) ht)]
          exact sm _ _ e
        · exact PL.snoc hp1 hts ht
      · have h2 : ¬ s + 2 ^ g ≤ n := fun z => e (decide_eq_true (by omega))
        rw [eg] at hparts
        unfold partsG at hparts
        rw [if_neg h2] at hparts
        refine ⟨s, done, _, rfl, hs, by omega, ?_, sm, ts, hp1, hts⟩
        rw [show dig n + 1 - (i + 1) = g by omega]
        exact hparts
    · rintro σ H1 ⟨s, done, y3, rfl, hs, hl, hparts, sm, hpl⟩
      rw [Nat.sub_self] at hparts
      unfold partsG at hparts
      rw [List.append_nil] at hparts
      rw [hparts] at hpl
      exact ⟨_, rfl, q _ _ sm hp hpl⟩

/-! ### the law -/
theorem PL.dp {K : PySem.W.Frag} {H : Hp} {p : Addr} {ps : List (Nat × Nat)} (h : PL H p ps) : Dp K H (.ref p) (.list (ps.map pairD)) := by
  obtain ⟨ts, h1, h2⟩ := h
  refine .lst (SqL.of h1) ?_
  clear h1
  induction h2 with
  | nil => exact .nil
  | cons e _ ih => exact .cons (.tup (SqT.of e) (.cons (.int _) (.cons (.int _) .nil))) ih
theorem PL.at {H : Hp} {ts : List Addr} {ps : List (Nat × Nat)} (h : Paired (fun t (q : Nat × Nat) => H t = some (.tup [.int (q.1 : Int), .int (q.2 : Int)])) ts ps) {i : Nat} {v : V} (hv : (ts.map V.ref)[i]? = some v) :
    ∃ t q, v = .ref t ∧ ps[i]? = some q ∧ H t = some (.tup [.int (q.1 : Int), .int (q.2 : Int)]) := by
  induction h generalizing i with
  | nil => simp at hv
  | @cons a b l1 l2 e _ ih =>
    cases i with
    | zero =>
      have : V.ref a = v := Option.some.inj hv
      exact ⟨a, b, this.symm, rfl, e⟩
    | succ i => exact ih hv
def spLaw (K : PySem.W.Frag) : Sp := fun vs H Q _ => ∃ (a : Addr) (ns : List Int), vs = [.ref a] ∧ SqL K H a (ns.map V.int) ∧ ∀ H', Q (.bl true) H'
theorem ok_law {f : Addr} {fd : FuncData} (F : Fun K "law" "law" s_law f fd) (B : Bi mg) (C_digits : COk P w K mg base CX0 "digits" 1 ["count"] spDig) (C_parted : COk P w K mg base CX0 "parted" 2 ["count"] spParted) (C_law_cell_at : COk P w K mg base CX0 "_law_cell_at" 1 ["_law_script", "_law_k"] (spCellAt K))
    (C_law_whole : COk P w K mg base CX0 "_law_whole" 1 ["_law_found"] spWhole) (C_law_digits : COk P w K mg base CX0 "_law_digits" 1 ["_law_count"] spDig) (C_law_size : COk P w K mg base CX0 "_law_size" 1 ["_law_height"] spSize) (C_law_parted : COk P w K mg base CX0 "_law_parted" 2 ["_law_count"] spParted) :
    FnOk P w K mg base CX0 3 f fd ["_law_script"] (spLaw K) := by
  refine F.ok sc_law (fun vs H Q E h => ?_) (fun cdv A outer s H vs Q E hr h => ?_)
  · obtain ⟨a, ns, rfl, _⟩ := h
    rfl
  · obtain ⟨a, ns, rfl, hS, q⟩ := h
    refine ⟨_, (pss_cons (ps_set (i := 1) sc_law.nd rfl (.inl rfl) (pe_c C_law_cell_at hr (by rfl) (pa_cons (pv 0) (pa_cons pe_int pa_nil))))
      (pss_cons (ps_set (i := 2) sc_law.nd rfl (.inl rfl) (pe_op op_mod (pe_op op_fdiv (pv 1) pe_int) pe_int))
      (Evl.pss_cut (ps_if (pt_cmpR op_eq (pe_op op_mod (pv 1) pe_int) pe_int (nomark _)) (pss_one (ps_set (i := 2) sc_law.nd rfl (.inl rfl) (pe_op op_mod (pe_op op_fdiv (pv 1) pe_int) (pe_op op_add (pe_op op_pow pe_int pe_int) pe_int)))) pss_nil)
      (Evl.pss_cut (ps_if (pt_cmpR op_eq (pe_op op_mod (pv 1) pe_int) pe_int (nomark _)) (pss_one (ps_set (i := 2) sc_law.nd rfl (.inl rfl) (pe_callB (id := "max") (call_max2 rfl) (by rfl) B.max (by decide +kernel) (pa_cons pe_int (pa_cons (pe_op op_add (pe_op op_sub (pe_c C_law_size hr (by rfl) (pa_cons (pe_op op_mod (pe_op op_fdiv (pv 1) pe_int) pe_int) pa_nil)) pe_int) (pe_op op_mod (pe_op op_fdiv (pv 1) pe_int) pe_int)) pa_nil))))) pss_nil)
      (pss_cons (ps_set (i := 3) sc_law.nd rfl (.inl rfl) (pe_c C_digits hr (by rfl) (pa_cons (pv 2) pa_nil)))
      (pss_cons (ps_set (i := 4) sc_law.nd rfl (.inl rfl) (pe_c C_parted hr (by rfl) (pa_cons (pv 2) pa_nil)))
      (pss_cons (ps_if ((pw_or (pt_not (pt_val (pe_c C_law_whole hr (by rfl) (pa_cons (pv 3) pa_nil)))) (pw_or (pt_cmpR op_ne (pv 3) (pe_c C_law_digits hr (by rfl) (pa_cons (pv 2) pa_nil)) (nomark _)) (pw_or1 (pt_not (pt_val (pe_callB (id := "isinstance") call_isi (by rfl) B.isinstance (by decide +kernel) (pa_cons (pv 4) (pa_cons (pe_bltn (v := .ty "list") (u := .type "list") (by rfl) B.list (by decide +kernel) rfl) pa_nil))))))))).pt (pss_one (ps_ret pe_bl)) pss_nil)
      (pss_cons (ps_set (i := 5) sc_law.nd rfl (.inl rfl) pe_int)
      (pss_cons (ps_set (i := 6) sc_law.nd rfl (.inl rfl) (pv 3))
      (pss_cons (ps_for PassesOwn.never rfl (pi_list (pv 4)) (pg_name (i := 7) sc_law.nd rfl (.inl rfl))
      (pss_cons (ps_if ((pw_or (pt_not (pt_val (pe_callB (id := "isinstance") call_isi (by rfl) B.isinstance (by decide +kernel) (pa_cons (pv 7) (pa_cons (pe_bltn (v := .ty "tuple") (u := .type "tuple") (by rfl) B.tuple (by decide +kernel) rfl) pa_nil))))) (pw_or (pt_cmpR op_ne (pe_callB (id := "len") call_len_seq (by rfl) B.len (by decide +kernel) (pa_cons (pv 7) pa_nil)) pe_int (nomark _)) (pw_or (pt_not (pt_val (pe_c C_law_whole hr (by rfl) (pa_cons (pe_ix ix_tup (pv 7) pe_int (fun _ _ => rfl)) pa_nil)))) (pw_or1 (pt_not (pt_val (pe_c C_law_whole hr (by rfl) (pa_cons (pe_ix ix_tup (pv 7) pe_int (fun _ _ => rfl)) pa_nil))))))))).pt (pss_one (ps_ret pe_bl)) pss_nil)
      (pss_cons (ps_if ((pw_or (pt_not (pt_chain op_le op_lt pe_int (pe_ix ix_tup (pv 7) pe_int (fun _ _ => rfl)) (pv 6))) (pw_or1 (pt_cmpR op_ne (pe_op op_mul (pe_ix ix_tup (pv 7) pe_int (fun _ _ => rfl)) (pe_c C_law_size hr (by rfl) (pa_cons (pe_ix ix_tup (pv 7) pe_int (fun _ _ => rfl)) pa_nil))) (pv 5) (nomark _))))).pt (pss_one (ps_ret pe_bl)) pss_nil)
      (pss_cons (ps_set (i := 5) sc_law.nd rfl (.inl rfl) (pe_op op_add (pv 5) (pe_c C_law_size hr (by rfl) (pa_cons (pe_ix ix_tup (pv 7) pe_int (fun _ _ => rfl)) pa_nil))))
      (pss_one (ps_set (i := 6) sc_law.nd rfl (.inl rfl) (pe_ix ix_tup (pv 7) pe_int (fun _ _ => rfl))))))))
      (pss_cons (ps_expr (pe_bm PySem.F.plainAttrs_list PySem.F.slot_list_append PySem.F.type_list_append mt_append (pv 4) (pa_cons (pe_tup (pa_cons pe_int (pa_cons pe_int pa_nil))) pa_nil)))
      (pss_one (ps_ret (pe_and (pe_cmpR op_eq (pv 5) (pv 2) (nomark _)) (pe_one (pe_cmpR (op_eqD hr.units) (pe_c C_parted hr (by rfl) (pa_cons (pv 2) pa_nil)) (pe_c C_law_parted hr (by rfl) (pa_cons (pv 2) pa_nil)) (nomark _))))))))))))))))), ?_⟩
    refine ⟨_, rfl, a, ns, 0, rfl, hS, ?_⟩
    generalize ns.getD 0 0 = c
    -- count = cell // 3 % 71
    refine ⟨_, rfl, _, _, rfl, rfl, ⟨by decide, by decide⟩, _, _, rfl, rfl, (by show (0 : Int) < 71; decide), ?_⟩
    have mod_nat : ∀ (x : Int) (m : Int), 0 < m → ∃ n : Nat, x % m = (n : Int) ∧ (n : Int) < m := fun x m hm => ⟨(x % m).toNat, by have := Int.emod_nonneg x (by omega : m ≠ 0); omega, by
      have := Int.emod_nonneg x (by omega : m ≠ 0)
      have := Int.emod_lt_of_pos x hm
      omega⟩
    -- if cell % 3 == 1
    refine ⟨fun σ H' => ∃ n : Nat, n < 2 ^ 28 ∧ H = H' ∧ σ = [some (.ref a), some (.int c), some (.int (n : Int)), none, none, none, none, none], ?_, ?_⟩
    · obtain ⟨n, en, hn⟩ := mod_nat (c / 3) 71 (by decide)
      refine ⟨_, rfl, _, _, rfl, rfl, (by show (0 : Int) < 3; decide), rfl, _, rfl, ite2 (fun _ => ?_) (fun _ => ?_)⟩
      · refine ⟨_, rfl, _, _, rfl, rfl, ⟨by decide, by decide⟩, _, _, rfl, rfl, ⟨by decide, by decide, by decide⟩, _, _, rfl, rfl, _, _, rfl, rfl, (by show (0 : Int) < 10 ^ 6 + 1; decide), ?_⟩
        obtain ⟨n, en, hn⟩ := mod_nat (c / 3) (10 ^ 6 + 1) (by decide)
        refine ⟨n, by omega, rfl, ?_⟩
        show [some (V.ref a), some (V.int c), some (V.int (c / 3 % (10 ^ 6 + 1))), none, none, none, none, none] = _
        rw [en]
      · refine ⟨n, by omega, rfl, ?_⟩
        show [some (V.ref a), some (V.int c), some (V.int (c / 3 % 71)), none, none, none, none, none] = _
        rw [en]
    rintro σ _ ⟨n, hn, rfl, rfl⟩
    refine ⟨fun σ H' => ∃ n : Nat, n < 2 ^ 28 ∧ H = H' ∧ σ = [some (.ref a), some (.int c), some (.int (n : Int)), none, none, none, none, none], ?_, ?_⟩
    · refine ⟨_, rfl, _, _, rfl, rfl, (by show (0 : Int) < 3; decide), rfl, _, rfl, ite2 (fun _ => ?_) (fun _ => ?_)⟩
      · obtain ⟨m, em, hm⟩ := mod_nat (c / 3) 20 (by decide)
        obtain ⟨d, ed, hd⟩ := mod_nat (c / 60) 3 (by decide)
        refine ⟨_, rfl, _, _, rfl, rfl, ⟨by decide, by decide⟩, _, _, rfl, rfl, (by show (0 : Int) < 20; decide), m, ?_, ?_, ?_⟩
        · show [V.int (c / 3 % 20)] = _
          rw [em]
        · omega
        refine ⟨_, _, rfl, rfl, _, rfl, _, _, rfl, rfl, ⟨by decide, by decide⟩, _, _, rfl, rfl, (by show (0 : Int) < 3; decide), _, _, rfl, rfl, _, _, rfl, ?_⟩
        show ∃ n : Nat, n < 2 ^ 28 ∧ H = H ∧ [some (V.ref a), some (V.int c), some (V.int (if ((2 ^ m : Nat) : Int) - 1 + c / 60 % 3 > 0 then ((2 ^ m : Nat) : Int) - 1 + c / 60 % 3 else 0)), none, none, none, none, none] = _
        rw [ed]
        have hp : 2 ^ m ≤ 2 ^ 20 := Nat.pow_le_pow_right (by decide) (by omega)
        have h0 := Nat.two_pow_pos m
        refine ⟨2 ^ m - 1 + d, by omega, rfl, ?_⟩
        by_cases hc : ((2 ^ m : Nat) : Int) - 1 + (d : Int) > 0
        · rw [if_pos hc, show ((2 ^ m : Nat) : Int) - 1 + (d : Int) = ((2 ^ m - 1 + d : Nat) : Int) by omega]
        · rw [if_neg hc, show ((2 ^ m - 1 + d : Nat) : Int) = 0 by omega]
      · exact ⟨n, hn, rfl, rfl⟩
    rintro σ _ ⟨n, hn, rfl, rfl⟩
    have hd : dig n ≤ 28 := dig_le hn
    -- many = digits(count); found = parted(count)
    refine ⟨_, rfl, n, rfl, ?_⟩
    refine ⟨_, rfl, n, rfl, hn, fun H1 p sm1 hp hpl => ?_⟩
    obtain ⟨ts, h1, h2⟩ := hpl
    -- the first test
    refine ⟨_, rfl, _, rfl, true, rfl, iteF ?_⟩
    refine ⟨_, rfl, _, rfl, n, rfl, rfl, _, rfl, ?_⟩
    rw [decide_eq_true (rfl : V.int (dig n : Int) = V.int (dig n : Int))]
    refine iteF ?_
    refine ⟨_, rfl, .ref p, .ty "list", _, _, true, rfl, .ty "list", .base (.lst h1), kit_ty (by decide +kernel), true, rfl, iteF ?_⟩
    -- place = 0; last = many
    refine ⟨_, rfl, ?_⟩
    refine ⟨_, rfl, p, rfl, ⟨_, SqL.of h1⟩, ?_⟩
    refine for_list (xs := ts.map V.ref) (fun i σ H' => ∃ (pl la : Nat) (y7 : Option V), H1 = H' ∧ σ = [some (.ref a), some (.int c), some (.int (n : Int)), some (.int (dig n : Int)), some (.ref p), some (.int (pl : Int)), some (.int (la : Int)), y7] ∧ partsOk n la pl ((parts n).drop i) ∧ la ≤ 28) ?_ ?_ ?_ ?_
    · exact ⟨0, dig n, none, rfl, rfl, parts_ok n, hd⟩
    · rintro i σ _ _ ⟨pl, la, y7, rfl, _⟩
      exact SqL.of h1
    · rintro i x σ _ hx ⟨pl, la, y7, rfl, rfl, hok, hla⟩
      obtain ⟨t, ⟨g, j⟩, rfl, hq, ht⟩ := PL.at h2 hx
      have ed : (parts n).drop i = (g, j) :: (parts n).drop (i + 1) := by
        rw [← List.getElem_cons_drop (List.getElem?_eq_some_iff.mp hq).1, (List.getElem?_eq_some_iff.mp hq).2]
      rw [ed] at hok
      obtain ⟨hg, hj, hok⟩ := hok
      have hT : SqT K H1 t [.int (g : Int), .int (j : Int)] := SqT.of ht
      have a0 : atI [V.int (g : Int), V.int (j : Int)] 0 = some (.int (g : Int)) := rfl
      have a1 : atI [V.int (g : Int), V.int (j : Int)] 1 = some (.int (j : Int)) := rfl
      have gp := p2_pos g
      have ge : ((2 ^ g : Nat) : Int) < 2 ^ 28 := by
        have : 2 ^ g < 2 ^ 28 := Nat.pow_lt_pow_right (by decide) (by omega)
        omega
      -- isinstance, len, whole, whole
      refine ⟨_, rfl, .ref t, .ty "tuple", _, _, true, rfl, .ty "tuple", .base (.tup ht), kit_ty (by decide +kernel), true, rfl, iteF ?_⟩
      refine ⟨_, rfl, t, _, rfl, .inr hT, rfl, false, rfl, iteF ?_⟩
      refine ⟨_, rfl, t, _, 0, _, rfl, rfl, hT, a0, (g : Int), rfl, true, rfl, iteF ?_⟩
      refine ⟨_, rfl, t, _, 1, _, rfl, rfl, hT, a1, (j : Int), rfl, true, rfl, iteF ?_⟩
      -- 0 <= part[0] < last
      refine ⟨_, rfl, t, _, 0, _, rfl, rfl, hT, a0, 0, (g : Int), rfl, rfl, true, ?_, iteT ?_⟩
      · exact congrArg V.bl (decide_eq_true (show (0 : Int) ≤ (g : Int) by omega))
      refine ⟨_, rfl, (g : Int), (la : Int), rfl, rfl, true, ?_, iteF ?_⟩
      · exact congrArg V.bl (decide_eq_true (show (g : Int) < (la : Int) by omega))
      -- part[1] * size(part[0]) != place
      refine ⟨_, rfl, t, _, 1, _, rfl, rfl, hT, a1, _, rfl, t, _, 0, _, rfl, rfl, hT, a0, g, rfl, by omega, _, _, rfl, rfl, .inr ⟨by have := Nat.two_pow_pos g; omega, by omega⟩, ?_⟩
      refine ⟨_, rfl, rfl, false, ?_, iteF ?_⟩
      · have e2 : V.int ((j : Int) * ((2 ^ g : Nat) : Int)) = V.int (pl : Int) := by
          rw [← hj]
          simp
        show V.bl (!decide (V.int ((j : Int) * ((2 ^ g : Nat) : Int)) = V.int (pl : Int))) = V.bl false
        rw [decide_eq_true e2]
        rfl
      -- place = place + size(part[0]); last = part[0]
      refine ⟨_, rfl, _, rfl, t, _, 0, _, rfl, rfl, hT, a0, g, rfl, by omega, _, _, rfl, rfl, ?_⟩
      refine ⟨_, rfl, t, _, 0, _, rfl, rfl, hT, a0, ?_⟩
      exact ⟨pl + 2 ^ g, g, _, rfl, rfl, hok, by omega⟩
    · rintro σ _ ⟨pl, la, y7, rfl, rfl, hok, _⟩
      rw [List.length_map, Paired.length h2, List.drop_length] at hok
      have hpl : pl = n := hok
      subst hpl
      -- found.append((0, 0))
      refine ⟨_, rfl, .inl ⟨rfl, _, SqL.of h1⟩, by show 2 ≤ sizeLine; decide, fun u hu => ?_⟩
      have h1' : (upd H1 u (.tup [.int 0, .int 0])) p = some (.lst (ts.map V.ref)) := by
        rw [upd_ne (ne_of_none h1 hu)]
        exact h1
      have hlen : (ts.map V.ref).length < sizeLine := by
        rw [List.length_map, Paired.length h2]
        have := parts_len pl
        exact small (by omega)
      refine ⟨p, _, _, rfl, rfl, h1', hlen, ?_⟩
      generalize upd (upd H1 u (.tup [.int 0, .int 0])) p (.lst (ts.map V.ref ++ [.ref u])) = H2
      -- return place == count and parted(count) == law_parted(count)
      refine ⟨_, rfl, _, rfl, rfl, true, ?_, iteT ?_⟩
      · rw [decide_eq_true rfl]
      refine ⟨_, rfl, pl, rfl, hn, fun H3 p3 sm3 hp3 hl3 => ?_⟩
      refine ⟨_, rfl, pl, rfl, hn, fun H4 p4 sm4 hp4 hl4 => ?_⟩
      refine ⟨_, _, (hl3.same sm4).dp, hl4.dp, pairs_shaped _, pairs_shaped _, ?_⟩
      rw [SeqAt.eqv_refl _ (SeqAt.canLay_of_shaped (pairs_shaped _))]
      exact q _
end
/-! ### the top -/
theorem all_mk {l : PySem.W.OpenLaw} {w : World} {K : PySem.W.Frag} {h : Heap} {mg : Str → Option Value} {fa : Addr} (X : K.In h) (G : h.Ns mainGlobals mg) (hfa : mg "law" = some (.ref fa))
    {f_digits : Addr} {od_digits an_digits : Option Addr} {sl_digits : Array (Option Value)} {oc_digits kV_digits dc_digits pm_digits cd_digits ct_digits : Value}
    (a_digits : PySem.W.nsIn K mainGlobals "digits" = some (some (.ref f_digits)))
    (l_digits : K.lookup f_digits = some ⟨oc_digits, od_digits, .func (PySem.W.fnOf "digits" "digits" (defArgs s_digits) (defBody s_digits) (defScope s_digits) .none kV_digits dc_digits pm_digits an_digits cd_digits ct_digits), sl_digits⟩)
    (c_digits : PySem.W.codeIn K cd_digits "digits" = true)
    (k_digits : PySem.W.keepIn K (.ref f_digits) = true)
    {f_parted : Addr} {od_parted an_parted : Option Addr} {sl_parted : Array (Option Value)} {oc_parted kV_parted dc_parted pm_parted cd_parted ct_parted : Value}
    (a_parted : PySem.W.nsIn K mainGlobals "parted" = some (some (.ref f_parted)))
    (l_parted : K.lookup f_parted = some ⟨oc_parted, od_parted, .func (PySem.W.fnOf "parted" "parted" (defArgs s_parted) (defBody s_parted) (defScope s_parted) .none kV_parted dc_parted pm_parted an_parted cd_parted ct_parted), sl_parted⟩)
    (c_parted : PySem.W.codeIn K cd_parted "parted" = true)
    (k_parted : PySem.W.keepIn K (.ref f_parted) = true)
    {f_law_cell_at : Addr} {od_law_cell_at an_law_cell_at : Option Addr} {sl_law_cell_at : Array (Option Value)} {oc_law_cell_at kV_law_cell_at dc_law_cell_at pm_law_cell_at cd_law_cell_at ct_law_cell_at : Value}
    (a_law_cell_at : PySem.W.nsIn K mainGlobals "_law_cell_at" = some (some (.ref f_law_cell_at)))
    (l_law_cell_at : K.lookup f_law_cell_at = some ⟨oc_law_cell_at, od_law_cell_at, .func (PySem.W.fnOf "_law_cell_at" "_law_cell_at" (defArgs s_law_cell_at) (defBody s_law_cell_at) (defScope s_law_cell_at) .none kV_law_cell_at dc_law_cell_at pm_law_cell_at an_law_cell_at cd_law_cell_at ct_law_cell_at), sl_law_cell_at⟩)
    (c_law_cell_at : PySem.W.codeIn K cd_law_cell_at "_law_cell_at" = true)
    (k_law_cell_at : PySem.W.keepIn K (.ref f_law_cell_at) = true)
    {f_law_whole : Addr} {od_law_whole an_law_whole : Option Addr} {sl_law_whole : Array (Option Value)} {oc_law_whole kV_law_whole dc_law_whole pm_law_whole cd_law_whole ct_law_whole : Value}
    (a_law_whole : PySem.W.nsIn K mainGlobals "_law_whole" = some (some (.ref f_law_whole)))
    (l_law_whole : K.lookup f_law_whole = some ⟨oc_law_whole, od_law_whole, .func (PySem.W.fnOf "_law_whole" "_law_whole" (defArgs s_law_whole) (defBody s_law_whole) (defScope s_law_whole) .none kV_law_whole dc_law_whole pm_law_whole an_law_whole cd_law_whole ct_law_whole), sl_law_whole⟩)
    (c_law_whole : PySem.W.codeIn K cd_law_whole "_law_whole" = true)
    (k_law_whole : PySem.W.keepIn K (.ref f_law_whole) = true)
    {f_law_digits : Addr} {od_law_digits an_law_digits : Option Addr} {sl_law_digits : Array (Option Value)} {oc_law_digits kV_law_digits dc_law_digits pm_law_digits cd_law_digits ct_law_digits : Value}
    (a_law_digits : PySem.W.nsIn K mainGlobals "_law_digits" = some (some (.ref f_law_digits)))
    (l_law_digits : K.lookup f_law_digits = some ⟨oc_law_digits, od_law_digits, .func (PySem.W.fnOf "_law_digits" "_law_digits" (defArgs s_law_digits) (defBody s_law_digits) (defScope s_law_digits) .none kV_law_digits dc_law_digits pm_law_digits an_law_digits cd_law_digits ct_law_digits), sl_law_digits⟩)
    (c_law_digits : PySem.W.codeIn K cd_law_digits "_law_digits" = true)
    (k_law_digits : PySem.W.keepIn K (.ref f_law_digits) = true)
    {f_law_size : Addr} {od_law_size an_law_size : Option Addr} {sl_law_size : Array (Option Value)} {oc_law_size kV_law_size dc_law_size pm_law_size cd_law_size ct_law_size : Value}
    (a_law_size : PySem.W.nsIn K mainGlobals "_law_size" = some (some (.ref f_law_size)))
    (l_law_size : K.lookup f_law_size = some ⟨oc_law_size, od_law_size, .func (PySem.W.fnOf "_law_size" "_law_size" (defArgs s_law_size) (defBody s_law_size) (defScope s_law_size) .none kV_law_size dc_law_size pm_law_size an_law_size cd_law_size ct_law_size), sl_law_size⟩)
    (c_law_size : PySem.W.codeIn K cd_law_size "_law_size" = true)
    (k_law_size : PySem.W.keepIn K (.ref f_law_size) = true)
    {f_law_parted : Addr} {od_law_parted an_law_parted : Option Addr} {sl_law_parted : Array (Option Value)} {oc_law_parted kV_law_parted dc_law_parted pm_law_parted cd_law_parted ct_law_parted : Value}
    (a_law_parted : PySem.W.nsIn K mainGlobals "_law_parted" = some (some (.ref f_law_parted)))
    (l_law_parted : K.lookup f_law_parted = some ⟨oc_law_parted, od_law_parted, .func (PySem.W.fnOf "_law_parted" "_law_parted" (defArgs s_law_parted) (defBody s_law_parted) (defScope s_law_parted) .none kV_law_parted dc_law_parted pm_law_parted an_law_parted cd_law_parted ct_law_parted), sl_law_parted⟩)
    (c_law_parted : PySem.W.codeIn K cd_law_parted "_law_parted" = true)
    (k_law_parted : PySem.W.keepIn K (.ref f_law_parted) = true)
    {f_law : Addr} {od_law an_law : Option Addr} {sl_law : Array (Option Value)} {oc_law kV_law dc_law pm_law cd_law ct_law : Value}
    (a_law : PySem.W.nsIn K mainGlobals "law" = some (some (.ref f_law)))
    (l_law : K.lookup f_law = some ⟨oc_law, od_law, .func (PySem.W.fnOf "law" "law" (defArgs s_law) (defBody s_law) (defScope s_law) .none kV_law dc_law pm_law an_law cd_law ct_law), sl_law⟩)
    (c_law : PySem.W.codeIn K cd_law "law" = true)
    (k_law : PySem.W.keepIn K (.ref f_law) = true)
    (z_len : PySem.W.nsIn K mainGlobals "len" = some none)
    (z_range : PySem.W.nsIn K mainGlobals "range" = some none)
    (z_reversed : PySem.W.nsIn K mainGlobals "reversed" = some none)
    (z_isinstance : PySem.W.nsIn K mainGlobals "isinstance" = some none)
    (z_int : PySem.W.nsIn K mainGlobals "int" = some none)
    (z_bool : PySem.W.nsIn K mainGlobals "bool" = some none)
    (z_list : PySem.W.nsIn K mainGlobals "list" = some none)
    (z_tuple : PySem.W.nsIn K mainGlobals "tuple" = some none)
    (z_max : PySem.W.nsIn K mainGlobals "max" = some none)
    : ∃ fd : FuncData, (∀ (s : Shared) (v : Value), BindsTo s fd ⟨[v], []⟩ [("_law_script", v)]) ∧ ∀ base : Heap, K.In base → base.Ns mainGlobals mg → FnOk l.prog w K mg base CX0 3 fa fd ["_law_script"] (spLaw K) := by
  have e := hfa.symm.trans (PySem.W.mg_of X G a_law)
  cases e
  have F_digits := fun_mk (st := s_digits) l_digits c_digits k_digits
  have m_digits := PySem.W.mg_of X G a_digits
  have b_digits := F_digits.binds (ps := ["count"]) fun _ _ _ _ _ _ us hl => match us, hl with | [_], _ => rfl
  have D_digits : Dfn K mg "digits" s_digits ["count"] := ⟨_, _, F_digits, m_digits, b_digits⟩
  have F_parted := fun_mk (st := s_parted) l_parted c_parted k_parted
  have m_parted := PySem.W.mg_of X G a_parted
  have b_parted := F_parted.binds (ps := ["count"]) fun _ _ _ _ _ _ us hl => match us, hl with | [_], _ => rfl
  have D_parted : Dfn K mg "parted" s_parted ["count"] := ⟨_, _, F_parted, m_parted, b_parted⟩
  have F_law_cell_at := fun_mk (st := s_law_cell_at) l_law_cell_at c_law_cell_at k_law_cell_at
  have m_law_cell_at := PySem.W.mg_of X G a_law_cell_at
  have b_law_cell_at := F_law_cell_at.binds (ps := ["_law_script", "_law_k"]) fun _ _ _ _ _ _ us hl => match us, hl with | [_, _], _ => rfl
  have D_law_cell_at : Dfn K mg "_law_cell_at" s_law_cell_at ["_law_script", "_law_k"] := ⟨_, _, F_law_cell_at, m_law_cell_at, b_law_cell_at⟩
  have F_law_whole := fun_mk (st := s_law_whole) l_law_whole c_law_whole k_law_whole
  have m_law_whole := PySem.W.mg_of X G a_law_whole
  have b_law_whole := F_law_whole.binds (ps := ["_law_found"]) fun _ _ _ _ _ _ us hl => match us, hl with | [_], _ => rfl
  have D_law_whole : Dfn K mg "_law_whole" s_law_whole ["_law_found"] := ⟨_, _, F_law_whole, m_law_whole, b_law_whole⟩
  have F_law_digits := fun_mk (st := s_law_digits) l_law_digits c_law_digits k_law_digits
  have m_law_digits := PySem.W.mg_of X G a_law_digits
  have b_law_digits := F_law_digits.binds (ps := ["_law_count"]) fun _ _ _ _ _ _ us hl => match us, hl with | [_], _ => rfl
  have D_law_digits : Dfn K mg "_law_digits" s_law_digits ["_law_count"] := ⟨_, _, F_law_digits, m_law_digits, b_law_digits⟩
  have F_law_size := fun_mk (st := s_law_size) l_law_size c_law_size k_law_size
  have m_law_size := PySem.W.mg_of X G a_law_size
  have b_law_size := F_law_size.binds (ps := ["_law_height"]) fun _ _ _ _ _ _ us hl => match us, hl with | [_], _ => rfl
  have D_law_size : Dfn K mg "_law_size" s_law_size ["_law_height"] := ⟨_, _, F_law_size, m_law_size, b_law_size⟩
  have F_law_parted := fun_mk (st := s_law_parted) l_law_parted c_law_parted k_law_parted
  have m_law_parted := PySem.W.mg_of X G a_law_parted
  have b_law_parted := F_law_parted.binds (ps := ["_law_count"]) fun _ _ _ _ _ _ us hl => match us, hl with | [_], _ => rfl
  have D_law_parted : Dfn K mg "_law_parted" s_law_parted ["_law_count"] := ⟨_, _, F_law_parted, m_law_parted, b_law_parted⟩
  have F_law := fun_mk (st := s_law) l_law c_law k_law
  have B : Bi mg := ⟨PySem.W.mg_none_of X G z_len, PySem.W.mg_none_of X G z_range, PySem.W.mg_none_of X G z_reversed, PySem.W.mg_none_of X G z_isinstance, PySem.W.mg_none_of X G z_int, PySem.W.mg_none_of X G z_bool, PySem.W.mg_none_of X G z_list, PySem.W.mg_none_of X G z_tuple, PySem.W.mg_none_of X G z_max⟩
  refine ⟨PySem.W.fnOf "law" "law" (defArgs s_law) (defBody s_law) (defScope s_law) .none kV_law dc_law pm_law an_law cd_law ct_law, fun s v => .of_eq rfl, fun base _ _ => ?_⟩
  have C1 := ok_digits (P := l.prog) (w := w) (base := base) D_digits
  have C2 := ok_parted D_parted B C1
  have C3 := ok_cell (P := l.prog) (w := w) (base := base) D_law_cell_at B
  have C4 := ok_whole (P := l.prog) (w := w) (base := base) D_law_whole B
  have C5 := ok_law_digits (P := l.prog) (w := w) (base := base) D_law_digits
  have C6 := ok_size (P := l.prog) (w := w) (base := base) D_law_size B
  have C7 := ok_law_parted D_law_parted B C5 C6
  exact ok_law F_law B C1 C2 C3 C4 C5 C6 C7

end My
open PySem PySem.W PyProof.Rows
set_option maxRecDepth 100000 in
set_option maxHeartbeats 0 in
theorem PySem.Challenge.cw_twinsum_k01_digits_and_parts_holds : PySem.Challenge.rw_twinsum_k01_digits_and_parts.Holds := by
  w_on; o_law; k_head; (case hw => w_witness2)
  k_fill
  refine L2.walk_of (l := PySem.Challenge.rw_twinsum_k01_digits_and_parts) (n := 63) (k := 3) (x := "_law_script") (CX := fun _ => L2.CX0) (sp := fun w => My.spLaw _) rfl (by decide) rfl ⟨rfl, by decide, by decide⟩ (fun w h Y => PySem.W.kIn_of Y) ?F (fun _ _ a ns hl _ hS => ⟨a, ns, rfl, hS, fun _ => rfl⟩) (fun _ _ _ _ _ h => h)
  case F =>
    intro w mg fa h KX G hmg
    refine' My.all_mk KX G hmg ?a_digits ?l_digits ?c_digits ?k_digits ?a_parted ?l_parted ?c_parted ?k_parted ?a_law_cell_at ?l_law_cell_at ?c_law_cell_at ?k_law_cell_at ?a_law_whole ?l_law_whole ?c_law_whole ?k_law_whole ?a_law_digits ?l_law_digits ?c_law_digits ?k_law_digits ?a_law_size ?l_law_size ?c_law_size ?k_law_size ?a_law_parted ?l_law_parted ?c_law_parted ?k_law_parted ?a_law ?l_law ?c_law ?k_law ?z_len ?z_range ?z_reversed ?z_isinstance ?z_int ?z_bool ?z_list ?z_tuple ?z_max
    (case a_digits => first | k_is | fail "fact a_digits")
    (case l_digits => first | k_is | fail "fact l_digits")
    (case c_digits => first | k_is | fail "fact c_digits")
    (case k_digits => first | k_is | fail "fact k_digits")
    (case a_parted => first | k_is | fail "fact a_parted")
    (case l_parted => first | k_is | fail "fact l_parted")
    (case c_parted => first | k_is | fail "fact c_parted")
    (case k_parted => first | k_is | fail "fact k_parted")
    (case a_law_cell_at => first | k_is | fail "fact a_law_cell_at")
    (case l_law_cell_at => first | k_is | fail "fact l_law_cell_at")
    (case c_law_cell_at => first | k_is | fail "fact c_law_cell_at")
    (case k_law_cell_at => first | k_is | fail "fact k_law_cell_at")
    (case a_law_whole => first | k_is | fail "fact a_law_whole")
    (case l_law_whole => first | k_is | fail "fact l_law_whole")
    (case c_law_whole => first | k_is | fail "fact c_law_whole")
    (case k_law_whole => first | k_is | fail "fact k_law_whole")
    (case a_law_digits => first | k_is | fail "fact a_law_digits")
    (case l_law_digits => first | k_is | fail "fact l_law_digits")
    (case c_law_digits => first | k_is | fail "fact c_law_digits")
    (case k_law_digits => first | k_is | fail "fact k_law_digits")
    (case a_law_size => first | k_is | fail "fact a_law_size")
    (case l_law_size => first | k_is | fail "fact l_law_size")
    (case c_law_size => first | k_is | fail "fact c_law_size")
    (case k_law_size => first | k_is | fail "fact k_law_size")
    (case a_law_parted => first | k_is | fail "fact a_law_parted")
    (case l_law_parted => first | k_is | fail "fact l_law_parted")
    (case c_law_parted => first | k_is | fail "fact c_law_parted")
    (case k_law_parted => first | k_is | fail "fact k_law_parted")
    (case a_law => first | k_is | fail "fact a_law")
    (case l_law => first | k_is | fail "fact l_law")
    (case c_law => first | k_is | fail "fact c_law")
    (case k_law => first | k_is | fail "fact k_law")
    (case z_len => first | k_is | fail "fact z_len")
    (case z_range => first | k_is | fail "fact z_range")
    (case z_reversed => first | k_is | fail "fact z_reversed")
    (case z_isinstance => first | k_is | fail "fact z_isinstance")
    (case z_int => first | k_is | fail "fact z_int")
    (case z_bool => first | k_is | fail "fact z_bool")
    (case z_list => first | k_is | fail "fact z_list")
    (case z_tuple => first | k_is | fail "fact z_tuple")
    (case z_max => first | k_is | fail "fact z_max")

