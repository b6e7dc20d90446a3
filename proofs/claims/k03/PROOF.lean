import PyProof.Rows.All
import Wide.All
import OpenK.AllK
import Wide.FinOn
import HandS.ForMost
import HandS.IsInst
import HandS.Defaults
import HandS.Walk
import HandS.Codes
import HandS.RevRange
import HandS.ForExc
import KE.GoesMore
import HandS.ExcIs
import HandS.RaiseMore
import HandS.FStr
import HandS.ExcValue
import KE.RegKIsAll
import PySem.Challenge.RW_hillrows_k03_ways
set_option Elab.async false
set_option linter.all false
set_option maxRecDepth 100000
namespace Hr
/-- the ways to the ground with k signs from the height h, none above T (for h at most T) -/
def W (T : Nat) : Nat → Nat → Nat
  | 0, h => if h = 0 then 1 else 0
  | k + 1, h => (if h = 0 then 0 else W T k (h - 1)) + (if h < T then W T k (h + 1) else 0)
theorem W_zero (T : Nat) : ∀ k h, k < h → W T k h = 0
  | 0, h, e => by
    unfold W
    rw [if_neg (by omega)]
  | k + 1, h, e => by
    unfold W
    rw [if_neg (show ¬ h = 0 by omega), W_zero T k (h - 1) (by omega), W_zero T k (h + 1) (by omega)]
    split <;> rfl
theorem W_same {T T' : Nat} (hT : T ≤ T') : ∀ k h, h ≤ T → k + h ≤ 2 * T + 1 → W T k h = W T' k h
  | 0, h, _, _ => by simp only [W]
  | k + 1, h, e, l => by
    simp only [W]
    by_cases h0 : h = 0
    · rw [if_pos h0, if_pos h0]
      by_cases hl : h < T
      · rw [if_pos hl, if_pos (show h < T' by omega), W_same hT k (h + 1) (by omega) (by omega)]
      · rw [if_neg hl]
        by_cases hl' : h < T'
        · rw [if_pos hl', W_zero T' k (h + 1) (by omega)]
        · rw [if_neg hl']
    · rw [if_neg h0, if_neg h0, W_same hT k (h - 1) (by omega) (by omega)]
      by_cases hl : h < T
      · rw [if_pos hl, if_pos (show h < T' by omega), W_same hT k (h + 1) (by omega) (by omega)]
      · rw [if_neg hl]
        by_cases hl' : h < T'
        · rw [if_pos hl', W_zero T' k (h + 1) (by omega)]
        · rw [if_neg hl']
/-- one row of the table -/
def rowW (T k : Nat) : List Int := (List.range (T + 1)).map fun h => ((W T k h : Nat) : Int)
theorem rowW_len (T k : Nat) : (rowW T k).length = T + 1 := by
  unfold rowW
  rw [List.length_map, List.length_range]
theorem rowW_get {T k h : Nat} (e : h ≤ T) : (rowW T k)[h]? = some ((W T k h : Nat) : Int) := by
  unfold rowW
  rw [List.getElem?_map, List.getElem?_range (by omega)]
  rfl
theorem rowW_zero (T : Nat) : rowW T 0 = 1 :: List.replicate T 0 := by
  unfold rowW
  apply List.ext_getElem?
  intro i
  rw [List.getElem?_map]
  cases i with
  | zero => rw [List.getElem?_range (by omega)]; rfl
  | succ i =>
    rw [List.getElem?_cons_succ]
    by_cases h : i < T
    · rw [List.getElem?_range (by omega), List.getElem?_replicate, if_pos h]
      rfl
    · rw [List.getElem?_eq_none (by rw [List.length_range]; omega), List.getElem?_replicate, if_neg h]
      rfl
/-- the padded row -/
def padW (l : List Int) : List Int := 0 :: (l ++ [0])
theorem pad_lo {T k h : Nat} (e : h ≤ T) : (padW (rowW T k))[h]? = some (((if h = 0 then 0 else W T k (h - 1) : Nat)) : Int) := by
  unfold padW
  cases h with
  | zero => rfl
  | succ h =>
    rw [List.getElem?_cons_succ, List.getElem?_append_left (by rw [rowW_len]; omega), rowW_get (by omega)]
    rfl
theorem pad_hi {T k h : Nat} (e : h ≤ T) : (padW (rowW T k))[h + 2]? = some (((if h < T then W T k (h + 1) else 0 : Nat)) : Int) := by
  unfold padW
  rw [List.getElem?_cons_succ]
  by_cases hl : h < T
  · rw [List.getElem?_append_left (by rw [rowW_len]; omega), rowW_get (by omega), if_pos hl]
  · have e : h = T := by omega
    subst e
    rw [List.getElem?_append_right (by rw [rowW_len]; omega), rowW_len, Nat.sub_self, if_neg hl]
    rfl
theorem row_step {T k h : Nat} (e : h ≤ T) : ∃ a b : Int, (padW (rowW T k))[h]? = some a ∧ (padW (rowW T k))[h + 2]? = some b ∧ (rowW T (k + 1))[h]? = some (a + b) := by
  refine ⟨_, _, pad_lo e, pad_hi e, ?_⟩
  rw [rowW_get e]
  simp only [W]
  rw [Int.natCast_add]
theorem W_le (T : Nat) : ∀ k h, W T k h ≤ 2 ^ k
  | 0, h => by
    unfold W
    split <;> decide
  | k + 1, h => by
    have a := W_le T k (h - 1)
    have b := W_le T k (h + 1)
    unfold W
    rw [Nat.pow_succ]
    split <;> split <;> omega

/-! ### hill rows by growing beginnings -/
section
variable {α : Type} (d u : α → α)
/-- the ceiling: none or some k -/
def under : Option Nat → Nat → Bool
  | none, _ => true
  | some c, h => decide (h < c)
def low (h : Nat) : Option Nat → Nat
  | none => h
  | some c => min h c
def grow1 (c : Option Nat) (p : α × Nat) : List (α × Nat) :=
  (if 0 < p.2 then [(d p.1, p.2 - 1)] else []) ++ (if under c p.2 = true then [(u p.1, p.2 + 1)] else [])
def growAll (c : Option Nat) (l : List (α × Nat)) : List (α × Nat) := l.flatMap (grow1 d u c)
def grown (c : Option Nat) (a : α) : Nat → List (α × Nat)
  | 0 => [(a, 0)]
  | k + 1 => growAll d u c (grown c a k)
def cnt (h : Nat) (l : List (α × Nat)) : Nat := (l.filter fun p => p.2 == h).length
theorem cnt_nil (h : Nat) : cnt h ([] : List (α × Nat)) = 0 := rfl
theorem cnt_append (h : Nat) (l r : List (α × Nat)) : cnt h (l ++ r) = cnt h l + cnt h r := by
  unfold cnt
  rw [List.filter_append, List.length_append]
theorem cnt_one (h : Nat) (a : α) (k : Nat) : cnt h [(a, k)] = if k = h then 1 else 0 := by
  unfold cnt
  by_cases e : k = h
  · rw [if_pos e, List.filter_cons_of_pos (by simp [e])]
    rfl
  · rw [if_neg e, List.filter_cons_of_neg (by simp [e])]
    rfl
theorem cnt_cons (h : Nat) (p : α × Nat) (l : List (α × Nat)) : cnt h (p :: l) = (if p.2 = h then 1 else 0) + cnt h l := by
  rw [← List.singleton_append, cnt_append, show cnt h [p] = if p.2 = h then 1 else 0 from cnt_one h p.1 p.2]
theorem cnt_grow1 (c : Option Nat) (h : Nat) (p : α × Nat) : cnt h (grow1 d u c p) = (if p.2 = h + 1 then 1 else 0) + (if 0 < h ∧ under c (h - 1) = true ∧ p.2 = h - 1 then 1 else 0) := by
  unfold grow1
  rw [cnt_append]
  congr 1
  · by_cases e : 0 < p.2
    · rw [if_pos e, cnt_one]
      by_cases e2 : p.2 = h + 1
      · rw [if_pos e2, if_pos (by omega)]
      · rw [if_neg e2, if_neg (by omega)]
    · rw [if_neg e, cnt_nil, if_neg (by omega)]
  · by_cases e : under c p.2 = true
    · rw [if_pos e, cnt_one]
      by_cases e2 : p.2 + 1 = h
      · have : h - 1 = p.2 := by omega
        rw [if_pos e2, if_pos ⟨by omega, by rw [this]; exact e, by omega⟩]
      · rw [if_neg e2, if_neg (by omega)]
    · rw [if_neg e, cnt_nil]
      by_cases e2 : 0 < h ∧ under c (h - 1) = true ∧ p.2 = h - 1
      · rw [← e2.2.2] at e2
        exact absurd e2.2.1 e
      · rw [if_neg e2]
theorem cnt_growAll (c : Option Nat) (h : Nat) : ∀ l : List (α × Nat), cnt h (growAll d u c l) = cnt (h + 1) l + (if 0 < h ∧ under c (h - 1) = true then cnt (h - 1) l else 0)
  | [] => by
    show 0 = 0 + (if _ then 0 else 0)
    split <;> rfl
  | p :: l => by
    have e : growAll d u c (p :: l) = grow1 d u c p ++ growAll d u c l := rfl
    rw [e, cnt_append, cnt_grow1, cnt_growAll c h l, cnt_cons, cnt_cons]
    by_cases e1 : 0 < h ∧ under c (h - 1) = true
    · rw [if_pos e1, if_pos e1]
      by_cases e2 : p.2 = h - 1
      · rw [if_pos (show 0 < h ∧ under c (h - 1) = true ∧ p.2 = h - 1 from ⟨e1.1, e1.2, e2⟩), if_pos e2]
        omega
      · rw [if_neg (show ¬ (0 < h ∧ under c (h - 1) = true ∧ p.2 = h - 1) from fun z => e2 z.2.2), if_neg e2]
        omega
    · rw [if_neg e1, if_neg e1, if_neg (show ¬ (0 < h ∧ under c (h - 1) = true ∧ p.2 = h - 1) from fun z => e1 ⟨z.1, z.2.1⟩)]
      omega
/-- no row grown in k signs is higher than k -/
theorem cnt_grown (c : Option Nat) (a : α) (T : Nat) (hT : ∀ k, c = some k → T = k) : ∀ k h, (c = none → k + h ≤ 2 * T + 1) → h ≤ T → cnt h (grown d u c a k) = W T k h
  | 0, h, _, _ => by
    show cnt h [(a, 0)] = _
    rw [cnt_one]
    unfold W
    by_cases e : h = 0
    · rw [if_pos e, if_pos e.symm]
    · rw [if_neg e, if_neg (fun z => e z.symm)]
  | k + 1, h, hc, hl => by
    show cnt h (growAll d u c (grown d u c a k)) = _
    rw [cnt_growAll]
    simp only [W]
    rw [Nat.add_comm]
    congr 1
    · by_cases e0 : h = 0
      · rw [if_pos e0, if_neg (by omega)]
      · rw [if_neg e0]
        have hu : under c (h - 1) = true := by
          cases c with
          | none => rfl
          | some k =>
            have := hT k rfl
            unfold under
            exact decide_eq_true (by omega)
        rw [if_pos ⟨by omega, hu⟩, cnt_grown c a T hT k (h - 1) (fun z => by have := hc z; omega) (by omega)]
    · by_cases e : h < T
      · rw [if_pos e, cnt_grown c a T hT k (h + 1) (fun z => by have := hc z; omega) (by omega)]
      · rw [if_neg e]
        cases c with
        | none =>
          have z := hc rfl
          exact cnt_zero_len none a k (h + 1) (by omega)
        | some j =>
          have e3 := hT j rfl
          exact cnt_zero_top2 j a k (h + 1) (by omega)
where
  cnt_zero_len (c : Option Nat) (a : α) : ∀ k h, k < h → cnt h (grown d u c a k) = 0
    | 0, h, e => by
      show cnt h [(a, 0)] = 0
      rw [cnt_one, if_neg (by omega)]
    | k + 1, h, e => by
      show cnt h (growAll d u c (grown d u c a k)) = 0
      rw [cnt_growAll, cnt_zero_len c a k (h + 1) (by omega), cnt_zero_len c a k (h - 1) (by omega)]
      split <;> rfl
  cnt_zero_top2 (j : Nat) (a : α) : ∀ k h, j < h → cnt h (grown d u (some j) a k) = 0
    | 0, h, e => by
      show cnt h [(a, 0)] = 0
      rw [cnt_one, if_neg (by omega)]
    | k + 1, h, e => by
      show cnt h (growAll d u (some j) (grown d u (some j) a k)) = 0
      rw [cnt_growAll, cnt_zero_top2 j a k (h + 1) (by omega), if_neg (fun z => ?_)]
      have := z.2
      unfold under at this
      have := of_decide_eq_true this
      omega
theorem grown_len (c : Option Nat) (a : α) : ∀ k, (grown d u c a k).length ≤ 2 ^ k
  | 0 => Nat.le_refl 1
  | k + 1 => by
    have ih := grown_len c a k
    have g : ∀ l : List (α × Nat), (growAll d u c l).length ≤ 2 * l.length := by
      intro l
      induction l with
      | nil => exact Nat.le_refl _
      | cons p l il =>
        have e : growAll d u c (p :: l) = grow1 d u c p ++ growAll d u c l := rfl
        rw [e, List.length_append, List.length_cons]
        have : (grow1 d u c p).length ≤ 2 := by
          unfold grow1
          rw [List.length_append]
          split <;> split <;> simp
        omega
    have := g (grown d u c a k)
    show (growAll d u c (grown d u c a k)).length ≤ _
    rw [Nat.pow_succ]
    omega
/-- as many as the table counts -/
theorem counted_ok (c : Option Nat) (a : α) (n : Nat) : cnt 0 (grown d u c a (2 * n)) = W (low n c) (2 * n) 0 := by
  cases c with
  | none => exact cnt_grown d u none a n (fun _ z => nomatch z) _ _ (fun _ => by omega) (Nat.zero_le _)
  | some j =>
    rw [cnt_grown d u (some j) a j (fun k z => by cases z; rfl) _ _ (fun z => nomatch z) (Nat.zero_le _)]
    show W j (2 * n) 0 = W (min n j) (2 * n) 0
    by_cases h : j ≤ n
    · rw [Nat.min_eq_right h]
    · rw [Nat.min_eq_left (by omega)]
      exact (W_same (by omega) _ _ (Nat.zero_le _) (by omega)).symm
end
end Hr
/-! ### defs of the text, by what they promise -/
namespace Hr
open PySem PySem.Spec PyProof.Rows L2
theorem same_upd {H : Hp} {p : Addr} {o : HO} (h : H p = none) : Same H (upd H p o) := fun b x e => by
  rw [upd_ne (ne_of_none e h)]
  exact e
/-- what was new may change -/
theorem same_updN {H0 H : Hp} {p : Addr} {o : HO} (s : Same H0 H) (n : H0 p = none) : Same H0 (upd H p o) := fun b x e => by
  rw [upd_ne (ne_of_none e n)]
  exact s b x e
theorem sz {n : Nat} (h : n ≤ 1000000) : n ≤ sizeLine := Nat.le_trans h (by decide)
theorem szl {n : Nat} (h : n < 1000000) : n < sizeLine := Nat.lt_of_lt_of_le h (by decide)
section
variable (K : PySem.W.Frag) (mg : Str → Option Value)
structure Def (x : Str) (st : Stmt) (ps : List Str) : Prop where
  ex : ∃ (f : Addr) (fd : FuncData), Fun K x x st f fd ∧ mg x = some (.ref f) ∧ Binds K fd ps []
/-- a def whose last parameter is None where it is left out -/
structure DefD (x : Str) (st : Stmt) (ps : List Str) : Prop where
  ex : ∃ (f : Addr) (fd : FuncData), FunD K x x (defArgs st) (defBody st) (defScope st) [V.non] [] f fd ∧ mg x = some (.ref f) ∧ Binds K fd ps [] ∧ ∃ ds, Vals [V.non] ds ∧ Binds K fd ps ds
/-- a def whose last parameter is dv where it is left out -/
structure DefV (x : Str) (st : Stmt) (ps : List Str) (dv : V) : Prop where
  ex : ∃ (f : Addr) (fd : FuncData), FunD K x x (defArgs st) (defBody st) (defScope st) [dv] [] f fd ∧ mg x = some (.ref f) ∧ Binds K fd ps [] ∧ ∃ ds, Vals [dv] ds ∧ Binds K fd ps ds
structure Cal (CX : CXT) (P : Program) (w : World) (base : Heap) (k : Nat) (x : Str) (dvs : List V) (sp : Sp) : Prop where
  ex : ∃ (f : Addr) (fd : FuncData) (ps : List Str) (ds : List Value), FnOk P w K mg base CX k f fd ps sp ∧ mg x = some (.ref f) ∧ PySem.W.keepIn K (.ref f) = true ∧ Binds K fd ps ds ∧ Vals dvs ds
end
section
variable {P : Program} {w : World} {K : PySem.W.Frag} {mg : Str → Option Value} {base : Heap}
theorem Def.cal {x : Str} {st : Stmt} {N ps : List Str} {k : Nat} {sp : Sp} (D : Def K mg x st ps) (S : FnScope N ps (defScope st)) (len : ∀ vs H Q E, sp vs H Q E → vs.length = ps.length)
    (hbody : ∀ (f : Addr) (cdv : Value) (A : Around) (outer : List Env) (s : Shared) (H : Hp) (vs : List V) (Q : VK) (E : XK), Room k (A.deeper (envOfC x (defScope st) s.heap.objs.size f cdv)) → sp vs H Q E →
      ∃ t, PSs (cxOf CX0 P w K mg base N x (defScope st) f cdv A outer s H E).nox (defBody st) t ∧ t { nx := fun _ H' => Q .non H', rt := Q } (start N vs) H) : Cal K mg CX0 P w base (k + 1) x [] sp := by
  obtain ⟨f, fd, F, hm, b⟩ := D.ex
  exact ⟨f, fd, ps, [], F.ok S len (hbody f), hm, F.kp, b, .nil⟩
theorem DefD.ok {x : Str} {st : Stmt} {N ps : List Str} {k : Nat} {sp : Sp} (D : DefD K mg x st ps) (S : FnScope N ps (defScope st)) (len : ∀ vs H Q E, sp vs H Q E → vs.length = ps.length)
    (hbody : ∀ (f : Addr) (cdv : Value) (A : Around) (outer : List Env) (s : Shared) (H : Hp) (vs : List V) (Q : VK) (E : XK), Room k (A.deeper (envOfC x (defScope st) s.heap.objs.size f cdv)) → sp vs H Q E →
      ∃ t, PSs (cxOf CX0 P w K mg base N x (defScope st) f cdv A outer s H E).nox (defBody st) t ∧ t { nx := fun _ H' => Q .non H', rt := Q } (start N vs) H) :
    Cal K mg CX0 P w base (k + 1) x [] sp ∧ Cal K mg CX0 P w base (k + 1) x [.non] sp := by
  obtain ⟨f, fd, F, hm, b, ds, vd, b2⟩ := D.ex
  have G : FnOk P w K mg base CX0 (k + 1) f fd ps sp := F.ok S len fun cdv A outer s H vs Q E hr hsp => by
    obtain ⟨t, h, q⟩ := hbody f cdv A outer s H vs Q E hr hsp
    exact ⟨t, h.nox, q⟩
  exact ⟨⟨f, fd, ps, [], G, hm, F.kp, b, .nil⟩, ⟨f, fd, ps, ds, G, hm, F.kp, b2, vd⟩⟩
theorem DefV.ok {x : Str} {st : Stmt} {N ps : List Str} {dv : V} {k : Nat} {sp : Sp} (D : DefV K mg x st ps dv) (S : FnScope N ps (defScope st)) (len : ∀ vs H Q E, sp vs H Q E → vs.length = ps.length)
    (hbody : ∀ (f : Addr) (cdv : Value) (A : Around) (outer : List Env) (s : Shared) (H : Hp) (vs : List V) (Q : VK) (E : XK), Room k (A.deeper (envOfC x (defScope st) s.heap.objs.size f cdv)) → sp vs H Q E →
      ∃ t, PSs (cxOf CX0 P w K mg base N x (defScope st) f cdv A outer s H E).nox (defBody st) t ∧ t { nx := fun _ H' => Q .non H', rt := Q } (start N vs) H) :
    Cal K mg CX0 P w base (k + 1) x [] sp ∧ Cal K mg CX0 P w base (k + 1) x [dv] sp := by
  obtain ⟨f, fd, F, hm, b, ds, vd, b2⟩ := D.ex
  have G : FnOk P w K mg base CX0 (k + 1) f fd ps sp := F.ok S len fun cdv A outer s H vs Q E hr hsp => by
    obtain ⟨t, h, q⟩ := hbody f cdv A outer s H vs Q E hr hsp
    exact ⟨t, h.nox, q⟩
  exact ⟨⟨f, fd, ps, [], G, hm, F.kp, b, .nil⟩, ⟨f, fd, ps, ds, G, hm, F.kp, b2, vd⟩⟩
/-- a weaker promise -/
theorem Cal.imp {CX : CXT} {x : Str} {dvs : List V} {k : Nat} {sp sp' : Sp} (C : Cal K mg CX P w base k x dvs sp) (h : ∀ vs H Q E, sp' vs H Q E → sp vs H Q E) : Cal K mg CX P w base k x dvs sp' := by
  obtain ⟨f, fd, ps, ds, G, hm, kp, b, d⟩ := C.ex
  exact ⟨f, fd, ps, ds, G.imp h, hm, kp, b, d⟩
end
section
variable {X : Cx}
theorem pe_c {k j : Nat} {x : Str} {dvs : List V} {sp : Sp} {e : Expr} {es : List Expr} {t : TA} {p pos : Pos} (c : Cal X.K X.mg CX0 X.prog X.w X.base k x dvs sp) (hr : Room j X.A) (ha : PA X (e :: es) t) (hk : k ≤ j := by decide) (hg : Gl X x := by rfl)
    (hdb : (x == ("__debug__" : Str)) = false := by decide) (he : starEach (e :: es) X.env = (false, eval e X.env) :: starEach es X.env := by rfl) (hpl : (backTo pos (starEach es X.env)).any (·.1) = false := by rfl) :
    PE X (.Call (.Name x p) (e :: es) [] pos) (tCall sp dvs E0 t) := by
  obtain ⟨f, fd, ps, ds, F, hm, kp, b, d⟩ := c.ex
  exact pe_call F (hr.mono hk) hg hm kp b d pass0 ha hdb he hpl
end
/-- from what the top has left -/
theorem def_mk {K : PySem.W.Frag} {mg : Str → Option Value} {h : Heap} {x : Str} {st : Stmt} {ps : List Str} {f : Addr} {oc : Value} {od an : Option Addr} {osl : Array (Option Value)} {kV doc pm cdv ct : Value} (X : K.In h) (G : h.Ns mainGlobals mg)
    (hb : ∀ (kV doc pm : Value) (an : Option Addr) (cdv ct : Value) (us : List Value), us.length = ps.length → bindArgs (PySem.W.fnOf x x (defArgs st) (defBody st) (defScope st) .none kV doc pm an cdv ct) ⟨us, []⟩ = pure (ps.zip us))
    (a : PySem.W.nsIn K mainGlobals x = some (some (.ref f))) (l : K.lookup f = some ⟨oc, od, .func (PySem.W.fnOf x x (defArgs st) (defBody st) (defScope st) .none kV doc pm an cdv ct), osl⟩)
    (c : PySem.W.codeIn K cdv x = true) (k : PySem.W.keepIn K (.ref f) = true) : Def K mg x st ps :=
  have F := fun_mk (st := st) l c k
  ⟨f, _, F, PySem.W.mg_of X G a, F.binds hb⟩
theorem defD_mk {K : PySem.W.Frag} {mg : Str → Option Value} {h : Heap} {x : Str} {st : Stmt} {ps : List Str} {f T : Addr} {oc tc : Value} {od an td : Option Addr} {osl tsl : Array (Option Value)} {kV doc pm cdv ct : Value} {n m : Nat} (X : K.In h) (G : h.Ns mainGlobals mg)
    (hn : ps.length = m + 1)
    (hb2 : ∀ (T : Addr) (kV doc pm : Value) (an : Option Addr) (cdv ct : Value) (us its : List Value), us.length = m + 1 → its.length = 1 →
      ∃ k, bindArgs (PySem.W.fnOf x x (defArgs st) (defBody st) (defScope st) (.ref T) kV doc pm an cdv ct) ⟨us, []⟩ = seqItems? (.ref T) >>= k ∧ k (some its.toArray) = pure (ps.zip (us ++ its.drop 1)))
    (hb1 : ∀ (T : Addr) (kV doc pm : Value) (an : Option Addr) (cdv ct : Value) (us its : List Value), us.length = m → its.length = 1 →
      ∃ k, bindArgs (PySem.W.fnOf x x (defArgs st) (defBody st) (defScope st) (.ref T) kV doc pm an cdv ct) ⟨us, []⟩ = seqItems? (.ref T) >>= k ∧ k (some its.toArray) = pure (ps.zip (us ++ its.drop 0)))
    (a : PySem.W.nsIn K mainGlobals x = some (some (.ref f))) (l : K.lookup f = some ⟨oc, od, .func (PySem.W.fnOf x x (defArgs st) (defBody st) (defScope st) (.ref T) kV doc pm an cdv ct), osl⟩)
    (c : PySem.W.codeIn K cdv x = true) (k : PySem.W.keepIn K (.ref f) = true) (lT : K.lookup T = some ⟨tc, td, .seq #[.none] n, tsl⟩) : DefD K mg x st ps := by
  have F : FunD K x x (defArgs st) (defBody st) (defScope st) [V.non] [] f (PySem.W.fnOf x x (defArgs st) (defBody st) (defScope st) (.ref T) kV doc pm an cdv ct) :=
    ⟨⟨oc, od, .ref T, kV, doc, pm, an, cdv, ct, osl, rfl, l, c, .inr ⟨List.cons_ne_nil _ _, T, _, [.none], n, rfl, lT, rfl, .cons rfl .nil⟩, .inl rfl⟩, k⟩
  obtain ⟨d2, v2, b2⟩ := F.binds1 (m + 1) 1 (List.cons_ne_nil _ _) (by rw [hn]; rfl) (fun T kV doc pm an cdv ct us its h1 h2 => hb2 T kV doc pm an cdv ct us its h1 h2)
  obtain ⟨d1, v1, b1⟩ := F.binds1 m 0 (List.cons_ne_nil _ _) (by rw [hn]; rfl) (fun T kV doc pm an cdv ct us its h1 h2 => hb1 T kV doc pm an cdv ct us its h1 h2)
  have e2 : d2 = [] := by
    cases v2
    rfl
  subst e2
  exact ⟨f, _, F, PySem.W.mg_of X G a, b2, d1, v1, b1⟩
theorem defV_mk {K : PySem.W.Frag} {mg : Str → Option Value} {h : Heap} {x : Str} {st : Stmt} {ps : List Str} {dv : V} {u : Value} {f T : Addr} {oc tc : Value} {od an td : Option Addr} {osl tsl : Array (Option Value)} {kV doc pm cdv ct : Value} {n m : Nat} (X : K.In h) (G : h.Ns mainGlobals mg)
    (hn : ps.length = m + 1)
    (hb2 : ∀ (T : Addr) (kV doc pm : Value) (an : Option Addr) (cdv ct : Value) (us its : List Value), us.length = m + 1 → its.length = 1 →
      ∃ k, bindArgs (PySem.W.fnOf x x (defArgs st) (defBody st) (defScope st) (.ref T) kV doc pm an cdv ct) ⟨us, []⟩ = seqItems? (.ref T) >>= k ∧ k (some its.toArray) = pure (ps.zip (us ++ its.drop 1)))
    (hb1 : ∀ (T : Addr) (kV doc pm : Value) (an : Option Addr) (cdv ct : Value) (us its : List Value), us.length = m → its.length = 1 →
      ∃ k, bindArgs (PySem.W.fnOf x x (defArgs st) (defBody st) (defScope st) (.ref T) kV doc pm an cdv ct) ⟨us, []⟩ = seqItems? (.ref T) >>= k ∧ k (some its.toArray) = pure (ps.zip (us ++ its.drop 0)))
    (a : PySem.W.nsIn K mainGlobals x = some (some (.ref f))) (l : K.lookup f = some ⟨oc, od, .func (PySem.W.fnOf x x (defArgs st) (defBody st) (defScope st) (.ref T) kV doc pm an cdv ct), osl⟩)
    (c : PySem.W.codeIn K cdv x = true) (k : PySem.W.keepIn K (.ref f) = true) (hu : RelV dv u) (lT : K.lookup T = some ⟨tc, td, .seq #[u] n, tsl⟩) : DefV K mg x st ps dv := by
  have F : FunD K x x (defArgs st) (defBody st) (defScope st) [dv] [] f (PySem.W.fnOf x x (defArgs st) (defBody st) (defScope st) (.ref T) kV doc pm an cdv ct) :=
    ⟨⟨oc, od, .ref T, kV, doc, pm, an, cdv, ct, osl, rfl, l, c, .inr ⟨List.cons_ne_nil _ _, T, _, [u], n, rfl, lT, rfl, .cons hu .nil⟩, .inl rfl⟩, k⟩
  obtain ⟨d2, v2, b2⟩ := F.binds1 (m + 1) 1 (List.cons_ne_nil _ _) (by rw [hn]; rfl) (fun T kV doc pm an cdv ct us its h1 h2 => hb2 T kV doc pm an cdv ct us its h1 h2)
  obtain ⟨d1, v1, b1⟩ := F.binds1 m 0 (List.cons_ne_nil _ _) (by rw [hn]; rfl) (fun T kV doc pm an cdv ct us its h1 h2 => hb1 T kV doc pm an cdv ct us its h1 h2)
  have e2 : d2 = [] := by
    cases v2
    rfl
  subst e2
  exact ⟨f, _, F, PySem.W.mg_of X G a, b2, d1, v1, b1⟩
end Hr
/-! ### the text of this law -/
namespace Hr
open PySem PySem.Spec PyProof.Rows L2
def topS (i : Nat) : Stmt := PySem.Challenge.pw_hillrows_k03_ways.main.body.getD i (.Pass ⟨0, 0, 0, 0⟩)
abbrev sCounted : Stmt := topS 7
abbrev sWays : Stmt := topS 8
abbrev sHill : Stmt := topS 9
abbrev sTable : Stmt := topS 10
abbrev sStep : Stmt := topS 11
abbrev sLow : Stmt := topS 12
abbrev sIsNum : Stmt := topS 13
abbrev sChNum : Stmt := topS 14
abbrev sChCei : Stmt := topS 15
abbrev sMixed : Stmt := topS 17
abbrev sLaw : Stmt := topS 19
end Hr
/-! ### the table of ways -/
namespace Hr
open PySem PySem.Spec PyProof.Rows L2
theorem scLow : FnScope ["height", "ceiling"] ["height", "ceiling"] (defScope sLow) := ⟨rfl, rfl, rfl, by decide +kernel, rfl, by decide +kernel, by decide +kernel⟩
theorem scIsNum : FnScope ["value", "most", "least"] ["value", "most", "least"] (defScope sIsNum) := ⟨rfl, rfl, rfl, by decide +kernel, rfl, by decide +kernel, by decide +kernel⟩
theorem scChNum : FnScope ["value", "most", "least"] ["value", "most", "least"] (defScope sChNum) := ⟨rfl, rfl, rfl, by decide +kernel, rfl, by decide +kernel, by decide +kernel⟩
theorem scChCei : FnScope ["ceiling"] ["ceiling"] (defScope sChCei) := ⟨rfl, rfl, rfl, by decide +kernel, rfl, by decide +kernel, by decide +kernel⟩
theorem scStep : FnScope ["found", "padded", "height"] ["found"] (defScope sStep) := ⟨rfl, rfl, rfl, by decide +kernel, rfl, by decide +kernel, by decide +kernel⟩
theorem scTable : FnScope ["left", "top", "table", "_"] ["left", "top"] (defScope sTable) := ⟨rfl, rfl, rfl, by decide +kernel, rfl, by decide +kernel, by decide +kernel⟩
theorem scHill : FnScope ["n", "ceiling"] ["n", "ceiling"] (defScope sHill) := ⟨rfl, rfl, rfl, by decide +kernel, rfl, by decide +kernel, by decide +kernel⟩
theorem scCounted : FnScope ["n", "ceiling"] ["n", "ceiling"] (defScope sCounted) := ⟨rfl, rfl, rfl, by decide +kernel, rfl, by decide +kernel, by decide +kernel⟩
/-- a ceiling as a value -/
def cV : Option Nat → V
  | none => .non
  | some k => .int (k : Int)
/-- a ceiling in its bounds -/
def cOk (m : Nat) : Option Nat → Prop
  | none => True
  | some k => k ≤ m
section
variable {P : Program} {w : World} {K : PySem.W.Frag} {mg : Str → Option Value} {base : Heap}
def spLow : Sp := fun vs H Q _ => ∃ (h : Nat) (c : Option Nat), vs = [.int (h : Int), cV c] ∧ Q (.int ((low h c : Nat) : Int)) H
theorem cal_low (D : Def K mg "lower_of" sLow ["height", "ceiling"]) (mmin : mg "min" = none) : Cal K mg CX0 P w base 1 "lower_of" [] spLow := by
  refine D.cal scLow (fun vs H Q E h => ?_) (fun f cdv A outer s H vs Q E hr h => ?_)
  · obtain ⟨h, c, rfl, _⟩ := h
    rfl
  · obtain ⟨h, c, rfl, q⟩ := h
    refine ⟨_, pss_one (ps_ret (pe_ifExp (pt_cmp (pc_isN (pv 1))) (pv 0) (pe_callB (call_min2 rfl) (by rfl) mmin boot_min (pa_cons (pv 0) (pa_cons (pv 1) pa_nil))))), ?_⟩
    cases c with
    | none => exact ⟨.non, rfl, true, rfl, iteT ⟨_, rfl, q⟩⟩
    | some k =>
      refine ⟨.int (k : Int), rfl, false, rfl, iteF ⟨_, rfl, _, rfl, _, _, rfl, ?_⟩⟩
      have e : (if (k : Int) < (h : Int) then (k : Int) else (h : Int)) = ((low h (some k) : Nat) : Int) := by
        show _ = ((min h k : Nat) : Int)
        split <;> omega
      rw [e]
      exact q
/-- a number within its bounds: True -/
def spIsNum : Sp := fun vs H Q _ => ∃ (i m : Int), vs = [.int i, .int m, .int 0] ∧ Q (.bl (decide (0 ≤ i ∧ i ≤ m))) H
theorem cal_isNum (D : DefV K mg "is_number" sIsNum ["value", "most", "least"] (.int 0)) (misi : mg "isinstance" = none) (mint : mg "int" = none) (mbool : mg "bool" = none) : Cal K mg CX0 P w base 1 "is_number" [] spIsNum ∧ Cal K mg CX0 P w base 1 "is_number" [.int 0] spIsNum := by
  refine D.ok scIsNum (fun vs H Q E h => ?_) (fun f cdv A outer s H vs Q E hr h => ?_)
  · obtain ⟨i, m, rfl, _⟩ := h
    rfl
  · obtain ⟨i, m, rfl, q⟩ := h
    refine ⟨_, pss_one (ps_ret (pe_and (pe_callB call_isi (by rfl) misi (by decide +kernel) (pa_cons (pv 0) (pa_cons (pe_bltn (v := .ty "int") (u := .type "int") (by rfl) mint (by decide +kernel) rfl) pa_nil)))
      (pe_and (pe_not (pe_callB call_isi (by rfl) misi (by decide +kernel) (pa_cons (pv 0) (pa_cons (pe_bltn (v := .ty "bool") (u := .type "bool") (by rfl) mbool (by decide +kernel) rfl) pa_nil))))
      (pe_one (pe_chain op_le op_le (pv 2) (pv 0) (pv 1)))))), ?_⟩
    refine ⟨.int i, rfl, .int i, .ty "int", _, _, true, rfl, .ty "int", .base (.int i), kit_ty (by decide +kernel), true, rfl, iteT ?_⟩
    refine ⟨.int i, rfl, .int i, .ty "bool", _, _, false, rfl, .ty "bool", .base (.int i), kit_ty (by decide +kernel), false, rfl, true, rfl, iteT ?_⟩
    refine ⟨.int 0, rfl, .int i, rfl, 0, i, rfl, rfl, decide (0 ≤ i), rfl, ite2 (fun e => ?_) (fun e => ?_)⟩
    · refine ⟨.int m, rfl, i, m, rfl, rfl, ?_⟩
      have e0 : 0 ≤ i := of_decide_eq_true e
      show Q (.bl (decide (i ≤ m))) H
      rw [show decide (i ≤ m) = decide (0 ≤ i ∧ i ≤ m) from decide_eq_decide.mpr ⟨fun z => ⟨e0, z⟩, fun z => z.2⟩]
      exact q
    · have e0 : ¬ 0 ≤ i := fun z => e (decide_eq_true z)
      rw [show false = decide (0 ≤ i ∧ i ≤ m) from (decide_eq_false (fun z => e0 z.1)).symm]
      exact q
/-- nothing is refused -/
def spChNum : Sp := fun vs H Q _ => ∃ (i m : Int), vs = [.int i, .int m, .int 0] ∧ 0 ≤ i ∧ i ≤ m ∧ Q .non H
theorem cal_chNum (D : DefV K mg "check_number" sChNum ["value", "most", "least"] (.int 0)) (C : Cal K mg CX0 P w base 1 "is_number" [] spIsNum) : Cal K mg CX0 P w base 2 "check_number" [] spChNum ∧ Cal K mg CX0 P w base 2 "check_number" [.int 0] spChNum := by
  refine D.ok scChNum (fun vs H Q E h => ?_) (fun f cdv A outer s H vs Q E hr h => ?_)
  · obtain ⟨i, m, rfl, _⟩ := h
    rfl
  · obtain ⟨i, m, rfl, h0, h1, q⟩ := h
    refine ⟨_, pss_one (ps_if (pt_not (pt_val (pe_c C hr (pa_cons (pv 0) (pa_cons (pv 1) (pa_cons (pv 2) pa_nil)))))) pss_never pss_nil), ?_⟩
    refine ⟨.int i, rfl, .int m, rfl, .int 0, rfl, i, m, rfl, true, ?_, iteF q⟩
    rw [decide_eq_true (show 0 ≤ i ∧ i ≤ m from ⟨h0, h1⟩)]
def spChCei : Sp := fun vs H Q _ => ∃ (c : Option Nat), vs = [cV c] ∧ cOk 200 c ∧ Q .non H
theorem cal_chCei (D : Def K mg "check_ceiling" sChCei ["ceiling"]) (C : Cal K mg CX0 P w base 2 "check_number" [.int 0] spChNum) {tk : Tok} (gM : mg "MOST_HEIGHT" = some (.int 200 tk)) : Cal K mg CX0 P w base 3 "check_ceiling" [] spChCei := by
  refine D.cal scChCei (fun vs H Q E h => ?_) (fun f cdv A outer s H vs Q E hr h => ?_)
  · obtain ⟨c, rfl, _⟩ := h
    rfl
  · obtain ⟨c, rfl, hc, q⟩ := h
    refine ⟨_, pss_one (ps_if (pt_cmp (pc_notN (pv 0))) (pss_one (ps_expr (pe_c C hr (pa_cons (pv 0) (pa_cons (pe_glob (v := .int 200) (by rfl) gM ⟨_, rfl⟩) pa_nil))))) pss_nil), ?_⟩
    cases c with
    | none => exact ⟨.non, rfl, false, rfl, iteF q⟩
    | some k =>
      have hk : k ≤ 200 := hc
      exact ⟨.int (k : Int), rfl, true, rfl, iteT ⟨.int (k : Int), rfl, _, _, rfl, by omega, by omega, q⟩⟩
/-- one sign more -/
def spStep : Sp := fun vs H Q _ => ∃ (a : Addr) (T k : Nat), vs = [.ref a] ∧ H a = some (.lst ((rowW T k).map V.int)) ∧ T ≤ 1000 ∧
  ∀ H' p, Same H H' → H p = none → H' p = some (.lst ((rowW T (k + 1)).map V.int)) → Q (.ref p) H'
theorem cal_step (D : Def K mg "with_one_more_sign" sStep ["found"]) (mlen : mg "len" = none) (mrange : mg "range" = none) : Cal K mg CX0 P w base 1 "with_one_more_sign" [] spStep := by
  refine D.cal scStep (fun vs H Q E h => ?_) (fun f cdv A outer s H vs Q E hr h => ?_)
  · obtain ⟨a, T, k, rfl, _⟩ := h
    rfl
  · obtain ⟨a, T, k, rfl, ha, hT, q⟩ := h
    refine ⟨_, pss_cons (ps_set (i := 1) scStep.nd rfl (.inr rfl) (pe_op op_cat (pe_op op_cat (pe_lst (pa_cons pe_int pa_nil)) (pv 0)) (pe_lst (pa_cons pe_int pa_nil))))
      (pss_one (ps_ret (pe_lc (own := [("height", 2)]) (g := gName 2) (tt := tYes) rfl scStep.nd (pi_range1 (by rfl) mrange (pa_cons (pe_callB call_len_seq (by rfl) mlen PySem.boot_len (pa_cons (pv 0) pa_nil)) pa_nil))
        (blkOk_by (N := ["found", "padded", "height"]) (sc := defScope sStep) (by decide +kernel)) (fun _ _ _ _ _ => pg_name (i := 2) scStep.nd rfl (Or.inl rfl)) (fun _ _ _ _ _ => pts_nil)
        (fun _ _ _ _ _ => pe_op op_add (pe_ix (r := rIxL K) ix_list (pv 1) (pv 2) (fun _ _ => rfl)) (pe_ix (r := rIxL K) ix_list (pv 1) (pe_op op_add (pv 2) pe_int) (fun _ _ => rfl)))))), ?_⟩
    have hl : ((rowW T k).map V.int).length = T + 1 := by rw [List.length_map, rowW_len]
    refine ⟨sz (by decide), fun p1 n1 => ?_⟩
    have s1 := same_upd (o := .lst [.int 0]) n1
    refine ⟨.ref a, rfl, p1, a, _, _, rfl, rfl, upd_same, s1 _ _ ha, sz (by rw [hl]; show 1 + (T + 1) ≤ _; omega), fun p2 n2 => ?_⟩
    have s2 := s1.trans (same_upd (o := .lst ([.int 0] ++ (rowW T k).map V.int)) n2)
    refine ⟨sz (by decide), fun p3 n3 => ?_⟩
    have n23 : p2 ≠ p3 := ne_of_none upd_same n3
    have s3 := s2.trans (same_upd (o := .lst [.int 0]) n3)
    refine ⟨p2, p3, _, _, rfl, rfl, by rw [upd_ne n23]; exact upd_same, upd_same, sz (by rw [List.length_append, hl]; show 1 + (T + 1) + 1 ≤ _; omega), fun p4 n4 => ?_⟩
    have s4 := s3.trans (same_upd (o := .lst ([.int 0] ++ (rowW T k).map V.int ++ [.int 0])) n4)
    have ep : ([V.int 0] ++ (rowW T k).map V.int ++ [V.int 0]) = (padW (rowW T k)).map V.int := by
      unfold padW
      rw [List.map_cons, List.map_append]
      rfl
    -- the comprehension
    refine ⟨.ref a, rfl, a, _, rfl, .inl (.inl (.inl (s4 _ _ ha))), ((T + 1 : Nat) : Int), by rw [hl], by omega, by omega, fun D nD => ?_⟩
    have hp4 := s4
    have np4 : p4 ≠ D := ne_of_none (upd_same : (upd _ p4 (.lst ([.int 0] ++ (rowW T k).map V.int ++ [.int 0]))) p4 = some _) nD
    refine lc_range (lo := 0) (n := T + 1) (fun i H' => Same H H' ∧ H' p4 = some (.lst ((padW (rowW T k)).map V.int)) ∧ H' D = some (.lst (((rowW T (k + 1)).take i).map V.int))) ?_ ?_ ?_
    · refine ⟨same_updN s4 (s4.free nD), ?_, upd_same⟩
      rw [upd_ne np4, upd_same, ep]
    · intro i H' hi ⟨sm, e4, eD⟩
      obtain ⟨x, y, e1, e2, e3⟩ := row_step (T := T) (k := k) (h := i) (by omega)
      have g1 : ((padW (rowW T k)).map V.int)[i]? = some (.int x) := by rw [List.getElem?_map, e1]; rfl
      have g2 : ((padW (rowW T k)).map V.int)[i + 2]? = some (.int y) := by rw [List.getElem?_map, e2]; rfl
      refine ⟨rfl, ?_⟩
      unfold tYes
      refine iteT ?_
      refine ⟨.ref p4, rfl, .int (0 + (i : Int)), rfl, p4, _, _, .int x, rfl, rfl, .inl (.inl e4), at_of (by omega) g1, ?_⟩
      refine ⟨.ref p4, rfl, .int (0 + (i : Int)), rfl, _, _, rfl, rfl, p4, _, _, .int y, rfl, rfl, .inl (.inl e4), at_of (j := i + 2) (by omega) g2, ?_⟩
      refine ⟨x, y, rfl, rfl, _, eD, szl ?_, same_updN sm (s4.free nD), ?_, ?_⟩
      · rw [List.length_map, List.length_take]
        omega
      · rw [upd_ne np4]
        exact e4
      · rw [upd_same, List.take_add_one, e3, List.map_append]
        rfl
    · intro H' ⟨sm, e4, eD⟩
      rw [List.take_of_length_le (by rw [rowW_len]; omega)] at eD
      exact q H' D sm (s4.free nD) eD
end
end Hr
namespace Hr
open PySem PySem.Spec PyProof.Rows L2
/-- the table of ways at p: for each number of signs to n a list by heights to T -/
def Tbl (H : Hp) (p : Addr) (n T : Nat) : Prop := ∃ q : Nat → Addr, H p = some (.lst ((List.range (n + 1)).map fun k => V.ref (q k))) ∧ ∀ k, k ≤ n → H (q k) = some (.lst ((rowW T k).map V.int))
theorem Tbl.same {H H' : Hp} {p : Addr} {n T : Nat} (s : Same H H') (t : Tbl H p n T) : Tbl H' p n T := by
  obtain ⟨q, h1, h2⟩ := t
  exact ⟨q, s _ _ h1, fun k hk => s _ _ (h2 k hk)⟩
theorem range_get {n k : Nat} (q : Nat → Addr) (h : k ≤ n) : ((List.range (n + 1)).map fun k => V.ref (q k))[k]? = some (V.ref (q k)) := by
  rw [List.getElem?_map, List.getElem?_range (by omega)]
  rfl
theorem row0_lst (T : Nat) : [V.int 1] ++ (List.replicate T [V.int 0]).flatten = (rowW T 0).map V.int := by
  rw [rowW_zero, List.map_cons, List.map_replicate]
  have e : ∀ n : Nat, (List.replicate n [V.int 0]).flatten = List.replicate n (V.int 0) := by
    intro n
    induction n with
    | zero => rfl
    | succ n ih => rw [List.replicate_succ, List.replicate_succ, List.flatten_cons, ih]; rfl
  rw [e]
  rfl
section
variable {P : Program} {w : World} {K : PySem.W.Frag} {mg : Str → Option Value} {base : Heap}
def spTable : Sp := fun vs H Q _ => ∃ (n T : Nat), vs = [.int (n : Int), .int (T : Int)] ∧ n ≤ 1000 ∧ T ≤ 1000 ∧ ∀ H' p, Same H H' → H p = none → Tbl H' p n T → Q (.ref p) H'
theorem cal_table (D : Def K mg "ways_table" sTable ["left", "top"]) (C : Cal K mg CX0 P w base 1 "with_one_more_sign" [] spStep) (mrange : mg "range" = none) : Cal K mg CX0 P w base 2 "ways_table" [] spTable := by
  refine D.cal scTable (fun vs H Q E h => ?_) (fun f cdv A outer s H vs Q E hr h => ?_)
  · obtain ⟨n, T, rfl, _⟩ := h
    rfl
  · obtain ⟨n, T, rfl, hn, hT, q⟩ := h
    refine ⟨_, pss_cons (ps_set (i := 2) scTable.nd rfl (.inl rfl) (pe_lst (pa_cons (pe_op op_cat (pe_lst (pa_cons pe_int pa_nil)) (pe_op op_rep (pe_lst (pa_cons pe_int pa_nil)) (pv 1))) pa_nil)))
      (pss_cons (ps_for PassesOwn.never rfl (pi_range1 (by rfl) mrange (pa_cons (pv 0) pa_nil)) (pg_name (i := 3) scTable.nd rfl (.inl rfl))
        (pss_one (ps_expr (pe_bm PySem.F.plainAttrs_list PySem.F.slot_list_append PySem.F.type_list_append mt_append (pv 2) (pa_cons (pe_c C hr (pa_cons (pe_ix ix_list (pv 2) (pe_un un_neg pe_int) (fun _ _ => rfl)) pa_nil)) pa_nil)))))
      (pss_one (ps_ret (pv 2)))), ?_⟩
    refine ⟨sz (by decide), fun p1 n1 => ⟨sz (by decide), fun p2 n2 => ?_⟩⟩
    have s1 := same_upd (o := .lst [.int 1]) n1
    have s2 := s1.trans (same_upd (o := .lst [.int 0]) n2)
    refine ⟨.int (T : Int), rfl, p2, (T : Int), _, rfl, rfl, upd_same, by omega, by omega, sz (by show 1 * T ≤ _; omega), fun p3 n3 => ?_⟩
    have s3 := s2.trans (same_upd (o := .lst (List.replicate (T : Int).toNat [V.int 0]).flatten) n3)
    have n13 : p1 ≠ p3 := ne_of_none (by rw [upd_ne (ne_of_none upd_same n2)]; exact upd_same) n3
    have n12 : p1 ≠ p2 := ne_of_none upd_same n2
    have lz : (List.replicate (T : Int).toNat [V.int 0]).flatten.length = T := by
      have := congrArg List.length (row0_lst T)
      rw [List.length_append, List.length_map, rowW_len] at this
      have e : ([V.int 1] : List V).length = 1 := rfl
      rw [Int.toNat_natCast]
      omega
    refine ⟨p1, p3, _, _, rfl, rfl, by rw [upd_ne n13, upd_ne n12]; exact upd_same, upd_same, sz (by rw [lz]; show 1 + T ≤ _; omega), fun p4 n4 => ?_⟩
    rw [Int.toNat_natCast, row0_lst]
    rw [Int.toNat_natCast] at n4 s3
    have s4 := s3.trans (same_upd (o := .lst ((rowW T 0).map V.int)) n4)
    refine ⟨sz (show 1 ≤ 1000000 by decide), fun o no => ?_⟩
    have n4o : p4 ≠ o := ne_of_none upd_same no
    have s5 := same_updN (o := .lst [V.ref p4]) s4 (s4.free no)
    refine ⟨.int (n : Int), rfl, (n : Int), rfl, by omega, by omega, ?_⟩
    refine for_range (lo := 0) (n := n) (fun i σ H' => ∃ (y : Option V) (q : Nat → Addr), σ = [some (.int (n : Int)), some (.int (T : Int)), some (.ref o), y] ∧ Same H H' ∧
      H' o = some (.lst ((List.range (i + 1)).map fun k => V.ref (q k))) ∧ ∀ k, k ≤ i → H' (q k) = some (.lst ((rowW T k).map V.int)) ∧ q k ≠ o) ?_ ?_ ?_
    · refine ⟨none, fun _ => p4, rfl, s5, upd_same, fun k hk => ?_⟩
      have : k = 0 := by omega
      subst this
      refine ⟨?_, n4o⟩
      rw [upd_ne n4o]
      exact upd_same
    · rintro i σ H1 hi ⟨y, qa, rfl, sm, eo, er⟩
      have eL : ((List.range (i + 1)).map fun k => V.ref (qa k)) = ((List.range i).map fun k => V.ref (qa k)) ++ [V.ref (qa i)] := by
        rw [List.range_succ, List.map_append]
        rfl
      refine ⟨.ref o, rfl, .inl ⟨rfl, _, .inl (.inl eo)⟩, .ref o, rfl, 1, rfl, o, _, -1, .ref (qa i), rfl, rfl, .inl (.inl eo), by rw [eL]; exact atI_last _ _, ?_⟩
      refine ⟨qa i, T, i, rfl, (er i (Nat.le_refl _)).1, hT, fun H2 p sm2 np ep => ?_⟩
      have eo2 : H2 o = some (.lst ((List.range (i + 1)).map fun k => V.ref (qa k))) := sm2 _ _ eo
      have npo : p ≠ o := fun z => by
        rw [z, eo] at np
        cases np
      refine ⟨o, _, .ref p, rfl, rfl, eo2, szl (by rw [List.length_map, List.length_range]; omega), ?_⟩
      refine ⟨_, fun k => if k = i + 1 then p else qa k, rfl, same_updN (sm.trans sm2) (s4.free no), ?_, fun k hk => ?_⟩
      · rw [upd_same, List.range_succ (n := i + 1), List.map_append]
        congr 2
        congr 1
        · refine List.map_congr_left fun k hk => ?_
          have := List.mem_range.mp hk
          dsimp only
          rw [if_neg (by omega)]
        · show [V.ref p] = [V.ref (if i + 1 = i + 1 then p else qa (i + 1))]
          rw [if_pos rfl]
      · dsimp only
        by_cases e : k = i + 1
        · rw [if_pos e]
          refine ⟨?_, npo⟩
          rw [upd_ne npo, e]
          exact ep
        · rw [if_neg e]
          obtain ⟨h1, h2⟩ := er k (by omega)
          refine ⟨?_, h2⟩
          rw [upd_ne h2]
          exact sm2 _ _ h1
    · rintro σ H1 ⟨y, qa, rfl, sm, eo, er⟩
      exact ⟨.ref o, rfl, q H1 o sm (s4.free no) ⟨qa, eo, fun k hk => (er k hk).1⟩⟩
def spHill : Sp := fun vs H Q _ => ∃ (n : Nat) (c : Option Nat), vs = [.int (n : Int), cV c] ∧ n ≤ 400 ∧ ∀ H' p, Same H H' → H p = none → Tbl H' p (2 * n) (low n c) → Q (.ref p) H'
theorem low_le (n : Nat) (c : Option Nat) : low n c ≤ n := by
  cases c with
  | none => exact Nat.le_refl _
  | some k => exact Nat.min_le_left _ _
theorem cal_hill (D : Def K mg "hill_table" sHill ["n", "ceiling"]) (C : Cal K mg CX0 P w base 2 "ways_table" [] spTable) (C2 : Cal K mg CX0 P w base 1 "lower_of" [] spLow) : Cal K mg CX0 P w base 3 "hill_table" [] spHill := by
  refine D.cal scHill (fun vs H Q E h => ?_) (fun f cdv A outer s H vs Q E hr h => ?_)
  · obtain ⟨n, c, rfl, _⟩ := h
    rfl
  · obtain ⟨n, c, rfl, hn, q⟩ := h
    refine ⟨_, pss_one (ps_ret (pe_c C hr (pa_cons (pe_op op_mul pe_int (pv 0)) (pa_cons (pe_c C2 hr (pa_cons (pv 0) (pa_cons (pv 1) pa_nil))) pa_nil)))), ?_⟩
    have hl := low_le n c
    refine ⟨.int (n : Int), rfl, 2, _, rfl, rfl, .inl ⟨by decide, by decide⟩, .int (n : Int), rfl, cV c, rfl, n, c, rfl, 2 * n, low n c, ?_, by omega, by omega, q⟩
    rw [Int.natCast_mul]
    rfl
/-- as many as the hill rows of n under the ceiling -/
def spCounted : Sp := fun vs H Q _ => ∃ (n : Nat) (c : Option Nat), vs = [.int (n : Int), cV c] ∧ n ≤ 200 ∧ cOk 200 c ∧ ∀ H', Same H H' → Q (.int ((W (low n c) (2 * n) 0 : Nat) : Int)) H'
theorem cal_counted (D : DefD K mg "counted" sCounted ["n", "ceiling"]) (C : Cal K mg CX0 P w base 3 "hill_table" [] spHill) (C2 : Cal K mg CX0 P w base 2 "check_number" [.int 0] spChNum) (C3 : Cal K mg CX0 P w base 3 "check_ceiling" [] spChCei)
    {tk : Tok} (gM : mg "MOST_UPS" = some (.int 200 tk)) : Cal K mg CX0 P w base 4 "counted" [] spCounted ∧ Cal K mg CX0 P w base 4 "counted" [.non] spCounted := by
  refine D.ok scCounted (fun vs H Q E h => ?_) (fun f cdv A outer s H vs Q E hr h => ?_)
  · obtain ⟨n, c, rfl, _⟩ := h
    rfl
  · obtain ⟨n, c, rfl, hn, hc, q⟩ := h
    refine ⟨_, pss_cons (ps_expr (pe_c C2 hr (pa_cons (pv 0) (pa_cons (pe_glob (v := .int 200) (by rfl) gM ⟨_, rfl⟩) pa_nil))))
      (pss_cons (ps_expr (pe_c C3 hr (pa_cons (pv 1) pa_nil)))
      (pss_one (ps_ret (pe_ix ix_list (pe_ix ix_list (pe_c C hr (pa_cons (pv 0) (pa_cons (pv 1) pa_nil))) (pe_op op_mul pe_int (pv 0)) (fun _ _ => rfl)) pe_int (fun _ _ => rfl))))), ?_⟩
    refine ⟨.int (n : Int), rfl, (n : Int), 200, rfl, by omega, by omega, ?_⟩
    refine ⟨cV c, rfl, c, rfl, hc, ?_⟩
    refine ⟨.int (n : Int), rfl, cV c, rfl, n, c, rfl, by omega, fun H' p sm np ⟨qa, e1, e2⟩ => ?_⟩
    have e3 := e2 (2 * n) (Nat.le_refl _)
    refine ⟨.int (n : Int), rfl, 2, _, rfl, rfl, .inl ⟨by decide, by decide⟩, p, _, _, .ref (qa (2 * n)), rfl, rfl, .inl (.inl e1), at_of (j := 2 * n) (by rw [Int.natCast_mul]; rfl) (range_get qa (Nat.le_refl _)), ?_⟩
    refine ⟨qa (2 * n), _, 0, .int ((W (low n c) (2 * n) 0 : Nat) : Int), rfl, rfl, .inl (.inl e3), at_of (j := 0) rfl ?_, q H' sm⟩
    rw [List.getElem?_map, rowW_get (Nat.zero_le _)]
    rfl
end
end Hr
/-! ### the law's own numbers -/
namespace Hr
open PySem PySem.Spec PyProof.Rows L2
/-- what _law_mixed makes of a cell at its place -/
def mixed (z k : Int) : Int :=
  let m := (z % 2147483629 + 104729 * (k + 1)) * 16807 % 2147483647
  m * m % 2147483629 * 48271 % 2147483647
theorem mixed_nonneg (z k : Int) : 0 ≤ mixed z k := Int.emod_nonneg _ (by decide)
theorem mixed_lt (z k : Int) : mixed z k < 2147483647 := Int.emod_lt_of_pos _ (by decide)
theorem scMixed : FnScope ["_law_cell", "_law_k", "_law_mark"] ["_law_cell", "_law_k"] (defScope sMixed) := ⟨rfl, rfl, rfl, by decide +kernel, rfl, by decide +kernel, by decide +kernel⟩
section
variable {P : Program} {w : World} {K : PySem.W.Frag} {mg : Str → Option Value} {base : Heap}
def spMixed : Sp := fun vs H Q _ => ∃ (z k : Int), vs = [.int z, .int k] ∧ Q (.int (mixed z k)) H
theorem cal_mixed (D : Def K mg "_law_mixed" sMixed ["_law_cell", "_law_k"]) : Cal K mg CX0 P w base 1 "_law_mixed" [] spMixed := by
  refine D.cal scMixed (fun vs H Q E h => ?_) (fun f cdv A outer s H vs Q E hr h => ?_)
  · obtain ⟨z, k, rfl, _⟩ := h
    rfl
  · obtain ⟨z, k, rfl, q⟩ := h
    refine ⟨_, pss_cons (ps_set (i := 2) scMixed.nd rfl (.inl rfl) (pe_op op_mod (pe_op op_mul (pe_op op_add (pe_op op_mod (pv 0) pe_int) (pe_op op_mul pe_int (pe_op op_add (pv 1) pe_int))) pe_int) pe_int))
      (pss_one (ps_ret (pe_op op_mod (pe_op op_mul (pe_op op_mod (pe_op op_mul (pv 2) (pv 2)) pe_int) pe_int) pe_int))), ?_⟩
    refine ⟨.int z, rfl, z, 2147483629, rfl, rfl, (by show (0 : Int) < 2147483629; decide), .int k, rfl, k, 1, rfl, rfl, 104729, k + 1, rfl, rfl, .inl ⟨by decide, by decide⟩, z % 2147483629, 104729 * (k + 1), rfl, rfl, _, 16807, rfl, rfl, .inr ⟨by decide, by decide⟩,
      _, 2147483647, rfl, rfl, (by show (0 : Int) < 2147483647; decide), ?_⟩
    have h0 : 0 ≤ (z % 2147483629 + 104729 * (k + 1)) * 16807 % 2147483647 := Int.emod_nonneg _ (by decide)
    have h1 : (z % 2147483629 + 104729 * (k + 1)) * 16807 % 2147483647 < 2147483647 := Int.emod_lt_of_pos _ (by decide)
    refine ⟨_, rfl, _, rfl, _, _, rfl, rfl, .inl ⟨by omega, by omega⟩, _, 2147483629, rfl, rfl, (by show (0 : Int) < 2147483629; decide), _, 48271, rfl, rfl, .inr ⟨by decide, by decide⟩, _, 2147483647, rfl, rfl, (by show (0 : Int) < 2147483647; decide), ?_⟩
    exact q
end
end Hr
/-! ### ways under a ceiling -/
namespace Hr
open PySem PySem.Spec PyProof.Rows L2
/-- the ways with l signs from the height h, under the ceiling c -/
def Wc (c : Option Nat) (l h : Nat) : Nat := if low l c < h then 0 else W (low l c) l h
theorem Wc_zero (c : Option Nat) (h : Nat) : Wc c 0 h = if h = 0 then 1 else 0 := by
  have e : low 0 c = 0 := by
    cases c with
    | none => rfl
    | some k => exact Nat.zero_min k
  unfold Wc
  rw [e]
  unfold W
  by_cases h0 : h = 0
  · rw [if_neg (by omega)]
  · rw [if_pos (by omega), if_neg h0]
theorem Wc_above {c : Option Nat} {l h : Nat} (e : low l c < h) : Wc c l h = 0 := if_pos e
theorem Wc_long {c : Option Nat} {l h : Nat} (e : l < h) : Wc c l h = 0 := Wc_above (Nat.lt_of_le_of_lt (by cases c with | none => exact Nat.le_refl _ | some k => exact Nat.min_le_left _ _) e)
theorem Wc_in {c : Option Nat} {l h : Nat} (e : h ≤ low l c) : Wc c l h = W (low l c) l h := if_neg (by omega)
theorem Wc_step {c : Option Nat} {m h : Nat} (hc : ∀ k, c = some k → h ≤ k) : Wc c (m + 1) h = Wc c m (h + 1) + (if h = 0 then 0 else Wc c m (h - 1)) := by
  by_cases hT : h ≤ low (m + 1) c
  · rw [Wc_in hT]
    simp only [W]
    rw [Nat.add_comm]
    by_cases hs : ∃ k, c = some k ∧ k ≤ m
    · obtain ⟨k, rfl, hk⟩ := hs
      have e1 : low (m + 1) (some k) = k := Nat.min_eq_right (by omega)
      have e2 : low m (some k) = k := Nat.min_eq_right hk
      rw [e1] at hT ⊢
      congr 1
      · by_cases hl : h < k
        · rw [if_pos hl, Wc_in (by rw [e2]; omega), e2]
        · rw [if_neg hl, Wc_above (by rw [e2]; omega)]
      · by_cases h0 : h = 0
        · rw [if_pos h0, if_pos h0]
        · rw [if_neg h0, if_neg h0, Wc_in (by rw [e2]; omega), e2]
    · have e1 : low (m + 1) c = m + 1 := by
        cases c with
        | none => rfl
        | some k =>
          have : ¬ k ≤ m := fun z => hs ⟨k, rfl, z⟩
          exact Nat.min_eq_left (by omega)
      have e2 : low m c = m := by
        cases c with
        | none => rfl
        | some k =>
          have : ¬ k ≤ m := fun z => hs ⟨k, rfl, z⟩
          exact Nat.min_eq_left (by omega)
      rw [e1] at hT ⊢
      congr 1
      · by_cases hl : h + 1 ≤ m
        · rw [if_pos (by omega), Wc_in (by rw [e2]; omega), e2]
          exact (W_same (by omega) m (h + 1) hl (by omega)).symm
        · rw [Wc_long (by omega)]
          by_cases h3 : h < m + 1
          · rw [if_pos h3, W_zero _ m (h + 1) (by omega)]
          · rw [if_neg h3]
      · by_cases h0 : h = 0
        · rw [if_pos h0, if_pos h0]
        · rw [if_neg h0, if_neg h0, Wc_in (by rw [e2]; omega), e2]
          exact (W_same (by omega) m (h - 1) (by omega) (by omega)).symm
  · rw [Wc_above (by omega)]
    have hl : m + 1 < h := by
      cases c with
      | none => exact Nat.lt_of_not_le hT
      | some k =>
        have := hc k rfl
        have : ¬ h ≤ min (m + 1) k := hT
        omega
    rw [Wc_long (by omega), Wc_long (show m < h - 1 by omega)]
    split <;> rfl
theorem Wc_counted (c : Option Nat) (n : Nat) : Wc c (2 * n) 0 = W (low n c) (2 * n) 0 := by
  rw [Wc_in (Nat.zero_le _)]
  have hle : low n c ≤ low (2 * n) c := by
    cases c with
    | none => show n ≤ 2 * n; omega
    | some k => show min n k ≤ min (2 * n) k; omega
  by_cases hs : ∃ k, c = some k ∧ k ≤ n
  · obtain ⟨k, rfl, hk⟩ := hs
    rw [show low (2 * n) (some k) = k from Nat.min_eq_right (by omega), show low n (some k) = k from Nat.min_eq_right hk]
  · have e1 : low n c = n := by
      cases c with
      | none => rfl
      | some k =>
        have : ¬ k ≤ n := fun z => hs ⟨k, rfl, z⟩
        exact Nat.min_eq_left (by omega)
    exact (W_same hle _ 0 (Nat.zero_le _) (by rw [e1]; omega)).symm
theorem scWays : FnScope ["height", "left", "ceiling", "top"] ["height", "left", "ceiling"] (defScope sWays) := ⟨rfl, rfl, rfl, by decide +kernel, rfl, by decide +kernel, by decide +kernel⟩
section
variable {P : Program} {w : World} {K : PySem.W.Frag} {mg : Str → Option Value} {base : Heap}
def spWays : Sp := fun vs H Q _ => ∃ (h l : Nat) (c : Option Nat), vs = [.int (h : Int), .int (l : Int), cV c] ∧ h ≤ 200 ∧ l ≤ 400 ∧ cOk 200 c ∧ ∀ H', Same H H' → Q (.int ((Wc c l h : Nat) : Int)) H'
theorem cal_ways (D : DefD K mg "ways" sWays ["height", "left", "ceiling"]) (C : Cal K mg CX0 P w base 2 "ways_table" [] spTable) (C1 : Cal K mg CX0 P w base 1 "lower_of" [] spLow) (C2 : Cal K mg CX0 P w base 2 "check_number" [.int 0] spChNum) (C3 : Cal K mg CX0 P w base 3 "check_ceiling" [] spChCei)
    {t1 t2 : Tok} (g1 : mg "MOST_HEIGHT" = some (.int 200 t1)) (g2 : mg "MOST_SIGNS" = some (.int 400 t2)) : Cal K mg CX0 P w base 4 "ways" [] spWays ∧ Cal K mg CX0 P w base 4 "ways" [.non] spWays := by
  refine D.ok scWays (fun vs H Q E h => ?_) (fun f cdv A outer s H vs Q E hr h => ?_)
  · obtain ⟨n, l, c, rfl, _⟩ := h
    rfl
  · obtain ⟨h, l, c, rfl, hh, hl, hc, q⟩ := h
    refine ⟨_, pss_cons (ps_expr (pe_c C2 hr (pa_cons (pv 0) (pa_cons (pe_glob (v := .int 200) (by rfl) g1 ⟨_, rfl⟩) pa_nil))))
      (pss_cons (ps_expr (pe_c C2 hr (pa_cons (pv 1) (pa_cons (pe_glob (v := .int 400) (by rfl) g2 ⟨_, rfl⟩) pa_nil))))
      (pss_cons (ps_expr (pe_c C3 hr (pa_cons (pv 2) pa_nil)))
      (pss_cons (ps_set (i := 3) scWays.nd rfl (.inl rfl) (pe_c C1 hr (pa_cons (pv 1) (pa_cons (pv 2) pa_nil))))
      (pss_cons (ps_if (pt_cmpR op_gt (pv 0) (pv 3) (nomark _)) (pss_one (ps_ret pe_int)) pss_nil)
      (pss_one (ps_ret (pe_ix ix_list (pe_ix ix_list (pe_c C hr (pa_cons (pv 1) (pa_cons (pv 3) pa_nil))) (pv 1) (fun _ _ => rfl)) (pv 0) (fun _ _ => rfl)))))))), ?_⟩
    refine ⟨.int (h : Int), rfl, (h : Int), 200, rfl, by omega, by omega, ?_⟩
    refine ⟨.int (l : Int), rfl, (l : Int), 400, rfl, by omega, by omega, ?_⟩
    refine ⟨cV c, rfl, c, rfl, hc, ?_⟩
    refine ⟨.int (l : Int), rfl, cV c, rfl, l, c, rfl, ?_⟩
    have hlow := low_le l c
    refine ⟨.int (h : Int), rfl, .int ((low l c : Nat) : Int), rfl, (h : Int), ((low l c : Nat) : Int), rfl, rfl, _, rfl, ite2 (fun e => ?_) (fun e => ?_)⟩
    · have e0 : low l c < h := by
        have := of_decide_eq_true e
        omega
      have := q H (Same.refl H)
      rw [Wc_above e0] at this
      exact this
    · have e0 : h ≤ low l c := by
        have : ¬ ((low l c : Nat) : Int) < (h : Int) := fun z => e (decide_eq_true z)
        omega
      refine ⟨.int (l : Int), rfl, .int ((low l c : Nat) : Int), rfl, l, low l c, rfl, by omega, by omega, fun H' p sm np ⟨qa, e1, e2⟩ => ?_⟩
      have e3 := e2 l (Nat.le_refl _)
      refine ⟨.int (l : Int), rfl, p, _, _, .ref (qa l), rfl, rfl, .inl (.inl e1), at_of rfl (range_get qa (Nat.le_refl _)), ?_⟩
      refine ⟨.int (h : Int), rfl, qa l, _, _, .int ((W (low l c) l h : Nat) : Int), rfl, rfl, .inl (.inl e3), at_of rfl ?_, ?_⟩
      · rw [List.getElem?_map, rowW_get e0]
        rfl
      · rw [← Wc_in e0]
        exact q H' sm
end
end Hr
/-! ### the law -/
namespace Hr
open PySem PySem.Spec PyProof.Rows L2
theorem scLaw : FnScope ["_law_script", "_law_k", "_law_cell", "_law_mark", "_law_height", "_law_left", "_law_ceiling", "_law_found", "_law_due"] ["_law_script"] (defScope sLaw) := ⟨rfl, rfl, rfl, by decide +kernel, rfl, by decide +kernel, by decide +kernel⟩
theorem cut_int {ns : List Int} {lo hi : Option Int} {i : Nat} {v : V} (h : (cutV (ns.map V.int) lo hi)[i]? = some v) : ∃ z, v = .int z := by
  have h1 : v ∈ cutV (ns.map V.int) lo hi := List.mem_of_getElem? h
  unfold cutV at h1
  obtain ⟨z, _, e⟩ := List.mem_map.mp (List.mem_of_mem_drop (List.mem_of_mem_take h1))
  exact ⟨z, e.symm⟩
theorem args3 {x y : Int} {c : Option Nat} {h l : Nat} (h1 : x = (h : Int)) (h2 : y = (l : Int)) : [V.int x, V.int y, cV c] = [V.int (h : Int), V.int (l : Int), cV c] := by
  rw [h1, h2]
/-- one of two by a remainder -/
theorem pick2 {a b : V} {m : Int} : ∃ j : Nat, m % 2 = (j : Int) ∧ ((m % 2 = 0 ∧ [a, b][j]? = some a) ∨ (m % 2 = 1 ∧ [a, b][j]? = some b)) := by
  by_cases h : m % 2 = 0
  · exact ⟨0, h, .inl ⟨h, rfl⟩⟩
  · have h1 : m % 2 = 1 := by omega
    exact ⟨1, h1, .inr ⟨h1, rfl⟩⟩
theorem pick2i {a b : Int} (m : Int) : ∃ (j : Nat) (d : Int), m % 2 = (j : Int) ∧ [V.int a, V.int b][j]? = some (V.int d) ∧ (d = a ∨ d = b) := by
  obtain ⟨j, e, h⟩ := pick2 (a := V.int a) (b := V.int b) (m := m)
  rcases h with ⟨_, h⟩ | ⟨_, h⟩
  · exact ⟨j, a, e, h, .inl rfl⟩
  · exact ⟨j, b, e, h, .inr rfl⟩
section
variable {P : Program} {w : World} {K : PySem.W.Frag} {mg : Str → Option Value} {base : Heap}
def spLaw (K : PySem.W.Frag) : Sp := fun vs H Q _ => ∃ (a : Addr) (ns : List Int), vs = [.ref a] ∧ SqL K H a (ns.map V.int) ∧ ns.length ≤ 63 ∧ ∀ H', Q (.bl true) H'
theorem ok_law {f : Addr} {fd : FuncData} (F : Fun K "law" "law" sLaw f fd) (C1 : Cal K mg CX0 P w base 4 "counted" [] spCounted) (W1 : Cal K mg CX0 P w base 4 "ways" [] spWays) (W2 : Cal K mg CX0 P w base 4 "ways" [.non] spWays)
    (C4 : Cal K mg CX0 P w base 1 "_law_mixed" [] spMixed) (menum : mg "enumerate" = none) (mint : mg "int" = none) : FnOk P w K mg base CX0 5 f fd ["_law_script"] (spLaw K) := by
  refine F.ok scLaw (fun vs H Q E h => ?_) (fun cdv A outer s H vs Q E hr h => ?_)
  · obtain ⟨a, ns, rfl, _⟩ := h
    rfl
  · obtain ⟨a, ns, rfl, hS, hlen, q⟩ := h
    have nd := scLaw.nd
    refine ⟨_, pss_cons (ps_for PassesOwn.never rfl (pi_enum (by rfl) menum (pa_cons (pe_slice sl_list (pv 0) po_none (po_some pe_int)) pa_nil)) (pg_tup rfl (pgs_cons (pg_name (i := 1) nd rfl (.inl rfl)) (pgs_cons (pg_name (i := 2) nd rfl (.inl rfl)) pgs_nil)))
        (pss_cons (ps_set (i := 3) nd rfl (.inl rfl) (pe_c C4 hr (pa_cons (pv 2) (pa_cons (pv 1) pa_nil))))
        (pss_cons (ps_set (i := 4) nd rfl (.inl rfl) (pe_op op_mod (pv 3) (pe_ix ix_list (pe_lst (pa_cons pe_int (pa_cons pe_int pa_nil))) (pe_op op_mod (pe_op op_fdiv (pv 3) pe_int) pe_int) (fun _ _ => rfl))))
        (pss_cons (ps_set (i := 5) nd rfl (.inl rfl) (pe_op op_mod (pe_op op_fdiv (pv 3) pe_int) (pe_ix ix_list (pe_lst (pa_cons pe_int (pa_cons pe_int pa_nil))) (pe_op op_mod (pe_op op_fdiv (pv 3) pe_int) pe_int) (fun _ _ => rfl))))
        (pss_cons (ps_set (i := 6) nd rfl (.inl rfl) (pe_ix ix_list (pe_lst (pa_cons pe_non (pa_cons (pe_op op_mod (pe_op op_fdiv (pv 3) pe_int) (pe_ix ix_list (pe_lst (pa_cons pe_int (pa_cons pe_int pa_nil))) (pe_op op_mod (pe_op op_fdiv (pv 3) pe_int) pe_int) (fun _ _ => rfl))) pa_nil)))
          (pe_op op_mod (pe_op op_mod (pe_op op_fdiv (pv 3) pe_int) pe_int) pe_int) (fun _ _ => rfl)))
        (pss_cons (ps_set (i := 7) nd rfl (.inl rfl) (pe_c W1 hr (pa_cons (pv 4) (pa_cons (pv 5) (pa_cons (pv 6) pa_nil)))))
        (pss_cons (ps_set (i := 8) nd rfl (.inl rfl) pe_int)
        (C8.pss_cut (ps_if (pt_cmpR op_eq (pv 5) pe_int (nomark _))
          (pss_one (ps_set (i := 8) nd rfl (.inl rfl) (pe_callTy call_int1 (by rfl) mint boot_int (pa_cons (pe_cmpR op_eq (pv 4) pe_int (nomark _)) pa_nil))))
          (pss_one (ps_if (PW.pt (pw_or (pt_cmp (pc_isN (pv 6))) (pw_or1 (pt_cmpR op_le (pv 4) (pv 6) (nomark _)))))
            (pss_cons (ps_set (i := 8) nd rfl (.inl rfl) (pe_c W1 hr (pa_cons (pe_op op_add (pv 4) pe_int) (pa_cons (pe_op op_sub (pv 5) pe_int) (pa_cons (pv 6) pa_nil)))))
            (pss_one (ps_if (pt_cmpR op_gt (pv 4) pe_int (nomark _))
              (pss_one (ps_set (i := 8) nd rfl (.inl rfl) (pe_op op_add (pv 8) (pe_c W1 hr (pa_cons (pe_op op_sub (pv 4) pe_int) (pa_cons (pe_op op_sub (pv 5) pe_int) (pa_cons (pv 6) pa_nil))))))) pss_nil))) pss_nil)))
        (pss_cons (ps_if (PW.pt (pw_or (pt_cmpR op_ne (pv 7) (pv 8) (nomark _)) (pw_or1 (pt_cmpR op_ne (pe_c W1 hr (pa_cons pe_int (pa_cons (pe_op op_mul pe_int (pe_op op_fdiv (pv 5) pe_int)) (pa_cons (pv 6) pa_nil)))) (pe_c C1 hr (pa_cons (pe_op op_fdiv (pv 5) pe_int) (pa_cons (pv 6) pa_nil))) (nomark _))))) (pss_one (ps_ret pe_bl)) pss_nil)
        (pss_cons (ps_if (PW.pt (pw_and (pt_cmp (pc_isN (pv 6))) (pw_and1 (PW.pt (pw_or (pt_cmpR op_ne (pe_c W2 hr (pa_cons (pv 4) (pa_cons (pv 5) pa_nil))) (pv 7) (nomark _)) (pw_or1 (pt_cmpR op_ne (pe_c W1 hr (pa_cons (pv 4) (pa_cons (pv 5) (pa_cons pe_int pa_nil)))) (pv 7) (nomark _)))))))) (pss_one (ps_ret pe_bl)) pss_nil)
        (pss_one (ps_if (PW.pt (pw_and (pt_cmpR op_gt (pe_op op_add (pv 4) (pv 5)) pe_int (nomark _)) (pw_and (pt_cmp (pc_notN (pv 6))) (pw_and (pt_cmpR op_gt (pv 4) (pv 6) (nomark _)) (pw_and1 (pt_cmpR op_ne (pv 7) pe_int (nomark _))))))) (pss_one (ps_ret pe_bl)) pss_nil))))))))))))
      (pss_one (ps_ret (pe_and (pe_cmpR op_eq (pe_c W2 hr (pa_cons pe_int (pa_cons pe_int pa_nil))) pe_int (nomark _)) (pe_and (pe_cmpR op_eq (pe_c W2 hr (pa_cons pe_int (pa_cons pe_int pa_nil))) pe_int (nomark _)) (pe_one (pe_cmpR op_eq (pe_c W2 hr (pa_cons pe_int (pa_cons pe_int pa_nil))) pe_int (nomark _))))))), ?_⟩
    refine ⟨.ref a, rfl, 12, rfl, a, ns.map V.int, rfl, hS, fun c nc => ?_⟩
    refine ⟨c, _, rfl, .inl (.inl upd_same), ?_⟩
    have hcl : (cutV (ns.map V.int) none (some 12)).length ≤ 63 := Nat.le_trans (cutV_length _ _ _) (by rw [List.length_map]; exact hlen)
    refine for_it (walk_enum (K := K) (a := c) (xs := cutV (ns.map V.int) none (some 12))) (fun i σ H' => ∃ (y1 y2 y3 y4 y5 y6 y7 y8 : Option V), σ = [some (.ref a), y1, y2, y3, y4, y5, y6, y7, y8] ∧ H' c = some (.lst (cutV (ns.map V.int) none (some 12)))) ?_ ?_ ?_ ?_
    · exact ⟨none, none, none, none, none, none, none, none, rfl, upd_same⟩
    · rintro i σ H' _ ⟨_, _, _, _, _, _, _, _, rfl, ec⟩
      exact .inl (.inl ec)
    · rintro i x σ H1 H2 hi ⟨_, _, _, _, _, _, _, _, rfl, ec⟩ ⟨T, k0, v, rfl, nT, rfl, ek, ev⟩
      have ek : k0 = .int (i : Int) := (Option.some.inj ek).symm
      subst ek
      obtain ⟨z, rfl⟩ := cut_int ev
      refine ⟨T, _, rfl, .inl (.inl upd_same), rfl, _, _, rfl, _, _, rfl, rfl, ?_⟩
      have ecT : upd H1 T (.tup [.int (i : Int), .int z]) c = some (.lst (cutV (ns.map V.int) none (some 12))) := by
        rw [upd_ne (ne_of_none ec nT)]
        exact ec
      generalize upd H1 T (.tup [.int (i : Int), .int z]) = H3 at ecT ⊢
      refine ⟨.int z, rfl, .int (i : Int), rfl, z, (i : Int), rfl, ?_⟩
      have h0 := mixed_nonneg z i
      generalize mixed z i = mk at h0 ⊢
      -- height
      obtain ⟨j1, d1, ej1, ed1, hd1⟩ := pick2i (a := 4) (b := 61) (mk / 7)
      refine ⟨.int mk, rfl, sz (show 2 ≤ 1000000 by decide), fun l1 nl1 => ?_⟩
      refine ⟨.int mk, rfl, mk, 7, rfl, rfl, ⟨by decide, by decide⟩, mk / 7, 2, rfl, rfl, (by show (0 : Int) < 2; decide), l1, _, _, .int d1, rfl, rfl, .inl (.inl upd_same), at_of ej1 ed1, ?_⟩
      refine ⟨mk, d1, rfl, rfl, (by show 0 < d1; omega), ?_⟩
      have e1 : upd H3 l1 (.lst [.int 4, .int 61]) c = some (.lst (cutV (ns.map V.int) none (some 12))) := by
        rw [upd_ne (ne_of_none ecT nl1)]
        exact ecT
      have m1 := Int.emod_nonneg mk (show d1 ≠ 0 by omega)
      have m1' := Int.emod_lt_of_pos mk (show 0 < d1 by omega)
      obtain ⟨hh, ehh⟩ : ∃ hh : Nat, mk % d1 = (hh : Int) := ⟨(mk % d1).toNat, by omega⟩
      show gName 4 (V.int (mk % d1)) _ _ _
      rw [ehh] at m1 m1' ⊢
      generalize upd H3 l1 (.lst [.int 4, .int 61]) = H4 at e1 ⊢
      -- left
      obtain ⟨j2, d2, ej2, ed2, hd2⟩ := pick2i (a := 9) (b := 121) (mk / 15)
      refine ⟨.int mk, rfl, mk, 100, rfl, rfl, ⟨by decide, by decide⟩, sz (show 2 ≤ 1000000 by decide), fun l2 nl2 => ?_⟩
      refine ⟨.int mk, rfl, mk, 15, rfl, rfl, ⟨by decide, by decide⟩, mk / 15, 2, rfl, rfl, (by show (0 : Int) < 2; decide), l2, _, _, .int d2, rfl, rfl, .inl (.inl upd_same), at_of ej2 ed2, ?_⟩
      refine ⟨mk / 100, d2, rfl, rfl, (by show 0 < d2; omega), ?_⟩
      have e2 : upd H4 l2 (.lst [.int 9, .int 121]) c = some (.lst (cutV (ns.map V.int) none (some 12))) := by
        rw [upd_ne (ne_of_none e1 nl2)]
        exact e1
      have m2 := Int.emod_nonneg (mk / 100) (show d2 ≠ 0 by omega)
      have m2' := Int.emod_lt_of_pos (mk / 100) (show 0 < d2 by omega)
      obtain ⟨ll, ell⟩ : ∃ ll : Nat, mk / 100 % d2 = (ll : Int) := ⟨(mk / 100 % d2).toNat, by omega⟩
      show gName 5 (V.int (mk / 100 % d2)) _ _ _
      rw [ell] at m2 m2' ⊢
      generalize upd H4 l2 (.lst [.int 9, .int 121]) = H5 at e2 ⊢
      -- ceiling
      obtain ⟨j3, d3, ej3, ed3, hd3⟩ := pick2i (a := 5) (b := 61) (mk / 11)
      refine ⟨.int mk, rfl, mk, 20000, rfl, rfl, ⟨by decide, by decide⟩, sz (show 2 ≤ 1000000 by decide), fun l3 nl3 => ?_⟩
      refine ⟨.int mk, rfl, mk, 11, rfl, rfl, ⟨by decide, by decide⟩, mk / 11, 2, rfl, rfl, (by show (0 : Int) < 2; decide), l3, _, _, .int d3, rfl, rfl, .inl (.inl upd_same), at_of ej3 ed3, ?_⟩
      refine ⟨mk / 20000, d3, rfl, rfl, (by show 0 < d3; omega), sz (show 2 ≤ 1000000 by decide), fun l4 nl4 => ?_⟩
      have m3 := Int.emod_nonneg (mk / 20000) (show d3 ≠ 0 by omega)
      have m3' := Int.emod_lt_of_pos (mk / 20000) (show 0 < d3 by omega)
      obtain ⟨dc, edc⟩ : ∃ dc : Nat, mk / 20000 % d3 = (dc : Int) := ⟨(mk / 20000 % d3).toNat, by omega⟩
      have e3 : upd H5 l3 (.lst [.int 5, .int 61]) c = some (.lst (cutV (ns.map V.int) none (some 12))) := by
        rw [upd_ne (ne_of_none e2 nl3)]
        exact e2
      have e4 : ∀ o, upd (upd H5 l3 (.lst [.int 5, .int 61])) l4 o c = some (.lst (cutV (ns.map V.int) none (some 12))) := fun o => by
        rw [upd_ne (ne_of_none e3 nl4)]
        exact e3
      obtain ⟨co, j4, ej4, eco, hco, hc60⟩ : ∃ (co : Option Nat) (j : Nat), mk / 3 % 3 % 2 = (j : Int) ∧ ([V.non, V.int (mk / 20000 % d3)])[j]? = some (cV co) ∧ cOk 200 co ∧ ∀ k, co = some k → k ≤ 60 := by
        by_cases h : mk / 3 % 3 % 2 = 0
        · exact ⟨none, 0, h, rfl, trivial, fun _ z => nomatch z⟩
        · exact ⟨some dc, 1, by omega, by rw [edc]; rfl, by show dc ≤ 200; omega, fun k z => by cases z; omega⟩
      refine ⟨.int mk, rfl, mk, 3, rfl, rfl, ⟨by decide, by decide⟩, mk / 3, 3, rfl, rfl, (by show (0 : Int) < 3; decide), mk / 3 % 3, 2, rfl, rfl, (by show (0 : Int) < 2; decide), ?_⟩
      refine ⟨l4, _, _, cV co, rfl, rfl, .inl (.inl upd_same), at_of ej4 eco, ?_⟩
      have hhb : hh ≤ 60 := by omega
      have hlb : ll ≤ 120 := by omega
      -- found
      refine ⟨.int (hh : Int), rfl, .int (ll : Int), rfl, cV co, rfl, hh, ll, co, rfl, by omega, by omega, hco, fun H6 s6 => ?_⟩
      have e6 := s6 _ _ (e4 _)
      refine ⟨fun σ H' => σ = [some (.ref a), some (.int (i : Int)), some (.int z), some (.int mk), some (.int (hh : Int)), some (.int (ll : Int)), some (cV co), some (.int ((Wc co ll hh : Nat) : Int)), some (.int ((Wc co ll hh : Nat) : Int))] ∧ H' c = some (.lst (cutV (ns.map V.int) none (some 12))), ?_, ?_⟩
      · refine ⟨.int (ll : Int), rfl, rfl, _, rfl, ite2 (fun e => ?_) (fun e => ?_)⟩
        · have e0 : ll = 0 := by
            have := V.int.inj (of_decide_eq_true e)
            omega
          refine ⟨.int (hh : Int), rfl, rfl, .inr ⟨_, rfl, ?_, e6⟩⟩
          rw [e0, Wc_zero]
          by_cases g : hh = 0
          · rw [if_pos g, g]
            rfl
          · rw [if_neg g]
            show [_, _, _, _, _, _, _, _, some (V.int (if decide (V.int (hh : Int) = V.int 0) = true then 1 else 0))] = _
            rw [if_neg (fun z => g (by have := V.int.inj (of_decide_eq_true z); omega))]
            rfl
        · have e0 : ll ≠ 0 := fun z => e (decide_eq_true (by rw [z]; rfl))
          cases co with
          | none =>
            have est : Wc none ll hh = Wc none (ll - 1) (hh + 1) + (if hh = 0 then 0 else Wc none (ll - 1) (hh - 1)) := by
              rw [← Wc_step (fun k z => by cases z), show ll - 1 + 1 = ll by omega]
            refine ⟨.non, rfl, true, rfl, ?_⟩
            refine iteT ?_
            refine iteT ?_
            refine ⟨.int (hh : Int), rfl, (hh : Int), 1, rfl, rfl, .int (ll : Int), rfl, (ll : Int), 1, rfl, rfl, _, rfl, hh + 1, ll - 1, none, args3 (by omega) (by omega), by omega, by omega, hco, fun H7 s7 => ?_⟩
            have e7 := s7 _ _ e6
            refine ⟨.int (hh : Int), rfl, (hh : Int), 0, rfl, rfl, _, rfl, ite2 (fun g => ?_) (fun g => ?_)⟩
            · have g0 : 0 < hh := by
                have := of_decide_eq_true g
                omega
              refine ⟨_, rfl, .int (hh : Int), rfl, (hh : Int), 1, rfl, rfl, .int (ll : Int), rfl, (ll : Int), 1, rfl, rfl, _, rfl, hh - 1, ll - 1, none, args3 (by omega) (by omega), by omega, by omega, hco, fun H8 s8 => ?_⟩
              refine ⟨_, _, rfl, rfl, ?_, s8 _ _ e7⟩
              rw [est, if_neg (by omega), Int.natCast_add]
              rfl
            · have g0 : hh = 0 := by
                have : ¬ (0 : Int) < (hh : Int) := fun z => g (decide_eq_true z)
                omega
              refine ⟨?_, e7⟩
              rw [est, if_pos g0]
              rfl
          | some k =>
            refine ⟨.int (k : Int), rfl, false, rfl, ?_⟩
            refine iteF ?_
            refine ⟨.int (hh : Int), rfl, .int (k : Int), rfl, (hh : Int), (k : Int), rfl, rfl, _, rfl, ite2 (fun e1 => ?_) (fun e1 => ?_)⟩
            · have hk : hh ≤ k := by
                have := of_decide_eq_true e1
                omega
              have est : Wc (some k) ll hh = Wc (some k) (ll - 1) (hh + 1) + (if hh = 0 then 0 else Wc (some k) (ll - 1) (hh - 1)) := by
                rw [← Wc_step (fun k' z => by cases z; exact hk), show ll - 1 + 1 = ll by omega]
              refine ⟨.int (hh : Int), rfl, (hh : Int), 1, rfl, rfl, .int (ll : Int), rfl, (ll : Int), 1, rfl, rfl, _, rfl, hh + 1, ll - 1, (some k), args3 (by omega) (by omega), by omega, by omega, hco, fun H7 s7 => ?_⟩
              have e7 := s7 _ _ e6
              refine ⟨.int (hh : Int), rfl, (hh : Int), 0, rfl, rfl, _, rfl, ite2 (fun g => ?_) (fun g => ?_)⟩
              · have g0 : 0 < hh := by
                  have := of_decide_eq_true g
                  omega
                refine ⟨_, rfl, .int (hh : Int), rfl, (hh : Int), 1, rfl, rfl, .int (ll : Int), rfl, (ll : Int), 1, rfl, rfl, _, rfl, hh - 1, ll - 1, (some k), args3 (by omega) (by omega), by omega, by omega, hco, fun H8 s8 => ?_⟩
                refine ⟨_, _, rfl, rfl, ?_, s8 _ _ e7⟩
                rw [est, if_neg (by omega), Int.natCast_add]
                rfl
              · have g0 : hh = 0 := by
                  have : ¬ (0 : Int) < (hh : Int) := fun z => g (decide_eq_true z)
                  omega
                refine ⟨?_, e7⟩
                rw [est, if_pos g0]
                rfl
            · have hk : k < hh := by
                have : ¬ (hh : Int) ≤ (k : Int) := fun z => e1 (decide_eq_true z)
                omega
              refine ⟨?_, e6⟩
              rw [Wc_above (show low ll (some k) < hh from Nat.lt_of_le_of_lt (Nat.min_le_right _ _) hk)]
              rfl
      · rintro σ H7 ⟨rfl, e7⟩
        refine ⟨_, rfl, _, rfl, rfl, _, rfl, iteNS rfl ?_⟩
        have hdiv : (ll : Int) / 2 = ((ll / 2 : Nat) : Int) := by omega
        refine ⟨.int (ll : Int), rfl, (ll : Int), 2, rfl, rfl, ⟨by decide, by decide⟩, 2, (ll : Int) / 2, rfl, rfl, .inl ⟨by decide, by decide⟩, _, rfl, 0, 2 * (ll / 2), co, ?_, by omega, by omega, hco, fun H8 s8 => ?_⟩
        · rw [hdiv, Int.natCast_mul]
          rfl
        refine ⟨.int (ll : Int), rfl, (ll : Int), 2, rfl, rfl, ⟨by decide, by decide⟩, _, rfl, ll / 2, co, by rw [← hdiv]; rfl, by omega, hco, fun H9 s9 => ?_⟩
        refine ⟨rfl, _, rfl, iteNS (by rw [Wc_counted]) ?_⟩
        have e9 := s9 _ _ (s8 _ _ e7)
        cases co with
        | none =>
          refine ⟨.non, rfl, true, rfl, ?_⟩
          refine iteT ?_
          refine ⟨_, rfl, _, rfl, hh, ll, none, rfl, by omega, by omega, trivial, fun H10 s10 => ⟨_, rfl, rfl, _, rfl, iteNS rfl ?_⟩⟩
          refine ⟨_, rfl, _, rfl, hh, ll, some 200, rfl, by omega, by omega, Nat.le_refl _, fun H11 s11 => ⟨_, rfl, rfl, _, rfl, iteNS ?_ ?_⟩⟩
          · have el : low ll (some 200) = low ll none := Nat.min_eq_left (by omega)
            unfold Wc
            rw [el]
          have e11 := s11 _ _ (s10 _ _ e9)
          refine ⟨_, rfl, _, rfl, _, _, rfl, rfl, _, _, rfl, rfl, _, rfl, ite2 (fun g => ?_) (fun g => ?_)⟩
          · refine ⟨_, rfl, false, rfl, ?_⟩
            refine iteF ?_
            refine iteF ?_
            exact ⟨_, _, _, _, _, _, _, _, rfl, e11⟩
          · refine iteF ?_
            exact ⟨_, _, _, _, _, _, _, _, rfl, e11⟩
        | some k =>
          refine ⟨.int (k : Int), rfl, false, rfl, ?_⟩
          refine iteF ?_
          refine iteF ?_
          refine ⟨_, rfl, _, rfl, _, _, rfl, rfl, _, _, rfl, rfl, _, rfl, ite2 (fun g => ?_) (fun g => ?_)⟩
          · refine ⟨.int (k : Int), rfl, true, rfl, ?_⟩
            refine iteT ?_
            refine ⟨_, rfl, .int (k : Int), rfl, (hh : Int), (k : Int), rfl, rfl, _, rfl, ite2 (fun g2 => ?_) (fun g2 => ?_)⟩
            · have hk : k < hh := by
                have := of_decide_eq_true g2
                omega
              have hw : Wc (some k) ll hh = 0 := Wc_above (Nat.lt_of_le_of_lt (Nat.min_le_right _ _) hk)
              refine ⟨_, rfl, rfl, _, rfl, iteNS (by rw [hw]; rfl) ?_⟩
              exact ⟨_, _, _, _, _, _, _, _, rfl, e9⟩
            · refine iteF ?_
              exact ⟨_, _, _, _, _, _, _, _, rfl, e9⟩
          · refine iteF ?_
            exact ⟨_, _, _, _, _, _, _, _, rfl, e9⟩
    · rintro σ H1 ⟨_, _, _, _, _, _, _, _, rfl, ec⟩
      refine ⟨0, 0, none, rfl, by decide, by decide, trivial, fun H2 s2 => ⟨rfl, true, ?_, iteT ?_⟩⟩
      · exact congrArg V.bl (decide_eq_true (by decide))
      refine ⟨1, 1, none, rfl, by decide, by decide, trivial, fun H3 s3 => ⟨rfl, true, ?_, iteT ?_⟩⟩
      · exact congrArg V.bl (decide_eq_true (by decide))
      refine ⟨1, 2, none, rfl, by decide, by decide, trivial, fun H4 s4 => ⟨rfl, ?_⟩⟩
      rw [decide_eq_true (show V.int ((Wc none 2 1 : Nat) : Int) = V.int 0 by decide)]
      exact q _
end
end Hr
/-! ### what the top has written -/
namespace Hr
open PySem PySem.Spec PyProof.Rows L2
theorem all_mk {l : PySem.W.OpenLaw} {w : World} {K : PySem.W.Frag} {h : Heap} {mg : Str → Option Value} {fa f : Addr} (X : K.In h) (G : h.Ns mainGlobals mg) (hfa : mg "law" = some (.ref fa))
    {od an : Option Addr} {sl : Array (Option Value)} {oc kV dc pm cd ct : Value} {tk_MOST_UPS tk_MOST_HEIGHT tk_MOST_SIGNS : Tok} 
    (a : PySem.W.nsIn K mainGlobals "law" = some (some (.ref f))) (l1 : K.lookup f = some ⟨oc, od, .func (PySem.W.fnOf "law" "law" (defArgs sLaw) (defBody sLaw) (defScope sLaw) .none kV dc pm an cd ct), sl⟩) (c : PySem.W.codeIn K cd "law" = true) (k : PySem.W.keepIn K (.ref f) = true)
    (d_hill_table : Def K mg "hill_table" sHill ["n", "ceiling"])
    (d_ways_table : Def K mg "ways_table" sTable ["left", "top"])
    (d_with_one_more_sign : Def K mg "with_one_more_sign" sStep ["found"])
    (d_lower_of : Def K mg "lower_of" sLow ["height", "ceiling"])
    (d_check_ceiling : Def K mg "check_ceiling" sChCei ["ceiling"])
    (d_law_mixed : Def K mg "_law_mixed" sMixed ["_law_cell", "_law_k"])
    (d_counted : DefD K mg "counted" sCounted ["n", "ceiling"])
    (d_ways : DefD K mg "ways" sWays ["height", "left", "ceiling"])
    (d_is_number : DefV K mg "is_number" sIsNum ["value", "most", "least"] (.int 0))
    (d_check_number : DefV K mg "check_number" sChNum ["value", "most", "least"] (.int 0))
    (g_MOST_UPS : PySem.W.nsIn K mainGlobals "MOST_UPS" = some (some (.int 200 tk_MOST_UPS)))
    (g_MOST_HEIGHT : PySem.W.nsIn K mainGlobals "MOST_HEIGHT" = some (some (.int 200 tk_MOST_HEIGHT)))
    (g_MOST_SIGNS : PySem.W.nsIn K mainGlobals "MOST_SIGNS" = some (some (.int 400 tk_MOST_SIGNS)))
    (z_len : PySem.W.nsIn K mainGlobals "len" = some none)
    (z_range : PySem.W.nsIn K mainGlobals "range" = some none)
    (z_min : PySem.W.nsIn K mainGlobals "min" = some none)
    (z_isinstance : PySem.W.nsIn K mainGlobals "isinstance" = some none)
    (z_int : PySem.W.nsIn K mainGlobals "int" = some none)
    (z_bool : PySem.W.nsIn K mainGlobals "bool" = some none)
    (z_enumerate : PySem.W.nsIn K mainGlobals "enumerate" = some none)
    : ∃ fd : FuncData, (∀ (s : Shared) (v : Value), BindsTo s fd ⟨[v], []⟩ [("_law_script", v)]) ∧ ∀ base : Heap, K.In base → base.Ns mainGlobals mg → FnOk l.prog w K mg base CX0 5 fa fd ["_law_script"] (spLaw K) := by
  have e := hfa.symm.trans (PySem.W.mg_of X G a)
  cases e
  have F := fun_mk (st := sLaw) l1 c k
  refine ⟨PySem.W.fnOf "law" "law" (defArgs sLaw) (defBody sLaw) (defScope sLaw) .none kV dc pm an cd ct, fun s v => .of_eq rfl, fun base _ _ => ?_⟩
  have m_len := PySem.W.mg_none_of X G z_len
  have m_range := PySem.W.mg_none_of X G z_range
  have m_min := PySem.W.mg_none_of X G z_min
  have m_isinstance := PySem.W.mg_none_of X G z_isinstance
  have m_int := PySem.W.mg_none_of X G z_int
  have m_bool := PySem.W.mg_none_of X G z_bool
  have m_enumerate := PySem.W.mg_none_of X G z_enumerate
  have c_MOST_UPS := PySem.W.mg_of X G g_MOST_UPS
  have c_MOST_HEIGHT := PySem.W.mg_of X G g_MOST_HEIGHT
  have c_MOST_SIGNS := PySem.W.mg_of X G g_MOST_SIGNS
  have cLow := cal_low (P := l.prog) (w := w) (base := base) d_lower_of m_min
  obtain ⟨cIsNumA, cIsNum⟩ := cal_isNum (P := l.prog) (w := w) (base := base) d_is_number m_isinstance m_int m_bool
  obtain ⟨cChNumA, cChNum⟩ := cal_chNum d_check_number cIsNumA
  have cChCei := cal_chCei d_check_ceiling cChNum c_MOST_HEIGHT
  have cStep := cal_step (P := l.prog) (w := w) (base := base) d_with_one_more_sign m_len m_range
  have cTable := cal_table d_ways_table cStep m_range
  have cHill := cal_hill d_hill_table cTable cLow
  obtain ⟨cC1, cC2⟩ := cal_counted d_counted cHill cChNum cChCei c_MOST_UPS
  obtain ⟨cW1, cW2⟩ := cal_ways d_ways cTable cLow cChNum cChCei c_MOST_HEIGHT c_MOST_SIGNS
  have cMixed := cal_mixed (P := l.prog) (w := w) (base := base) d_law_mixed
  exact ok_law F cC1 cW1 cW2 cMixed m_enumerate m_int
end Hr
open PySem PySem.W PyProof.Rows
set_option maxHeartbeats 0 in
theorem PySem.Challenge.cw_hillrows_k03_ways_holds : PySem.Challenge.rw_hillrows_k03_ways.Holds := by
  w_on; o_law; k_head; (case hw => w_witness2)
  k_fill
  refine L2.walk_of (l := PySem.Challenge.rw_hillrows_k03_ways) (n := 63) (k := 5) (x := "_law_script") (CX := fun _ => L2.CX0) (sp := fun w => Hr.spLaw _) rfl (by decide) rfl ⟨rfl, by decide, by decide⟩ (fun w h Y => PySem.W.kIn_of Y) ?F (fun _ _ a ns hl _ hS => ⟨a, ns, rfl, hS, hl, fun _ => rfl⟩) (fun _ _ _ _ _ h => h)
  case F =>
    intro w mg fa h KX G hmg
    refine' Hr.all_mk KX G hmg ?a ?l1 ?c ?k ?d_hill_table ?d_ways_table ?d_with_one_more_sign ?d_lower_of ?d_check_ceiling ?d_law_mixed ?d_counted ?d_ways ?d_is_number ?d_check_number ?g_MOST_UPS ?g_MOST_HEIGHT ?g_MOST_SIGNS ?z_len ?z_range ?z_min ?z_isinstance ?z_int ?z_bool ?z_enumerate
    (case a => k_is); (case l1 => k_is); (case c => k_is); (case k => k_is)
    case d_hill_table =>
      refine' Hr.def_mk KX G (fun _ _ _ _ _ _ us hl => match us, hl with | [_, _], _ => rfl) ?a ?l ?c ?k
      (case a => k_is); (case l => k_is); (case c => k_is); (case k => k_is)
    case d_ways_table =>
      refine' Hr.def_mk KX G (fun _ _ _ _ _ _ us hl => match us, hl with | [_, _], _ => rfl) ?a ?l ?c ?k
      (case a => k_is); (case l => k_is); (case c => k_is); (case k => k_is)
    case d_with_one_more_sign =>
      refine' Hr.def_mk KX G (fun _ _ _ _ _ _ us hl => match us, hl with | [_], _ => rfl) ?a ?l ?c ?k
      (case a => k_is); (case l => k_is); (case c => k_is); (case k => k_is)
    case d_lower_of =>
      refine' Hr.def_mk KX G (fun _ _ _ _ _ _ us hl => match us, hl with | [_, _], _ => rfl) ?a ?l ?c ?k
      (case a => k_is); (case l => k_is); (case c => k_is); (case k => k_is)
    case d_check_ceiling =>
      refine' Hr.def_mk KX G (fun _ _ _ _ _ _ us hl => match us, hl with | [_], _ => rfl) ?a ?l ?c ?k
      (case a => k_is); (case l => k_is); (case c => k_is); (case k => k_is)
    case d_law_mixed =>
      refine' Hr.def_mk KX G (fun _ _ _ _ _ _ us hl => match us, hl with | [_, _], _ => rfl) ?a ?l ?c ?k
      (case a => k_is); (case l => k_is); (case c => k_is); (case k => k_is)
    case d_counted =>
      refine' Hr.defD_mk (m := 1) KX G rfl (fun _ _ _ _ _ _ _ us its hu hi => match us, hu, its, hi with | [_, _], _, [_], _ => ⟨_, rfl, rfl⟩) (fun _ _ _ _ _ _ _ us its hu hi => match us, hu, its, hi with | [_], _, [_], _ => ⟨_, rfl, rfl⟩) ?a ?l ?c ?k ?t
      (case a => k_is); (case l => k_is); (case c => k_is); (case k => k_is); (case t => k_is)
    case d_ways =>
      refine' Hr.defD_mk (m := 2) KX G rfl (fun _ _ _ _ _ _ _ us its hu hi => match us, hu, its, hi with | [_, _, _], _, [_], _ => ⟨_, rfl, rfl⟩) (fun _ _ _ _ _ _ _ us its hu hi => match us, hu, its, hi with | [_, _], _, [_], _ => ⟨_, rfl, rfl⟩) ?a ?l ?c ?k ?t
      (case a => k_is); (case l => k_is); (case c => k_is); (case k => k_is); (case t => k_is)
    case d_is_number =>
      refine' Hr.defV_mk (m := 2) KX G rfl (fun _ _ _ _ _ _ _ us its hu hi => match us, hu, its, hi with | [_, _, _], _, [_], _ => ⟨_, rfl, rfl⟩) (fun _ _ _ _ _ _ _ us its hu hi => match us, hu, its, hi with | [_, _], _, [_], _ => ⟨_, rfl, rfl⟩) ?a ?l ?c ?k ?hu ?t
      (case a => k_is); (case l => k_is); (case c => k_is); (case k => k_is); (case t => k_is); (case hu => exact ⟨_, rfl⟩)
    case d_check_number =>
      refine' Hr.defV_mk (m := 2) KX G rfl (fun _ _ _ _ _ _ _ us its hu hi => match us, hu, its, hi with | [_, _, _], _, [_], _ => ⟨_, rfl, rfl⟩) (fun _ _ _ _ _ _ _ us its hu hi => match us, hu, its, hi with | [_, _], _, [_], _ => ⟨_, rfl, rfl⟩) ?a ?l ?c ?k ?hu ?t
      (case a => k_is); (case l => k_is); (case c => k_is); (case k => k_is); (case t => k_is); (case hu => exact ⟨_, rfl⟩)
    (case g_MOST_UPS => k_is)
    (case g_MOST_HEIGHT => k_is)
    (case g_MOST_SIGNS => k_is)
    (case z_len => k_is)
    (case z_range => k_is)
    (case z_min => k_is)
    (case z_isinstance => k_is)
    (case z_int => k_is)
    (case z_bool => k_is)
    (case z_enumerate => k_is)
