import PyProof.Rows.All
import Wide.All
import OpenK.AllK
import Wide.FinOn
import HandS.ForMost
import HandS.IsInst
import HandS.Defaults
import HandS.Walk
import HandS.Codes
import HandS.RevRange
import HandS.ForExc
import KE.GoesMore
import HandS.ExcIs
import HandS.RaiseMore
import HandS.FStr
import HandS.ExcValue
import KE.RegKIsAll
import PySem.Challenge.RW_hillrows_k02_counted
set_option Elab.async false
set_option linter.all false
set_option maxRecDepth 100000
namespace Hr
/-- the ways to the ground with k signs from the height h, none above T (for h at most T) -/
def W (T : Nat) : Nat → Nat → Nat
  | 0, h => if h = 0 then 1 else 0
  | k + 1, h => (if h = 0 then 0 else W T k (h - 1)) + (if h < T then W T k (h + 1) else 0)
theorem W_zero (T : Nat) : ∀ k h, k < h → W T k h = 0
  | 0, h, e => by
    unfold W
    rw [if_neg (by omega)]
  | k + 1, h, e => by
    unfold W
    rw [if_neg (show ¬ h = 0 by omega), W_zero T k (h - 1) (by omega), W_zero T k (h + 1) (by omega)]
    split <;> rfl
theorem W_same {T T' : Nat} (hT : T ≤ T') : ∀ k h, h ≤ T → k + h ≤ 2 * T + 1 → W T k h = W T' k h
  | 0, h, _, _ => by simp only [W]
  | k + 1, h, e, l => by
    simp only [W]
    by_cases h0 : h = 0
    · rw [if_pos h0, if_pos h0]
      by_cases hl : h < T
      · rw [if_pos hl, if_pos (show h < T' by omega), W_same hT k (h + 1) (by omega) (by omega)]
      · rw [if_neg hl]
        by_cases hl' : h < T'
        · rw [if_pos hl', W_zero T' k (h + 1) (by omega)]
        · rw [if_neg hl']
    · rw [if_neg h0, if_neg h0, W_same hT k (h - 1) (by omega) (by omega)]
      by_cases hl : h < T
      · rw [if_pos hl, if_pos (show h < T' by omega), W_same hT k (h + 1) (by omega) (by omega)]
      · rw [if_neg hl]
        by_cases hl' : h < T'
        · rw [if_pos hl', W_zero T' k (h + 1) (by omega)]
        · rw [if_neg hl']
/-- one row of the table -/
def rowW (T k : Nat) : List Int := (List.range (T + 1)).map fun h => ((W T k h : Nat) : Int)
theorem rowW_len (T k : Nat) : (rowW T k).length = T + 1 := by
  unfold rowW
  rw [List.length_map, List.length_range]
theorem rowW_get {T k h : Nat} (e : h ≤ T) : (rowW T k)[h]? = some ((W T k h : Nat) : Int) := by
  unfold rowW
  rw [List.getElem?_map, List.getElem?_range (by omega)]
  rfl
theorem rowW_zero (T : Nat) : rowW T 0 = 1 :: List.replicate T 0 := by
  unfold rowW
  apply List.ext_getElem?
  intro i
  rw [List.getElem?_map]
  cases i with
  | zero => rw [List.getElem?_range (by omega)]; rfl
  | succ i =>
    rw [List.getElem?_cons_succ]
    by_cases h : i < T
    · rw [List.getElem?_range (by omega), List.getElem?_replicate, if_pos h]
      rfl
    · rw [List.getElem?_eq_none (by rw [List.length_range]; omega), List.getElem?_replicate, if_neg h]
      rfl
/-- the padded row -/
def padW (l : List Int) : List Int := 0 :: (l ++ [0])
theorem pad_lo {T k h : Nat} (e : h ≤ T) : (padW (rowW T k))[h]? = some (((if h = 0 then 0 else W T k (h - 1) : Nat)) : Int) := by
  unfold padW
  cases h with
  | zero => rfl
  | succ h =>
    rw [List.getElem?_cons_succ, List.getElem?_append_left (by rw [rowW_len]; omega), rowW_get (by omega)]
    rfl
theorem pad_hi {T k h : Nat} (e : h ≤ T) : (padW (rowW T k))[h + 2]? = some (((if h < T then W T k (h + 1) else 0 : Nat)) : Int) := by
  unfold padW
  rw [List.getElem?_cons_succ]
  by_cases hl : h < T
  · rw [List.getElem?_append_left (by rw [rowW_len]; omega), rowW_get (by omega), if_pos hl]
  · have e : h = T := by omega
    subst e
    rw [List.getElem?_append_right (by rw [rowW_len]; omega), rowW_len, Nat.sub_self, if_neg hl]
    rfl
theorem row_step {T k h : Nat} (e : h ≤ T) : ∃ a b : Int, (padW (rowW T k))[h]? = some a ∧ (padW (rowW T k))[h + 2]? = some b ∧ (rowW T (k + 1))[h]? = some (a + b) := by
  refine ⟨_, _, pad_lo e, pad_hi e, ?_⟩
  rw [rowW_get e]
  simp only [W]
  rw [Int.natCast_add]
theorem W_le (T : Nat) : ∀ k h, W T k h ≤ 2 ^ k
  | 0, h => by
    unfold W
    split <;> decide
  | k + 1, h => by
    have a := W_le T k (h - 1)
    have b := W_le T k (h + 1)
    unfold W
    rw [Nat.pow_succ]
    split <;> split <;> omega

/-! ### hill rows by growing beginnings -/
section
variable {α : Type} (d u : α → α)
/-- the ceiling: none or some k -/
def under : Option Nat → Nat → Bool
  | none, _ => true
  | some c, h => decide (h < c)
def low (h : Nat) : Option Nat → Nat
  | none => h
  | some c => min h c
def grow1 (c : Option Nat) (p : α × Nat) : List (α × Nat) :=
  (if 0 < p.2 then [(d p.1, p.2 - 1)] else []) ++ (if under c p.2 = true then [(u p.1, p.2 + 1)] else [])
def growAll (c : Option Nat) (l : List (α × Nat)) : List (α × Nat) := l.flatMap (grow1 d u c)
def grown (c : Option Nat) (a : α) : Nat → List (α × Nat)
  | 0 => [(a, 0)]
  | k + 1 => growAll d u c (grown c a k)
def cnt (h : Nat) (l : List (α × Nat)) : Nat := (l.filter fun p => p.2 == h).length
theorem cnt_nil (h : Nat) : cnt h ([] : List (α × Nat)) = 0 := rfl
theorem cnt_append (h : Nat) (l r : List (α × Nat)) : cnt h (l ++ r) = cnt h l + cnt h r := by
  unfold cnt
  rw [List.filter_append, List.length_append]
theorem cnt_one (h : Nat) (a : α) (k : Nat) : cnt h [(a, k)] = if k = h then 1 else 0 := by
  unfold cnt
  by_cases e : k = h
  · rw [if_pos e, List.filter_cons_of_pos (by simp [e])]
    rfl
  · rw [if_neg e, List.filter_cons_of_neg (by simp [e])]
    rfl
theorem cnt_cons (h : Nat) (p : α × Nat) (l : List (α × Nat)) : cnt h (p :: l) = (if p.2 = h then 1 else 0) + cnt h l := by
  rw [← List.singleton_append, cnt_append, show cnt h [p] = if p.2 = h then 1 else 0 from cnt_one h p.1 p.2]
theorem cnt_grow1 (c : Option Nat) (h : Nat) (p : α × Nat) : cnt h (grow1 d u c p) = (if p.2 = h + 1 then 1 else 0) + (if 0 < h ∧ under c (h - 1) = true ∧ p.2 = h - 1 then 1 else 0) := by
  unfold grow1
  rw [cnt_append]
  congr 1
  · by_cases e : 0 < p.2
    · rw [if_pos e, cnt_one]
      by_cases e2 : p.2 = h + 1
      · rw [if_pos e2, if_pos (by omega)]
      · rw [if_neg e2, if_neg (by omega)]
    · rw [if_neg e, cnt_nil, if_neg (by omega)]
  · by_cases e : under c p.2 = true
    · rw [if_pos e, cnt_one]
      by_cases e2 : p.2 + 1 = h
      · have : h - 1 = p.2 := by omega
        rw [if_pos e2, if_pos ⟨by omega, by rw [this]; exact e, by omega⟩]
      · rw [if_neg e2, if_neg (by omega)]
    · rw [if_neg e, cnt_nil]
      by_cases e2 : 0 < h ∧ under c (h - 1) = true ∧ p.2 = h - 1
      · rw [← e2.2.2] at e2
        exact absurd e2.2.1 e
      · rw [if_neg e2]
theorem cnt_growAll (c : Option Nat) (h : Nat) : ∀ l : List (α × Nat), cnt h (growAll d u c l) = cnt (h + 1) l + (if 0 < h ∧ under c (h - 1) = true then cnt (h - 1) l else 0)
  | [] => by
    show 0 = 0 + (if _ then 0 else 0)
    split <;> rfl
  | p :: l => by
    have e : growAll d u c (p :: l) = grow1 d u c p ++ growAll d u c l := rfl
    rw [e, cnt_append, cnt_grow1, cnt_growAll c h l, cnt_cons, cnt_cons]
    by_cases e1 : 0 < h ∧ under c (h - 1) = true
    · rw [if_pos e1, if_pos e1]
      by_cases e2 : p.2 = h - 1
      · rw [if_pos (show 0 < h ∧ under c (h - 1) = true ∧ p.2 = h - 1 from ⟨e1.1, e1.2, e2⟩), if_pos e2]
        omega
      · rw [if_neg (show ¬ (0 < h ∧ under c (h - 1) = true ∧ p.2 = h - 1) from fun z => e2 z.2.2), if_neg e2]
        omega
    · rw [if_neg e1, if_neg e1, if_neg (show ¬ (0 < h ∧ under c (h - 1) = true ∧ p.2 = h - 1) from fun z => e1 ⟨z.1, z.2.1⟩)]
      omega
/-- no row grown in k signs is higher than k -/
theorem cnt_grown (c : Option Nat) (a : α) (T : Nat) (hT : ∀ k, c = some k → T = k) : ∀ k h, (c = none → k + h ≤ 2 * T + 1) → h ≤ T → cnt h (grown d u c a k) = W T k h
  | 0, h, _, _ => by
    show cnt h [(a, 0)] = _
    rw [cnt_one]
    unfold W
    by_cases e : h = 0
    · rw [if_pos e, if_pos e.symm]
    · rw [if_neg e, if_neg (fun z => e z.symm)]
  | k + 1, h, hc, hl => by
    show cnt h (growAll d u c (grown d u c a k)) = _
    rw [cnt_growAll]
    simp only [W]
    rw [Nat.add_comm]
    congr 1
    · by_cases e0 : h = 0
      · rw [if_pos e0, if_neg (by omega)]
      · rw [if_neg e0]
        have hu : under c (h - 1) = true := by
          cases c with
          | none => rfl
          | some k =>
            have := hT k rfl
            unfold under
            exact decide_eq_true (by omega)
        rw [if_pos ⟨by omega, hu⟩, cnt_grown c a T hT k (h - 1) (fun z => by have := hc z; omega) (by omega)]
    · by_cases e : h < T
      · rw [if_pos e, cnt_grown c a T hT k (h + 1) (fun z => by have := hc z; omega) (by omega)]
      · rw [if_neg e]
        cases c with
        | none =>
          have z := hc rfl
          exact cnt_zero_len none a k (h + 1) (by omega)
        | some j =>
          have e3 := hT j rfl
          exact cnt_zero_top2 j a k (h + 1) (by omega)
where
  cnt_zero_len (c : Option Nat) (a : α) : ∀ k h, k < h → cnt h (grown d u c a k) = 0
    | 0, h, e => by
      show cnt h [(a, 0)] = 0
      rw [cnt_one, if_neg (by omega)]
    | k + 1, h, e => by
      show cnt h (growAll d u c (grown d u c a k)) = 0
      rw [cnt_growAll, cnt_zero_len c a k (h + 1) (by omega), cnt_zero_len c a k (h - 1) (by omega)]
      split <;> rfl
  cnt_zero_top2 (j : Nat) (a : α) : ∀ k h, j < h → cnt h (grown d u (some j) a k) = 0
    | 0, h, e => by
      show cnt h [(a, 0)] = 0
      rw [cnt_one, if_neg (by omega)]
    | k + 1, h, e => by
      show cnt h (growAll d u (some j) (grown d u (some j) a k)) = 0
      rw [cnt_growAll, cnt_zero_top2 j a k (h + 1) (by omega), if_neg (fun z => ?_)]
      have := z.2
      unfold under at this
      have := of_decide_eq_true this
      omega
theorem grown_len (c : Option Nat) (a : α) : ∀ k, (grown d u c a k).length ≤ 2 ^ k
  | 0 => Nat.le_refl 1
  | k + 1 => by
    have ih := grown_len c a k
    have g : ∀ l : List (α × Nat), (growAll d u c l).length ≤ 2 * l.length := by
      intro l
      induction l with
      | nil => exact Nat.le_refl _
      | cons p l il =>
        have e : growAll d u c (p :: l) = grow1 d u c p ++ growAll d u c l := rfl
        rw [e, List.length_append, List.length_cons]
        have : (grow1 d u c p).length ≤ 2 := by
          unfold grow1
          rw [List.length_append]
          split <;> split <;> simp
        omega
    have := g (grown d u c a k)
    show (growAll d u c (grown d u c a k)).length ≤ _
    rw [Nat.pow_succ]
    omega
/-- as many as the table counts -/
theorem counted_ok (c : Option Nat) (a : α) (n : Nat) : cnt 0 (grown d u c a (2 * n)) = W (low n c) (2 * n) 0 := by
  cases c with
  | none => exact cnt_grown d u none a n (fun _ z => nomatch z) _ _ (fun _ => by omega) (Nat.zero_le _)
  | some j =>
    rw [cnt_grown d u (some j) a j (fun k z => by cases z; rfl) _ _ (fun z => nomatch z) (Nat.zero_le _)]
    show W j (2 * n) 0 = W (min n j) (2 * n) 0
    by_cases h : j ≤ n
    · rw [Nat.min_eq_right h]
    · rw [Nat.min_eq_left (by omega)]
      exact (W_same (by omega) _ _ (Nat.zero_le _) (by omega)).symm
end
end Hr
/-! ### defs of the text, by what they promise -/
namespace Hr
open PySem PySem.Spec PyProof.Rows L2
theorem same_upd {H : Hp} {p : Addr} {o : HO} (h : H p = none) : Same H (upd H p o) := fun b x e => by
  rw [upd_ne (ne_of_none e h)]
  exact e
/-- what was new may change -/
theorem same_updN {H0 H : Hp} {p : Addr} {o : HO} (s : Same H0 H) (n : H0 p = none) : Same H0 (upd H p o) := fun b x e => by
  rw [upd_ne (ne_of_none e n)]
  exact s b x e
theorem sz {n : Nat} (h : n ≤ 1000000) : n ≤ sizeLine := Nat.le_trans h (by decide)
theorem szl {n : Nat} (h : n < 1000000) : n < sizeLine := Nat.lt_of_lt_of_le h (by decide)
section
variable (K : PySem.W.Frag) (mg : Str → Option Value)
structure Def (x : Str) (st : Stmt) (ps : List Str) : Prop where
  ex : ∃ (f : Addr) (fd : FuncData), Fun K x x st f fd ∧ mg x = some (.ref f) ∧ Binds K fd ps []
/-- a def whose last parameter is None where it is left out -/
structure DefD (x : Str) (st : Stmt) (ps : List Str) : Prop where
  ex : ∃ (f : Addr) (fd : FuncData), FunD K x x (defArgs st) (defBody st) (defScope st) [V.non] [] f fd ∧ mg x = some (.ref f) ∧ Binds K fd ps [] ∧ ∃ ds, Vals [V.non] ds ∧ Binds K fd ps ds
/-- a def whose last parameter is dv where it is left out -/
structure DefV (x : Str) (st : Stmt) (ps : List Str) (dv : V) : Prop where
  ex : ∃ (f : Addr) (fd : FuncData), FunD K x x (defArgs st) (defBody st) (defScope st) [dv] [] f fd ∧ mg x = some (.ref f) ∧ Binds K fd ps [] ∧ ∃ ds, Vals [dv] ds ∧ Binds K fd ps ds
structure Cal (CX : CXT) (P : Program) (w : World) (base : Heap) (k : Nat) (x : Str) (dvs : List V) (sp : Sp) : Prop where
  ex : ∃ (f : Addr) (fd : FuncData) (ps : List Str) (ds : List Value), FnOk P w K mg base CX k f fd ps sp ∧ mg x = some (.ref f) ∧ PySem.W.keepIn K (.ref f) = true ∧ Binds K fd ps ds ∧ Vals dvs ds
end
section
variable {P : Program} {w : World} {K : PySem.W.Frag} {mg : Str → Option Value} {base : Heap}
theorem Def.cal {x : Str} {st : Stmt} {N ps : List Str} {k : Nat} {sp : Sp} (D : Def K mg x st ps) (S : FnScope N ps (defScope st)) (len : ∀ vs H Q E, sp vs H Q E → vs.length = ps.length)
    (hbody : ∀ (f : Addr) (cdv : Value) (A : Around) (outer : List Env) (s : Shared) (H : Hp) (vs : List V) (Q : VK) (E : XK), Room k (A.deeper (envOfC x (defScope st) s.heap.objs.size f cdv)) → sp vs H Q E →
      ∃ t, PSs (cxOf CX0 P w K mg base N x (defScope st) f cdv A outer s H E).nox (defBody st) t ∧ t { nx := fun _ H' => Q .non H', rt := Q } (start N vs) H) : Cal K mg CX0 P w base (k + 1) x [] sp := by
  obtain ⟨f, fd, F, hm, b⟩ := D.ex
  exact ⟨f, fd, ps, [], F.ok S len (hbody f), hm, F.kp, b, .nil⟩
theorem DefD.ok {x : Str} {st : Stmt} {N ps : List Str} {k : Nat} {sp : Sp} (D : DefD K mg x st ps) (S : FnScope N ps (defScope st)) (len : ∀ vs H Q E, sp vs H Q E → vs.length = ps.length)
    (hbody : ∀ (f : Addr) (cdv : Value) (A : Around) (outer : List Env) (s : Shared) (H : Hp) (vs : List V) (Q : VK) (E : XK), Room k (A.deeper (envOfC x (defScope st) s.heap.objs.size f cdv)) → sp vs H Q E →
      ∃ t, PSs (cxOf CX0 P w K mg base N x (defScope st) f cdv A outer s H E).nox (defBody st) t ∧ t { nx := fun _ H' => Q .non H', rt := Q } (start N vs) H) :
    Cal K mg CX0 P w base (k + 1) x [] sp ∧ Cal K mg CX0 P w base (k + 1) x [.non] sp := by
  obtain ⟨f, fd, F, hm, b, ds, vd, b2⟩ := D.ex
  have G : FnOk P w K mg base CX0 (k + 1) f fd ps sp := F.ok S len fun cdv A outer s H vs Q E hr hsp => by
    obtain ⟨t, h, q⟩ := hbody f cdv A outer s H vs Q E hr hsp
    exact ⟨t, h.nox, q⟩
  exact ⟨⟨f, fd, ps, [], G, hm, F.kp, b, .nil⟩, ⟨f, fd, ps, ds, G, hm, F.kp, b2, vd⟩⟩
theorem DefV.ok {x : Str} {st : Stmt} {N ps : List Str} {dv : V} {k : Nat} {sp : Sp} (D : DefV K mg x st ps dv) (S : FnScope N ps (defScope st)) (len : ∀ vs H Q E, sp vs H Q E → vs.length = ps.length)
    (hbody : ∀ (f : Addr) (cdv : Value) (A : Around) (outer : List Env) (s : Shared) (H : Hp) (vs : List V) (Q : VK) (E : XK), Room k (A.deeper (envOfC x (defScope st) s.heap.objs.size f cdv)) → sp vs H Q E →
      ∃ t, PSs (cxOf CX0 P w K mg base N x (defScope st) f cdv A outer s H E).nox (defBody st) t ∧ t { nx := fun _ H' => Q .non H', rt := Q } (start N vs) H) :
    Cal K mg CX0 P w base (k + 1) x [] sp ∧ Cal K mg CX0 P w base (k + 1) x [dv] sp := by
  obtain ⟨f, fd, F, hm, b, ds, vd, b2⟩ := D.ex
  have G : FnOk P w K mg base CX0 (k + 1) f fd ps sp := F.ok S len fun cdv A outer s H vs Q E hr hsp => by
    obtain ⟨t, h, q⟩ := hbody f cdv A outer s H vs Q E hr hsp
    exact ⟨t, h.nox, q⟩
  exact ⟨⟨f, fd, ps, [], G, hm, F.kp, b, .nil⟩, ⟨f, fd, ps, ds, G, hm, F.kp, b2, vd⟩⟩
/-- a weaker promise -/
theorem Cal.imp {CX : CXT} {x : Str} {dvs : List V} {k : Nat} {sp sp' : Sp} (C : Cal K mg CX P w base k x dvs sp) (h : ∀ vs H Q E, sp' vs H Q E → sp vs H Q E) : Cal K mg CX P w base k x dvs sp' := by
  obtain ⟨f, fd, ps, ds, G, hm, kp, b, d⟩ := C.ex
  exact ⟨f, fd, ps, ds, G.imp h, hm, kp, b, d⟩
end
section
variable {X : Cx}
theorem pe_c {k j : Nat} {x : Str} {dvs : List V} {sp : Sp} {e : Expr} {es : List Expr} {t : TA} {p pos : Pos} (c : Cal X.K X.mg CX0 X.prog X.w X.base k x dvs sp) (hr : Room j X.A) (ha : PA X (e :: es) t) (hk : k ≤ j := by decide) (hg : Gl X x := by rfl)
    (hdb : (x == ("__debug__" : Str)) = false := by decide) (he : starEach (e :: es) X.env = (false, eval e X.env) :: starEach es X.env := by rfl) (hpl : (backTo pos (starEach es X.env)).any (·.1) = false := by rfl) :
    PE X (.Call (.Name x p) (e :: es) [] pos) (tCall sp dvs E0 t) := by
  obtain ⟨f, fd, ps, ds, F, hm, kp, b, d⟩ := c.ex
  exact pe_call F (hr.mono hk) hg hm kp b d pass0 ha hdb he hpl
end
/-- from what the top has left -/
theorem def_mk {K : PySem.W.Frag} {mg : Str → Option Value} {h : Heap} {x : Str} {st : Stmt} {ps : List Str} {f : Addr} {oc : Value} {od an : Option Addr} {osl : Array (Option Value)} {kV doc pm cdv ct : Value} (X : K.In h) (G : h.Ns mainGlobals mg)
    (hb : ∀ (kV doc pm : Value) (an : Option Addr) (cdv ct : Value) (us : List Value), us.length = ps.length → bindArgs (PySem.W.fnOf x x (defArgs st) (defBody st) (defScope st) .none kV doc pm an cdv ct) ⟨us, []⟩ = pure (ps.zip us))
    (a : PySem.W.nsIn K mainGlobals x = some (some (.ref f))) (l : K.lookup f = some ⟨oc, od, .func (PySem.W.fnOf x x (defArgs st) (defBody st) (defScope st) .none kV doc pm an cdv ct), osl⟩)
    (c : PySem.W.codeIn K cdv x = true) (k : PySem.W.keepIn K (.ref f) = true) : Def K mg x st ps :=
  have F := fun_mk (st := st) l c k
  ⟨f, _, F, PySem.W.mg_of X G a, F.binds hb⟩
theorem defD_mk {K : PySem.W.Frag} {mg : Str → Option Value} {h : Heap} {x : Str} {st : Stmt} {ps : List Str} {f T : Addr} {oc tc : Value} {od an td : Option Addr} {osl tsl : Array (Option Value)} {kV doc pm cdv ct : Value} {n m : Nat} (X : K.In h) (G : h.Ns mainGlobals mg)
    (hn : ps.length = m + 1)
    (hb2 : ∀ (T : Addr) (kV doc pm : Value) (an : Option Addr) (cdv ct : Value) (us its : List Value), us.length = m + 1 → its.length = 1 →
      ∃ k, bindArgs (PySem.W.fnOf x x (defArgs st) (defBody st) (defScope st) (.ref T) kV doc pm an cdv ct) ⟨us, []⟩ = seqItems? (.ref T) >>= k ∧ k (some its.toArray) = pure (ps.zip (us ++ its.drop 1)))
    (hb1 : ∀ (T : Addr) (kV doc pm : Value) (an : Option Addr) (cdv ct : Value) (us its : List Value), us.length = m → its.length = 1 →
      ∃ k, bindArgs (PySem.W.fnOf x x (defArgs st) (defBody st) (defScope st) (.ref T) kV doc pm an cdv ct) ⟨us, []⟩ = seqItems? (.ref T) >>= k ∧ k (some its.toArray) = pure (ps.zip (us ++ its.drop 0)))
    (a : PySem.W.nsIn K mainGlobals x = some (some (.ref f))) (l : K.lookup f = some ⟨oc, od, .func (PySem.W.fnOf x x (defArgs st) (defBody st) (defScope st) (.ref T) kV doc pm an cdv ct), osl⟩)
    (c : PySem.W.codeIn K cdv x = true) (k : PySem.W.keepIn K (.ref f) = true) (lT : K.lookup T = some ⟨tc, td, .seq #[.none] n, tsl⟩) : DefD K mg x st ps := by
  have F : FunD K x x (defArgs st) (defBody st) (defScope st) [V.non] [] f (PySem.W.fnOf x x (defArgs st) (defBody st) (defScope st) (.ref T) kV doc pm an cdv ct) :=
    ⟨⟨oc, od, .ref T, kV, doc, pm, an, cdv, ct, osl, rfl, l, c, .inr ⟨List.cons_ne_nil _ _, T, _, [.none], n, rfl, lT, rfl, .cons rfl .nil⟩, .inl rfl⟩, k⟩
  obtain ⟨d2, v2, b2⟩ := F.binds1 (m + 1) 1 (List.cons_ne_nil _ _) (by rw [hn]; rfl) (fun T kV doc pm an cdv ct us its h1 h2 => hb2 T kV doc pm an cdv ct us its h1 h2)
  obtain ⟨d1, v1, b1⟩ := F.binds1 m 0 (List.cons_ne_nil _ _) (by rw [hn]; rfl) (fun T kV doc pm an cdv ct us its h1 h2 => hb1 T kV doc pm an cdv ct us its h1 h2)
  have e2 : d2 = [] := by
    cases v2
    rfl
  subst e2
  exact ⟨f, _, F, PySem.W.mg_of X G a, b2, d1, v1, b1⟩
theorem defV_mk {K : PySem.W.Frag} {mg : Str → Option Value} {h : Heap} {x : Str} {st : Stmt} {ps : List Str} {dv : V} {u : Value} {f T : Addr} {oc tc : Value} {od an td : Option Addr} {osl tsl : Array (Option Value)} {kV doc pm cdv ct : Value} {n m : Nat} (X : K.In h) (G : h.Ns mainGlobals mg)
    (hn : ps.length = m + 1)
    (hb2 : ∀ (T : Addr) (kV doc pm : Value) (an : Option Addr) (cdv ct : Value) (us its : List Value), us.length = m + 1 → its.length = 1 →
      ∃ k, bindArgs (PySem.W.fnOf x x (defArgs st) (defBody st) (defScope st) (.ref T) kV doc pm an cdv ct) ⟨us, []⟩ = seqItems? (.ref T) >>= k ∧ k (some its.toArray) = pure (ps.zip (us ++ its.drop 1)))
    (hb1 : ∀ (T : Addr) (kV doc pm : Value) (an : Option Addr) (cdv ct : Value) (us its : List Value), us.length = m → its.length = 1 →
      ∃ k, bindArgs (PySem.W.fnOf x x (defArgs st) (defBody st) (defScope st) (.ref T) kV doc pm an cdv ct) ⟨us, []⟩ = seqItems? (.ref T) >>= k ∧ k (some its.toArray) = pure (ps.zip (us ++ its.drop 0)))
    (a : PySem.W.nsIn K mainGlobals x = some (some (.ref f))) (l : K.lookup f = some ⟨oc, od, .func (PySem.W.fnOf x x (defArgs st) (defBody st) (defScope st) (.ref T) kV doc pm an cdv ct), osl⟩)
    (c : PySem.W.codeIn K cdv x = true) (k : PySem.W.keepIn K (.ref f) = true) (hu : RelV dv u) (lT : K.lookup T = some ⟨tc, td, .seq #[u] n, tsl⟩) : DefV K mg x st ps dv := by
  have F : FunD K x x (defArgs st) (defBody st) (defScope st) [dv] [] f (PySem.W.fnOf x x (defArgs st) (defBody st) (defScope st) (.ref T) kV doc pm an cdv ct) :=
    ⟨⟨oc, od, .ref T, kV, doc, pm, an, cdv, ct, osl, rfl, l, c, .inr ⟨List.cons_ne_nil _ _, T, _, [u], n, rfl, lT, rfl, .cons hu .nil⟩, .inl rfl⟩, k⟩
  obtain ⟨d2, v2, b2⟩ := F.binds1 (m + 1) 1 (List.cons_ne_nil _ _) (by rw [hn]; rfl) (fun T kV doc pm an cdv ct us its h1 h2 => hb2 T kV doc pm an cdv ct us its h1 h2)
  obtain ⟨d1, v1, b1⟩ := F.binds1 m 0 (List.cons_ne_nil _ _) (by rw [hn]; rfl) (fun T kV doc pm an cdv ct us its h1 h2 => hb1 T kV doc pm an cdv ct us its h1 h2)
  have e2 : d2 = [] := by
    cases v2
    rfl
  subst e2
  exact ⟨f, _, F, PySem.W.mg_of X G a, b2, d1, v1, b1⟩
end Hr
/-! ### the text of this law -/
namespace Hr
open PySem PySem.Spec PyProof.Rows L2
def topS (i : Nat) : Stmt := PySem.Challenge.pw_hillrows_k02_counted.main.body.getD i (.Pass ⟨0, 0, 0, 0⟩)
abbrev sCounted : Stmt := topS 6
abbrev sHill : Stmt := topS 7
abbrev sTable : Stmt := topS 8
abbrev sStep : Stmt := topS 9
abbrev sLow : Stmt := topS 10
abbrev sIsNum : Stmt := topS 11
abbrev sChNum : Stmt := topS 12
abbrev sChCei : Stmt := topS 13
abbrev sMixed : Stmt := topS 15
abbrev sAll : Stmt := topS 17
abbrev sLaw : Stmt := topS 18
end Hr
/-! ### the table of ways -/
namespace Hr
open PySem PySem.Spec PyProof.Rows L2
theorem scLow : FnScope ["height", "ceiling"] ["height", "ceiling"] (defScope sLow) := ⟨rfl, rfl, rfl, by decide +kernel, rfl, by decide +kernel, by decide +kernel⟩
theorem scIsNum : FnScope ["value", "most", "least"] ["value", "most", "least"] (defScope sIsNum) := ⟨rfl, rfl, rfl, by decide +kernel, rfl, by decide +kernel, by decide +kernel⟩
theorem scChNum : FnScope ["value", "most", "least"] ["value", "most", "least"] (defScope sChNum) := ⟨rfl, rfl, rfl, by decide +kernel, rfl, by decide +kernel, by decide +kernel⟩
theorem scChCei : FnScope ["ceiling"] ["ceiling"] (defScope sChCei) := ⟨rfl, rfl, rfl, by decide +kernel, rfl, by decide +kernel, by decide +kernel⟩
theorem scStep : FnScope ["found", "padded", "height"] ["found"] (defScope sStep) := ⟨rfl, rfl, rfl, by decide +kernel, rfl, by decide +kernel, by decide +kernel⟩
theorem scTable : FnScope ["left", "top", "table", "_"] ["left", "top"] (defScope sTable) := ⟨rfl, rfl, rfl, by decide +kernel, rfl, by decide +kernel, by decide +kernel⟩
theorem scHill : FnScope ["n", "ceiling"] ["n", "ceiling"] (defScope sHill) := ⟨rfl, rfl, rfl, by decide +kernel, rfl, by decide +kernel, by decide +kernel⟩
theorem scCounted : FnScope ["n", "ceiling"] ["n", "ceiling"] (defScope sCounted) := ⟨rfl, rfl, rfl, by decide +kernel, rfl, by decide +kernel, by decide +kernel⟩
/-- a ceiling as a value -/
def cV : Option Nat → V
  | none => .non
  | some k => .int (k : Int)
/-- a ceiling in its bounds -/
def cOk (m : Nat) : Option Nat → Prop
  | none => True
  | some k => k ≤ m
section
variable {P : Program} {w : World} {K : PySem.W.Frag} {mg : Str → Option Value} {base : Heap}
def spLow : Sp := fun vs H Q _ => ∃ (h : Nat) (c : Option Nat), vs = [.int (h : Int), cV c] ∧ Q (.int ((low h c : Nat) : Int)) H
theorem cal_low (D : Def K mg "lower_of" sLow ["height", "ceiling"]) (mmin : mg "min" = none) : Cal K mg CX0 P w base 1 "lower_of" [] spLow := by
  refine D.cal scLow (fun vs H Q E h => ?_) (fun f cdv A outer s H vs Q E hr h => ?_)
  · obtain ⟨h, c, rfl, _⟩ := h
    rfl
  · obtain ⟨h, c, rfl, q⟩ := h
    refine ⟨_, pss_one (ps_ret (pe_ifExp (pt_cmp (pc_isN (pv 1))) (pv 0) (pe_callB (call_min2 rfl) (by rfl) mmin boot_min (pa_cons (pv 0) (pa_cons (pv 1) pa_nil))))), ?_⟩
    cases c with
    | none => exact ⟨.non, rfl, true, rfl, iteT ⟨_, rfl, q⟩⟩
    | some k =>
      refine ⟨.int (k : Int), rfl, false, rfl, iteF ⟨_, rfl, _, rfl, _, _, rfl, ?_⟩⟩
      have e : (if (k : Int) < (h : Int) then (k : Int) else (h : Int)) = ((low h (some k) : Nat) : Int) := by
        show _ = ((min h k : Nat) : Int)
        split <;> omega
      rw [e]
      exact q
/-- a number within its bounds: True -/
def spIsNum : Sp := fun vs H Q _ => ∃ (i m : Int), vs = [.int i, .int m, .int 0] ∧ Q (.bl (decide (0 ≤ i ∧ i ≤ m))) H
theorem cal_isNum (D : DefV K mg "is_number" sIsNum ["value", "most", "least"] (.int 0)) (misi : mg "isinstance" = none) (mint : mg "int" = none) (mbool : mg "bool" = none) : Cal K mg CX0 P w base 1 "is_number" [] spIsNum ∧ Cal K mg CX0 P w base 1 "is_number" [.int 0] spIsNum := by
  refine D.ok scIsNum (fun vs H Q E h => ?_) (fun f cdv A outer s H vs Q E hr h => ?_)
  · obtain ⟨i, m, rfl, _⟩ := h
    rfl
  · obtain ⟨i, m, rfl, q⟩ := h
    refine ⟨_, pss_one (ps_ret (pe_and (pe_callB call_isi (by rfl) misi (by decide +kernel) (pa_cons (pv 0) (pa_cons (pe_bltn (v := .ty "int") (u := .type "int") (by rfl) mint (by decide +kernel) rfl) pa_nil)))
      (pe_and (pe_not (pe_callB call_isi (by rfl) misi (by decide +kernel) (pa_cons (pv 0) (pa_cons (pe_bltn (v := .ty "bool") (u := .type "bool") (by rfl) mbool (by decide +kernel) rfl) pa_nil))))
      (pe_one (pe_chain op_le op_le (pv 2) (pv 0) (pv 1)))))), ?_⟩
    refine ⟨.int i, rfl, .int i, .ty "int", _, _, true, rfl, .ty "int", .base (.int i), kit_ty (by decide +kernel), true, rfl, iteT ?_⟩
    refine ⟨.int i, rfl, .int i, .ty "bool", _, _, false, rfl, .ty "bool", .base (.int i), kit_ty (by decide +kernel), false, rfl, true, rfl, iteT ?_⟩
    refine ⟨.int 0, rfl, .int i, rfl, 0, i, rfl, rfl, decide (0 ≤ i), rfl, ite2 (fun e => ?_) (fun e => ?_)⟩
    · refine ⟨.int m, rfl, i, m, rfl, rfl, ?_⟩
      have e0 : 0 ≤ i := of_decide_eq_true e
      show Q (.bl (decide (i ≤ m))) H
      rw [show decide (i ≤ m) = decide (0 ≤ i ∧ i ≤ m) from decide_eq_decide.mpr ⟨fun z => ⟨e0, z⟩, fun z => z.2⟩]
      exact q
    · have e0 : ¬ 0 ≤ i := fun z => e (decide_eq_true z)
      rw [show false = decide (0 ≤ i ∧ i ≤ m) from (decide_eq_false (fun z => e0 z.1)).symm]
      exact q
/-- nothing is refused -/
def spChNum : Sp := fun vs H Q _ => ∃ (i m : Int), vs = [.int i, .int m, .int 0] ∧ 0 ≤ i ∧ i ≤ m ∧ Q .non H
theorem cal_chNum (D : DefV K mg "check_number" sChNum ["value", "most", "least"] (.int 0)) (C : Cal K mg CX0 P w base 1 "is_number" [] spIsNum) : Cal K mg CX0 P w base 2 "check_number" [] spChNum ∧ Cal K mg CX0 P w base 2 "check_number" [.int 0] spChNum := by
  refine D.ok scChNum (fun vs H Q E h => ?_) (fun f cdv A outer s H vs Q E hr h => ?_)
  · obtain ⟨i, m, rfl, _⟩ := h
    rfl
  · obtain ⟨i, m, rfl, h0, h1, q⟩ := h
    refine ⟨_, pss_one (ps_if (pt_not (pt_val (pe_c C hr (pa_cons (pv 0) (pa_cons (pv 1) (pa_cons (pv 2) pa_nil)))))) pss_never pss_nil), ?_⟩
    refine ⟨.int i, rfl, .int m, rfl, .int 0, rfl, i, m, rfl, true, ?_, iteF q⟩
    rw [decide_eq_true (show 0 ≤ i ∧ i ≤ m from ⟨h0, h1⟩)]
def spChCei : Sp := fun vs H Q _ => ∃ (c : Option Nat), vs = [cV c] ∧ cOk 200 c ∧ Q .non H
theorem cal_chCei (D : Def K mg "check_ceiling" sChCei ["ceiling"]) (C : Cal K mg CX0 P w base 2 "check_number" [.int 0] spChNum) {tk : Tok} (gM : mg "MOST_HEIGHT" = some (.int 200 tk)) : Cal K mg CX0 P w base 3 "check_ceiling" [] spChCei := by
  refine D.cal scChCei (fun vs H Q E h => ?_) (fun f cdv A outer s H vs Q E hr h => ?_)
  · obtain ⟨c, rfl, _⟩ := h
    rfl
  · obtain ⟨c, rfl, hc, q⟩ := h
    refine ⟨_, pss_one (ps_if (pt_cmp (pc_notN (pv 0))) (pss_one (ps_expr (pe_c C hr (pa_cons (pv 0) (pa_cons (pe_glob (v := .int 200) (by rfl) gM ⟨_, rfl⟩) pa_nil))))) pss_nil), ?_⟩
    cases c with
    | none => exact ⟨.non, rfl, false, rfl, iteF q⟩
    | some k =>
      have hk : k ≤ 200 := hc
      exact ⟨.int (k : Int), rfl, true, rfl, iteT ⟨.int (k : Int), rfl, _, _, rfl, by omega, by omega, q⟩⟩
/-- one sign more -/
def spStep : Sp := fun vs H Q _ => ∃ (a : Addr) (T k : Nat), vs = [.ref a] ∧ H a = some (.lst ((rowW T k).map V.int)) ∧ T ≤ 1000 ∧
  ∀ H' p, Same H H' → H p = none → H' p = some (.lst ((rowW T (k + 1)).map V.int)) → Q (.ref p) H'
theorem cal_step (D : Def K mg "with_one_more_sign" sStep ["found"]) (mlen : mg "len" = none) (mrange : mg "range" = none) : Cal K mg CX0 P w base 1 "with_one_more_sign" [] spStep := by
  refine D.cal scStep (fun vs H Q E h => ?_) (fun f cdv A outer s H vs Q E hr h => ?_)
  · obtain ⟨a, T, k, rfl, _⟩ := h
    rfl
  · obtain ⟨a, T, k, rfl, ha, hT, q⟩ := h
    refine ⟨_, pss_cons (ps_set (i := 1) scStep.nd rfl (.inr rfl) (pe_op op_cat (pe_op op_cat (pe_lst (pa_cons pe_int pa_nil)) (pv 0)) (pe_lst (pa_cons pe_int pa_nil))))
      (pss_one (ps_ret (pe_lc (own := [("height", 2)]) (g := gName 2) (tt := tYes) rfl scStep.nd (pi_range1 (by rfl) mrange (pa_cons (pe_callB call_len_seq (by rfl) mlen PySem.boot_len (pa_cons (pv 0) pa_nil)) pa_nil))
        (blkOk_by (N := ["found", "padded", "height"]) (sc := defScope sStep) (by decide +kernel)) (fun _ _ _ _ _ => pg_name (i := 2) scStep.nd rfl (Or.inl rfl)) (fun _ _ _ _ _ => pts_nil)
        (fun _ _ _ _ _ => pe_op op_add (pe_ix (r := rIxL K) ix_list (pv 1) (pv 2) (fun _ _ => rfl)) (pe_ix (r := rIxL K) ix_list (pv 1) (pe_op op_add (pv 2) pe_int) (fun _ _ => rfl)))))), ?_⟩
    have hl : ((rowW T k).map V.int).length = T + 1 := by rw [List.length_map, rowW_len]
    refine ⟨sz (by decide), fun p1 n1 => ?_⟩
    have s1 := same_upd (o := .lst [.int 0]) n1
    refine ⟨.ref a, rfl, p1, a, _, _, rfl, rfl, upd_same, s1 _ _ ha, sz (by rw [hl]; show 1 + (T + 1) ≤ _; omega), fun p2 n2 => ?_⟩
    have s2 := s1.trans (same_upd (o := .lst ([.int 0] ++ (rowW T k).map V.int)) n2)
    refine ⟨sz (by decide), fun p3 n3 => ?_⟩
    have n23 : p2 ≠ p3 := ne_of_none upd_same n3
    have s3 := s2.trans (same_upd (o := .lst [.int 0]) n3)
    refine ⟨p2, p3, _, _, rfl, rfl, by rw [upd_ne n23]; exact upd_same, upd_same, sz (by rw [List.length_append, hl]; show 1 + (T + 1) + 1 ≤ _; omega), fun p4 n4 => ?_⟩
    have s4 := s3.trans (same_upd (o := .lst ([.int 0] ++ (rowW T k).map V.int ++ [.int 0])) n4)
    have ep : ([V.int 0] ++ (rowW T k).map V.int ++ [V.int 0]) = (padW (rowW T k)).map V.int := by
      unfold padW
      rw [List.map_cons, List.map_append]
      rfl
    -- the comprehension
    refine ⟨.ref a, rfl, a, _, rfl, .inl (.inl (.inl (s4 _ _ ha))), ((T + 1 : Nat) : Int), by rw [hl], by omega, by omega, fun D nD => ?_⟩
    have hp4 := s4
    have np4 : p4 ≠ D := ne_of_none (upd_same : (upd _ p4 (.lst ([.int 0] ++ (rowW T k).map V.int ++ [.int 0]))) p4 = some _) nD
    refine lc_range (lo := 0) (n := T + 1) (fun i H' => Same H H' ∧ H' p4 = some (.lst ((padW (rowW T k)).map V.int)) ∧ H' D = some (.lst (((rowW T (k + 1)).take i).map V.int))) ?_ ?_ ?_
    · refine ⟨same_updN s4 (s4.free nD), ?_, upd_same⟩
      rw [upd_ne np4, upd_same, ep]
    · intro i H' hi ⟨sm, e4, eD⟩
      obtain ⟨x, y, e1, e2, e3⟩ := row_step (T := T) (k := k) (h := i) (by omega)
      have g1 : ((padW (rowW T k)).map V.int)[i]? = some (.int x) := by rw [List.getElem?_map, e1]; rfl
      have g2 : ((padW (rowW T k)).map V.int)[i + 2]? = some (.int y) := by rw [List.getElem?_map, e2]; rfl
      refine ⟨rfl, ?_⟩
      unfold tYes
      refine iteT ?_
      refine ⟨.ref p4, rfl, .int (0 + (i : Int)), rfl, p4, _, _, .int x, rfl, rfl, .inl (.inl e4), at_of (by omega) g1, ?_⟩
      refine ⟨.ref p4, rfl, .int (0 + (i : Int)), rfl, _, _, rfl, rfl, p4, _, _, .int y, rfl, rfl, .inl (.inl e4), at_of (j := i + 2) (by omega) g2, ?_⟩
      refine ⟨x, y, rfl, rfl, _, eD, szl ?_, same_updN sm (s4.free nD), ?_, ?_⟩
      · rw [List.length_map, List.length_take]
        omega
      · rw [upd_ne np4]
        exact e4
      · rw [upd_same, List.take_add_one, e3, List.map_append]
        rfl
    · intro H' ⟨sm, e4, eD⟩
      rw [List.take_of_length_le (by rw [rowW_len]; omega)] at eD
      exact q H' D sm (s4.free nD) eD
end
end Hr
namespace Hr
open PySem PySem.Spec PyProof.Rows L2
/-- the table of ways at p: for each number of signs to n a list by heights to T -/
def Tbl (H : Hp) (p : Addr) (n T : Nat) : Prop := ∃ q : Nat → Addr, H p = some (.lst ((List.range (n + 1)).map fun k => V.ref (q k))) ∧ ∀ k, k ≤ n → H (q k) = some (.lst ((rowW T k).map V.int))
theorem Tbl.same {H H' : Hp} {p : Addr} {n T : Nat} (s : Same H H') (t : Tbl H p n T) : Tbl H' p n T := by
  obtain ⟨q, h1, h2⟩ := t
  exact ⟨q, s _ _ h1, fun k hk => s _ _ (h2 k hk)⟩
theorem range_get {n k : Nat} (q : Nat → Addr) (h : k ≤ n) : ((List.range (n + 1)).map fun k => V.ref (q k))[k]? = some (V.ref (q k)) := by
  rw [List.getElem?_map, List.getElem?_range (by omega)]
  rfl
theorem row0_lst (T : Nat) : [V.int 1] ++ (List.replicate T [V.int 0]).flatten = (rowW T 0).map V.int := by
  rw [rowW_zero, List.map_cons, List.map_replicate]
  have e : ∀ n : Nat, (List.replicate n [V.int 0]).flatten = List.replicate n (V.int 0) := by
    intro n
    induction n with
    | zero => rfl
    | succ n ih => rw [List.replicate_succ, List.replicate_succ, List.flatten_cons, ih]; rfl
  rw [e]
  rfl
section
variable {P : Program} {w : World} {K : PySem.W.Frag} {mg : Str → Option Value} {base : Heap}
def spTable : Sp := fun vs H Q _ => ∃ (n T : Nat), vs = [.int (n : Int), .int (T : Int)] ∧ n ≤ 1000 ∧ T ≤ 1000 ∧ ∀ H' p, Same H H' → H p = none → Tbl H' p n T → Q (.ref p) H'
theorem cal_table (D : Def K mg "ways_table" sTable ["left", "top"]) (C : Cal K mg CX0 P w base 1 "with_one_more_sign" [] spStep) (mrange : mg "range" = none) : Cal K mg CX0 P w base 2 "ways_table" [] spTable := by
  refine D.cal scTable (fun vs H Q E h => ?_) (fun f cdv A outer s H vs Q E hr h => ?_)
  · obtain ⟨n, T, rfl, _⟩ := h
    rfl
  · obtain ⟨n, T, rfl, hn, hT, q⟩ := h
    refine ⟨_, pss_cons (ps_set (i := 2) scTable.nd rfl (.inl rfl) (pe_lst (pa_cons (pe_op op_cat (pe_lst (pa_cons pe_int pa_nil)) (pe_op op_rep (pe_lst (pa_cons pe_int pa_nil)) (pv 1))) pa_nil)))
      (pss_cons (ps_for PassesOwn.never rfl (pi_range1 (by rfl) mrange (pa_cons (pv 0) pa_nil)) (pg_name (i := 3) scTable.nd rfl (.inl rfl))
        (pss_one (ps_expr (pe_bm PySem.F.plainAttrs_list PySem.F.slot_list_append PySem.F.type_list_append mt_append (pv 2) (pa_cons (pe_c C hr (pa_cons (pe_ix ix_list (pv 2) (pe_un un_neg pe_int) (fun _ _ => rfl)) pa_nil)) pa_nil)))))
      (pss_one (ps_ret (pv 2)))), ?_⟩
    refine ⟨sz (by decide), fun p1 n1 => ⟨sz (by decide), fun p2 n2 => ?_⟩⟩
    have s1 := same_upd (o := .lst [.int 1]) n1
    have s2 := s1.trans (same_upd (o := .lst [.int 0]) n2)
    refine ⟨.int (T : Int), rfl, p2, (T : Int), _, rfl, rfl, upd_same, by omega, by omega, sz (by show 1 * T ≤ _; omega), fun p3 n3 => ?_⟩
    have s3 := s2.trans (same_upd (o := .lst (List.replicate (T : Int).toNat [V.int 0]).flatten) n3)
    have n13 : p1 ≠ p3 := ne_of_none (by rw [upd_ne (ne_of_none upd_same n2)]; exact upd_same) n3
    have n12 : p1 ≠ p2 := ne_of_none upd_same n2
    have lz : (List.replicate (T : Int).toNat [V.int 0]).flatten.length = T := by
      have := congrArg List.length (row0_lst T)
      rw [List.length_append, List.length_map, rowW_len] at this
      have e : ([V.int 1] : List V).length = 1 := rfl
      rw [Int.toNat_natCast]
      omega
    refine ⟨p1, p3, _, _, rfl, rfl, by rw [upd_ne n13, upd_ne n12]; exact upd_same, upd_same, sz (by rw [lz]; show 1 + T ≤ _; omega), fun p4 n4 => ?_⟩
    rw [Int.toNat_natCast, row0_lst]
    rw [Int.toNat_natCast] at n4 s3
    have s4 := s3.trans (same_upd (o := .lst ((rowW T 0).map V.int)) n4)
    refine ⟨sz (show 1 ≤ 1000000 by decide), fun o no => ?_⟩
    have n4o : p4 ≠ o := ne_of_none upd_same no
    have s5 := same_updN (o := .lst [V.ref p4]) s4 (s4.free no)
    refine ⟨.int (n : Int), rfl, (n : Int), rfl, by omega, by omega, ?_⟩
    refine for_range (lo := 0) (n := n) (fun i σ H' => ∃ (y : Option V) (q : Nat → Addr), σ = [some (.int (n : Int)), some (.int (T : Int)), some (.ref o), y] ∧ Same H H' ∧
      H' o = some (.lst ((List.range (i + 1)).map fun k => V.ref (q k))) ∧ ∀ k, k ≤ i → H' (q k) = some (.lst ((rowW T k).map V.int)) ∧ q k ≠ o) ?_ ?_ ?_
    · refine ⟨none, fun _ => p4, rfl, s5, upd_same, fun k hk => ?_⟩
      have : k = 0 := by omega
      subst this
      refine ⟨?_, n4o⟩
      rw [upd_ne n4o]
      exact upd_same
    · rintro i σ H1 hi ⟨y, qa, rfl, sm, eo, er⟩
      have eL : ((List.range (i + 1)).map fun k => V.ref (qa k)) = ((List.range i).map fun k => V.ref (qa k)) ++ [V.ref (qa i)] := by
        rw [List.range_succ, List.map_append]
        rfl
      refine ⟨.ref o, rfl, .inl ⟨rfl, _, .inl (.inl eo)⟩, .ref o, rfl, 1, rfl, o, _, -1, .ref (qa i), rfl, rfl, .inl (.inl eo), by rw [eL]; exact atI_last _ _, ?_⟩
      refine ⟨qa i, T, i, rfl, (er i (Nat.le_refl _)).1, hT, fun H2 p sm2 np ep => ?_⟩
      have eo2 : H2 o = some (.lst ((List.range (i + 1)).map fun k => V.ref (qa k))) := sm2 _ _ eo
      have npo : p ≠ o := fun z => by
        rw [z, eo] at np
        cases np
      refine ⟨o, _, .ref p, rfl, rfl, eo2, szl (by rw [List.length_map, List.length_range]; omega), ?_⟩
      refine ⟨_, fun k => if k = i + 1 then p else qa k, rfl, same_updN (sm.trans sm2) (s4.free no), ?_, fun k hk => ?_⟩
      · rw [upd_same, List.range_succ (n := i + 1), List.map_append]
        congr 2
        congr 1
        · refine List.map_congr_left fun k hk => ?_
          have := List.mem_range.mp hk
          dsimp only
          rw [if_neg (by omega)]
        · show [V.ref p] = [V.ref (if i + 1 = i + 1 then p else qa (i + 1))]
          rw [if_pos rfl]
      · dsimp only
        by_cases e : k = i + 1
        · rw [if_pos e]
          refine ⟨?_, npo⟩
          rw [upd_ne npo, e]
          exact ep
        · rw [if_neg e]
          obtain ⟨h1, h2⟩ := er k (by omega)
          refine ⟨?_, h2⟩
          rw [upd_ne h2]
          exact sm2 _ _ h1
    · rintro σ H1 ⟨y, qa, rfl, sm, eo, er⟩
      exact ⟨.ref o, rfl, q H1 o sm (s4.free no) ⟨qa, eo, fun k hk => (er k hk).1⟩⟩
def spHill : Sp := fun vs H Q _ => ∃ (n : Nat) (c : Option Nat), vs = [.int (n : Int), cV c] ∧ n ≤ 400 ∧ ∀ H' p, Same H H' → H p = none → Tbl H' p (2 * n) (low n c) → Q (.ref p) H'
theorem low_le (n : Nat) (c : Option Nat) : low n c ≤ n := by
  cases c with
  | none => exact Nat.le_refl _
  | some k => exact Nat.min_le_left _ _
theorem cal_hill (D : Def K mg "hill_table" sHill ["n", "ceiling"]) (C : Cal K mg CX0 P w base 2 "ways_table" [] spTable) (C2 : Cal K mg CX0 P w base 1 "lower_of" [] spLow) : Cal K mg CX0 P w base 3 "hill_table" [] spHill := by
  refine D.cal scHill (fun vs H Q E h => ?_) (fun f cdv A outer s H vs Q E hr h => ?_)
  · obtain ⟨n, c, rfl, _⟩ := h
    rfl
  · obtain ⟨n, c, rfl, hn, q⟩ := h
    refine ⟨_, pss_one (ps_ret (pe_c C hr (pa_cons (pe_op op_mul pe_int (pv 0)) (pa_cons (pe_c C2 hr (pa_cons (pv 0) (pa_cons (pv 1) pa_nil))) pa_nil)))), ?_⟩
    have hl := low_le n c
    refine ⟨.int (n : Int), rfl, 2, _, rfl, rfl, .inl ⟨by decide, by decide⟩, .int (n : Int), rfl, cV c, rfl, n, c, rfl, 2 * n, low n c, ?_, by omega, by omega, q⟩
    rw [Int.natCast_mul]
    rfl
/-- as many as the hill rows of n under the ceiling -/
def spCounted : Sp := fun vs H Q _ => ∃ (n : Nat) (c : Option Nat), vs = [.int (n : Int), cV c] ∧ n ≤ 200 ∧ cOk 200 c ∧ ∀ H', Same H H' → Q (.int ((W (low n c) (2 * n) 0 : Nat) : Int)) H'
theorem cal_counted (D : DefD K mg "counted" sCounted ["n", "ceiling"]) (C : Cal K mg CX0 P w base 3 "hill_table" [] spHill) (C2 : Cal K mg CX0 P w base 2 "check_number" [.int 0] spChNum) (C3 : Cal K mg CX0 P w base 3 "check_ceiling" [] spChCei)
    {tk : Tok} (gM : mg "MOST_UPS" = some (.int 200 tk)) : Cal K mg CX0 P w base 4 "counted" [] spCounted ∧ Cal K mg CX0 P w base 4 "counted" [.non] spCounted := by
  refine D.ok scCounted (fun vs H Q E h => ?_) (fun f cdv A outer s H vs Q E hr h => ?_)
  · obtain ⟨n, c, rfl, _⟩ := h
    rfl
  · obtain ⟨n, c, rfl, hn, hc, q⟩ := h
    refine ⟨_, pss_cons (ps_expr (pe_c C2 hr (pa_cons (pv 0) (pa_cons (pe_glob (v := .int 200) (by rfl) gM ⟨_, rfl⟩) pa_nil))))
      (pss_cons (ps_expr (pe_c C3 hr (pa_cons (pv 1) pa_nil)))
      (pss_one (ps_ret (pe_ix ix_list (pe_ix ix_list (pe_c C hr (pa_cons (pv 0) (pa_cons (pv 1) pa_nil))) (pe_op op_mul pe_int (pv 0)) (fun _ _ => rfl)) pe_int (fun _ _ => rfl))))), ?_⟩
    refine ⟨.int (n : Int), rfl, (n : Int), 200, rfl, by omega, by omega, ?_⟩
    refine ⟨cV c, rfl, c, rfl, hc, ?_⟩
    refine ⟨.int (n : Int), rfl, cV c, rfl, n, c, rfl, by omega, fun H' p sm np ⟨qa, e1, e2⟩ => ?_⟩
    have e3 := e2 (2 * n) (Nat.le_refl _)
    refine ⟨.int (n : Int), rfl, 2, _, rfl, rfl, .inl ⟨by decide, by decide⟩, p, _, _, .ref (qa (2 * n)), rfl, rfl, .inl (.inl e1), at_of (j := 2 * n) (by rw [Int.natCast_mul]; rfl) (range_get qa (Nat.le_refl _)), ?_⟩
    refine ⟨qa (2 * n), _, 0, .int ((W (low n c) (2 * n) 0 : Nat) : Int), rfl, rfl, .inl (.inl e3), at_of (j := 0) rfl ?_, q H' sm⟩
    rw [List.getElem?_map, rowW_get (Nat.zero_le _)]
    rfl
end
end Hr
/-! ### the law's own numbers -/
namespace Hr
open PySem PySem.Spec PyProof.Rows L2
/-- what _law_mixed makes of a cell at its place -/
def mixed (z k : Int) : Int :=
  let m := (z % 2147483629 + 104729 * (k + 1)) * 16807 % 2147483647
  m * m % 2147483629 * 48271 % 2147483647
theorem mixed_nonneg (z k : Int) : 0 ≤ mixed z k := Int.emod_nonneg _ (by decide)
theorem mixed_lt (z k : Int) : mixed z k < 2147483647 := Int.emod_lt_of_pos _ (by decide)
theorem scMixed : FnScope ["_law_cell", "_law_k", "_law_mark"] ["_law_cell", "_law_k"] (defScope sMixed) := ⟨rfl, rfl, rfl, by decide +kernel, rfl, by decide +kernel, by decide +kernel⟩
section
variable {P : Program} {w : World} {K : PySem.W.Frag} {mg : Str → Option Value} {base : Heap}
def spMixed : Sp := fun vs H Q _ => ∃ (z k : Int), vs = [.int z, .int k] ∧ Q (.int (mixed z k)) H
theorem cal_mixed (D : Def K mg "_law_mixed" sMixed ["_law_cell", "_law_k"]) : Cal K mg CX0 P w base 1 "_law_mixed" [] spMixed := by
  refine D.cal scMixed (fun vs H Q E h => ?_) (fun f cdv A outer s H vs Q E hr h => ?_)
  · obtain ⟨z, k, rfl, _⟩ := h
    rfl
  · obtain ⟨z, k, rfl, q⟩ := h
    refine ⟨_, pss_cons (ps_set (i := 2) scMixed.nd rfl (.inl rfl) (pe_op op_mod (pe_op op_mul (pe_op op_add (pe_op op_mod (pv 0) pe_int) (pe_op op_mul pe_int (pe_op op_add (pv 1) pe_int))) pe_int) pe_int))
      (pss_one (ps_ret (pe_op op_mod (pe_op op_mul (pe_op op_mod (pe_op op_mul (pv 2) (pv 2)) pe_int) pe_int) pe_int))), ?_⟩
    refine ⟨.int z, rfl, z, 2147483629, rfl, rfl, (by show (0 : Int) < 2147483629; decide), .int k, rfl, k, 1, rfl, rfl, 104729, k + 1, rfl, rfl, .inl ⟨by decide, by decide⟩, z % 2147483629, 104729 * (k + 1), rfl, rfl, _, 16807, rfl, rfl, .inr ⟨by decide, by decide⟩,
      _, 2147483647, rfl, rfl, (by show (0 : Int) < 2147483647; decide), ?_⟩
    have h0 : 0 ≤ (z % 2147483629 + 104729 * (k + 1)) * 16807 % 2147483647 := Int.emod_nonneg _ (by decide)
    have h1 : (z % 2147483629 + 104729 * (k + 1)) * 16807 % 2147483647 < 2147483647 := Int.emod_lt_of_pos _ (by decide)
    refine ⟨_, rfl, _, rfl, _, _, rfl, rfl, .inl ⟨by omega, by omega⟩, _, 2147483629, rfl, rfl, (by show (0 : Int) < 2147483629; decide), _, 48271, rfl, rfl, .inr ⟨by decide, by decide⟩, _, 2147483647, rfl, rfl, (by show (0 : Int) < 2147483647; decide), ?_⟩
    exact q
end
end Hr
/-! ### all hill rows by growing beginnings -/
namespace Hr
open PySem PySem.Spec PyProof.Rows L2
theorem scAll : FnScope ["_law_n", "_law_ceiling", "_law_rows", "_law_k", "_law_more", "_law_row", "_law_height"] ["_law_n", "_law_ceiling"] (defScope sAll) := ⟨rfl, rfl, rfl, by decide +kernel, rfl, by decide +kernel, by decide +kernel⟩
abbrev tD (r : Str) : Str := r ++ ("d" : Str)
abbrev tU (r : Str) : Str := r ++ ("u" : Str)
/-- pairs of a text and a height, as they lie -/
def IsRw (H : Hp) (v : V) (p : Str × Nat) : Prop := ∃ q, v = V.ref q ∧ H q = some (.tup [.str p.1, .int (p.2 : Int)])
def Rws (H : Hp) (xs : List V) (l : List (Str × Nat)) : Prop := Paired (IsRw H) xs l
theorem Rws.mono {H H' : Hp} (h : ∀ q ts, H q = some (.tup ts) → H' q = some (.tup ts)) : ∀ {xs : List V} {l : List (Str × Nat)}, Rws H xs l → Rws H' xs l
  | _, _, .nil => .nil
  | _, _, .cons ⟨q, e, r⟩ t => .cons ⟨q, e, h _ _ r⟩ (Rws.mono h t)
theorem Rws.same {H H' : Hp} (s : Same H H') {xs : List V} {l : List (Str × Nat)} (r : Rws H xs l) : Rws H' xs l := r.mono fun q ts e => s _ _ e
theorem Rws.upd {H : Hp} {m : Addr} {acc : List V} {o : HO} {xs : List V} {l : List (Str × Nat)} (r : Rws H xs l) (e : H m = some (.lst acc)) : Rws (upd H m o) xs l := r.mono fun q ts z => by
  rw [upd_ne (ne_of z e (by intro q; cases q))]
  exact z
theorem Rws.snoc {H : Hp} {v : V} {p : Str × Nat} : ∀ {xs : List V} {l : List (Str × Nat)}, Rws H xs l → IsRw H v p → Rws H (xs ++ [v]) (l ++ [p])
  | _, _, .nil, h => .cons h .nil
  | _, _, .cons a t, h => .cons a (Rws.snoc t h)
theorem Rws.len {H : Hp} : ∀ {xs : List V} {l : List (Str × Nat)}, Rws H xs l → xs.length = l.length
  | _, _, .nil => rfl
  | _, _, .cons _ t => congrArg Nat.succ (Rws.len t)
theorem Rws.get {H : Hp} : ∀ {xs : List V} {l : List (Str × Nat)} {i : Nat} {v : V}, Rws H xs l → xs[i]? = some v → ∃ p, l[i]? = some p ∧ IsRw H v p
  | _, _, i, v, .nil, e => by simp at e
  | _, _, 0, v, .cons a t, e => by
    have e1 := Option.some.inj e
    subst e1
    exact ⟨_, rfl, a⟩
  | _, _, i + 1, v, .cons a t, e => Rws.get (i := i) t e
/-- the rows grown in k signs, each with its height -/
abbrev grw (c : Option Nat) (k : Nat) : List (Str × Nat) := grown tD tU c ("" : Str) k
theorem grw_len (c : Option Nat) : ∀ k, ∀ p ∈ grw c k, p.1.length = k
  | 0, p, h => by
    rw [List.mem_singleton.mp h]
    rfl
  | k + 1, p, h => by
    obtain ⟨r, hr, hp⟩ := List.mem_flatMap.mp (show p ∈ growAll tD tU c (grw c k) from h)
    have ih := grw_len c k r hr
    unfold grow1 at hp
    rcases List.mem_append.mp hp with hp | hp
    · split at hp
      · rw [List.mem_singleton.mp hp]
        show (r.1 ++ ("d" : Str)).length = _
        rw [PySem.Str.length_append, ih]
        rfl
      · cases hp
    · split at hp
      · rw [List.mem_singleton.mp hp]
        show (r.1 ++ ("u" : Str)).length = _
        rw [PySem.Str.length_append, ih]
        rfl
      · cases hp
theorem growAll_take {c : Option Nat} {l : List (Str × Nat)} {i : Nat} {p : Str × Nat} (h : l[i]? = some p) : growAll tD tU c (l.take (i + 1)) = growAll tD tU c (l.take i) ++ grow1 tD tU c p := by
  unfold growAll
  rw [List.take_add_one, h, List.flatMap_append]
  show _ ++ List.flatMap _ [p] = _
  rw [List.flatMap_singleton]
/-- the texts of those on the ground -/
def onGround (l : List (Str × Nat)) : List Str := (l.filter fun p => p.2 == 0).map (·.1)
theorem onGround_take {l : List (Str × Nat)} {i : Nat} {p : Str × Nat} (h : l[i]? = some p) : onGround (l.take (i + 1)) = onGround (l.take i) ++ (if p.2 = 0 then [p.1] else []) := by
  unfold onGround
  rw [List.take_add_one, h, List.filter_append, List.map_append]
  congr 1
  show List.map _ (List.filter _ [p]) = _
  by_cases e : p.2 = 0
  · rw [List.filter_cons_of_pos (by simp [e]), if_pos e]
    rfl
  · rw [List.filter_cons_of_neg (by simp [e]), if_neg e]
    rfl
section
variable {P : Program} {w : World} {K : PySem.W.Frag} {mg : Str → Option Value} {base : Heap}
def spAll : Sp := fun vs H Q _ => ∃ (n : Nat) (c : Option Nat), vs = [.int (n : Int), cV c] ∧ n ≤ 6 ∧ ∀ H' p, Same H H' → H p = none → H' p = some (.lst ((onGround (grw c (2 * n))).map V.str)) → Q (.ref p) H'
theorem cal_all (D : Def K mg "_law_all" sAll ["_law_n", "_law_ceiling"]) (mrange : mg "range" = none) : Cal K mg CX0 P w base 1 "_law_all" [] spAll := by
  refine D.cal scAll (fun vs H Q E h => ?_) (fun f cdv A outer s H vs Q E hr h => ?_)
  · obtain ⟨n, c, rfl, _⟩ := h
    rfl
  · obtain ⟨n, c, rfl, hn, q⟩ := h
    refine ⟨_, pss_cons (ps_set (i := 2) scAll.nd rfl (.inl rfl) (pe_lst (pa_cons (pe_tup (pa_cons pe_str (pa_cons pe_int pa_nil))) pa_nil)))
      (pss_cons (ps_for PassesOwn.never rfl (pi_range1 (by rfl) mrange (pa_cons (pe_op op_mul pe_int (pv 0)) pa_nil)) (pg_name (i := 3) scAll.nd rfl (.inl rfl))
        (pss_cons (ps_set (i := 4) scAll.nd rfl (.inl rfl) (pe_lst pa_nil))
        (pss_cons (ps_for PassesOwn.never rfl (pi_list (pv 2)) (pg_tup rfl (pgs_cons (pg_name (i := 5) scAll.nd rfl (.inl rfl)) (pgs_cons (pg_name (i := 6) scAll.nd rfl (.inl rfl)) pgs_nil)))
          (pss_cons (ps_if (pt_cmpR op_gt (pv 6) pe_int (nomark _))
            (pss_one (ps_expr (pe_bm PySem.F.plainAttrs_list PySem.F.slot_list_append PySem.F.type_list_append mt_append (pv 4) (pa_cons (pe_tup (pa_cons (pe_op op_add_str (pv 5) pe_str) (pa_cons (pe_op op_sub (pv 6) pe_int) pa_nil))) pa_nil)))) pss_nil)
          (pss_one (ps_if (PW.pt (pw_or (pt_cmp (pc_isN (pv 1))) (pw_or1 (pt_cmpR op_lt (pv 6) (pv 1) (nomark _)))))
            (pss_one (ps_expr (pe_bm PySem.F.plainAttrs_list PySem.F.slot_list_append PySem.F.type_list_append mt_append (pv 4) (pa_cons (pe_tup (pa_cons (pe_op op_add_str (pv 5) pe_str) (pa_cons (pe_op op_add (pv 6) pe_int) pa_nil))) pa_nil)))) pss_nil))))
        (pss_one (ps_set (i := 2) scAll.nd rfl (.inl rfl) (pv 4))))))
      (pss_one (ps_ret (pe_lc (own := [("_law_row", 5), ("_law_height", 6)]) (g := gTup K 2 (gCons (gName 5) (gCons (gName 6) gNil))) rfl scAll.nd (pi_list (pv 2))
        (blkOk_by (N := ["_law_n", "_law_ceiling", "_law_rows", "_law_k", "_law_more", "_law_row", "_law_height"]) (sc := defScope sAll) (by decide +kernel))
        (fun _ _ _ _ _ => pg_tup rfl (pgs_cons (pg_name (i := 5) scAll.nd rfl (Or.inl rfl) (Or.inr rfl)) (pgs_cons (pg_name (i := 6) scAll.nd rfl (Or.inl rfl) (Or.inr rfl)) pgs_nil)))
        (fun _ _ _ _ _ => pts_one (pt_cmpR op_eq (pv 6) pe_int (nomark _))) (fun _ _ _ _ _ => pv 5))))), ?_⟩
    have hz : ∀ {α : Type} (l : List α) {m : Nat}, l.length ≤ m → m ≤ 100000 → l.length < sizeLine := fun l m h1 h2 => szl (by omega)
    refine ⟨sz (by decide), fun p1 n1 => ?_⟩
    have s1 := same_upd (o := .tup [.str "", .int 0]) n1
    refine ⟨sz (show 1 ≤ 1000000 by decide), fun p2 n2 => ?_⟩
    have n12 : p1 ≠ p2 := ne_of_none upd_same n2
    have s2 := s1.trans (same_upd (o := .lst [V.ref p1]) n2)
    refine ⟨.int (n : Int), rfl, 2, (n : Int), rfl, rfl, .inl ⟨by decide, by decide⟩, 2 * (n : Int), rfl, by omega, by omega, ?_⟩
    refine for_range (lo := 0) (n := 2 * n) (fun i σ H' => ∃ (y3 y4 y5 y6 : Option V) (r : Addr) (xs : List V), σ = [some (.int (n : Int)), some (cV c), some (.ref r), y3, y4, y5, y6] ∧ Same H H' ∧
      H r = none ∧ H' r = some (.lst xs) ∧ Rws H' xs (grw c i)) ?_ ?_ ?_
    · refine ⟨none, none, none, none, p2, [V.ref p1], rfl, s2, s1.free n2, upd_same, .cons ⟨p1, rfl, ?_⟩ .nil⟩
      rw [upd_ne n12, upd_same]
      rfl
    · rintro i σ H1 hi ⟨y3, y4, y5, y6, r, xs, rfl, sm, nr, er, R⟩
      refine ⟨Nat.zero_le _, fun m nm => ?_⟩
      have s3 := same_upd (o := .lst []) nm
      have hxl := R.len
      have hgl : (grw c i).length ≤ 2 ^ i := grown_len tD tU c "" i
      have hpi : 2 ^ i ≤ 2 ^ 12 := Nat.pow_le_pow_right (by decide) (by omega)
      have hp12 : 2 ^ 12 = 4096 := rfl
      refine ⟨.ref r, rfl, r, rfl, ⟨_, .inl (.inl (s3 _ _ er))⟩, ?_⟩
      have nmr : r ≠ m := ne_of_none er nm
      refine for_list (K := K) (a := r) (xs := xs) (fun j σ H' => ∃ (y5 y6 : Option V) (acc : List V), σ = [some (.int (n : Int)), some (cV c), some (.ref r), some (.int (0 + (i : Int))), some (.ref m), y5, y6] ∧ Same H1 H' ∧
        H' m = some (.lst acc) ∧ Rws H' acc (growAll tD tU c ((grw c i).take j))) ?_ ?_ ?_ ?_
      · exact ⟨y5, y6, [], rfl, s3, upd_same, .nil⟩
      · rintro j σ H' _ ⟨_, _, acc, rfl, sm1, em, R1⟩
        exact .inl (.inl (sm1 _ _ er))
      · rintro j v σ H2 hv ⟨_, _, acc, rfl, sm1, em, R1⟩
        obtain ⟨p, hp, qa, rfl, eq⟩ := R.get hv
        have eq2 := sm1 _ _ eq
        have hpl := grw_len c i p (List.mem_of_getElem? hp)
        have hl1 := R1.len
        have hg : (growAll tD tU c ((grw c i).take j)).length ≤ 2 * 4096 := by
          have : (growAll tD tU c ((grw c i).take j)).length ≤ 2 * ((grw c i).take j).length := by
            generalize (grw c i).take j = l
            induction l with
            | nil => exact Nat.le_refl _
            | cons p l il =>
              have e : growAll tD tU c (p :: l) = grow1 tD tU c p ++ growAll tD tU c l := rfl
              rw [e, List.length_append, List.length_cons]
              have : (grow1 tD tU c p).length ≤ 2 := by
                unfold grow1
                rw [List.length_append]
                split <;> split <;> simp
              omega
          rw [List.length_take] at this
          omega
        refine ⟨qa, _, rfl, .inl (.inl eq2), rfl, _, _, rfl, _, _, rfl, rfl, ?_⟩
        have hz6 : p.1.length + 1 ≤ sizeLine := sz (by omega)
        have eG : growAll tD tU c ((grw c i).take (j + 1)) = (growAll tD tU c ((grw c i).take j) ++ (if 0 < p.2 then [(tD p.1, p.2 - 1)] else [])) ++ (if under c p.2 = true then [(tU p.1, p.2 + 1)] else []) := by
          rw [growAll_take hp]
          unfold grow1
          rw [List.append_assoc]
        refine ⟨.int (p.2 : Int), rfl, (p.2 : Int), 0, rfl, rfl, _, rfl, ite2 (fun e => ?_) (fun e => ?_)⟩
        · have e0 : 0 < p.2 := by
            have := of_decide_eq_true e
            omega
          refine ⟨.ref m, rfl, .inl ⟨rfl, _, .inl (.inl em)⟩, .str p.1, rfl, p.1, "d", rfl, rfl, hz6, .int (p.2 : Int), rfl, (p.2 : Int), 1, rfl, rfl, sz (show 2 ≤ 1000000 by decide), fun t nt => ?_⟩
          have nmt : m ≠ t := ne_of_none em nt
          have smt := sm1.trans (same_upd (o := .tup [.str (p.1 ++ "d"), .int ((p.2 : Int) - 1)]) nt)
          have emt : upd H2 t (.tup [.str (p.1 ++ "d"), .int ((p.2 : Int) - 1)]) m = some (.lst acc) := by
            rw [upd_ne nmt]
            exact em
          refine ⟨m, acc, .ref t, rfl, rfl, emt, szl (by omega), ?_⟩
          have smC := same_updN (o := .lst (acc ++ [.ref t])) smt nm
          have RC : Rws (upd (upd H2 t (.tup [.str (p.1 ++ "d"), .int ((p.2 : Int) - 1)])) m (.lst (acc ++ [.ref t]))) (acc ++ [.ref t]) (growAll tD tU c ((grw c i).take j) ++ (if 0 < p.2 then [(tD p.1, p.2 - 1)] else [])) := by
            rw [if_pos e0]
            refine Rws.upd (acc := acc) (Rws.snoc (R1.same (same_upd nt)) ⟨t, rfl, ?_⟩) emt
            rw [upd_same, show ((p.2 : Int) - 1) = ((p.2 - 1 : Nat) : Int) by omega]
          have emC : upd (upd H2 t (.tup [.str (p.1 ++ "d"), .int ((p.2 : Int) - 1)])) m (.lst (acc ++ [.ref t])) m = some (.lst (acc ++ [.ref t])) := upd_same
          have hL : (acc ++ [V.ref t]).length ≤ 9000 := by
            rw [List.length_append]
            show acc.length + 1 ≤ 9000
            omega
          revert smC RC emC hL
          generalize upd (upd H2 t (.tup [.str (p.1 ++ "d"), .int ((p.2 : Int) - 1)])) m (.lst (acc ++ [.ref t])) = Hc
          generalize acc ++ [V.ref t] = aC
          intro smC RC emC hL
          have app : ∀ (c' : Option Nat), c' = c → under c' p.2 = true → ∀ t, Hc t = none → Same H1 (upd (upd Hc t (.tup [.str (p.1 ++ "u"), .int ((p.2 : Int) + 1)])) m (.lst (aC ++ [.ref t]))) ∧
              Rws (upd (upd Hc t (.tup [.str (p.1 ++ "u"), .int ((p.2 : Int) + 1)])) m (.lst (aC ++ [.ref t]))) (aC ++ [.ref t]) (growAll tD tU c ((grw c i).take (j + 1))) := by
            intro c' ec hu t nt
            have nmt : m ≠ t := ne_of_none emC nt
            have smt := smC.trans (same_upd (o := .tup [.str (p.1 ++ "u"), .int ((p.2 : Int) + 1)]) nt)
            refine ⟨same_updN smt nm, ?_⟩
            rw [eG, if_pos (show under c p.2 = true from ec ▸ hu)]
            refine Rws.upd (acc := aC) (Rws.snoc (RC.same (same_upd nt)) ⟨t, rfl, ?_⟩) (by rw [upd_ne nmt]; exact emC)
            rw [upd_same, show ((p.2 : Int) + 1) = ((p.2 + 1 : Nat) : Int) by omega]
          cases c with
          | none =>
            refine ⟨.non, rfl, true, rfl, ?_⟩
            refine iteT ?_
            refine iteT ?_
            refine ⟨.ref m, rfl, .inl ⟨rfl, _, .inl (.inl emC)⟩, .str p.1, rfl, p.1, "u", rfl, rfl, hz6, .int (p.2 : Int), rfl, (p.2 : Int), 1, rfl, rfl, sz (show 2 ≤ 1000000 by decide), fun t nt => ?_⟩
            obtain ⟨a1, a2⟩ := app none rfl rfl t nt
            exact ⟨m, aC, .ref t, rfl, rfl, by rw [upd_ne (ne_of_none emC nt)]; exact emC, szl (by omega), _, _, _, rfl, a1, upd_same, a2⟩
          | some k =>
            refine ⟨.int (k : Int), rfl, false, rfl, ?_⟩
            refine iteF ?_
            refine ⟨.int (p.2 : Int), rfl, .int (k : Int), rfl, (p.2 : Int), (k : Int), rfl, rfl, _, rfl, ite2 (fun e => ?_) (fun e => ?_)⟩
            · have hu : under (some k) p.2 = true := decide_eq_true (by have := of_decide_eq_true e; omega)
              refine ⟨.ref m, rfl, .inl ⟨rfl, _, .inl (.inl emC)⟩, .str p.1, rfl, p.1, "u", rfl, rfl, hz6, .int (p.2 : Int), rfl, (p.2 : Int), 1, rfl, rfl, sz (show 2 ≤ 1000000 by decide), fun t nt => ?_⟩
              obtain ⟨a1, a2⟩ := app (some k) rfl hu t nt
              exact ⟨m, aC, .ref t, rfl, rfl, by rw [upd_ne (ne_of_none emC nt)]; exact emC, szl (by omega), _, _, _, rfl, a1, upd_same, a2⟩
            · have hu : ¬ under (some k) p.2 = true := fun z => e (decide_eq_true (by have := of_decide_eq_true (show decide (p.2 < k) = true from z); omega))
              refine ⟨_, _, aC, rfl, smC, emC, ?_⟩
              rw [eG, if_neg hu, List.append_nil]
              exact RC
        · have e0 : ¬ 0 < p.2 := fun z => e (decide_eq_true (by omega))
          have smC := sm1
          have RC : Rws H2 acc (growAll tD tU c ((grw c i).take j) ++ (if 0 < p.2 then [(tD p.1, p.2 - 1)] else [])) := by
            rw [if_neg e0, List.append_nil]
            exact R1
          have emC := em
          have hL : acc.length ≤ 9000 := by omega
          revert smC RC emC hL
          generalize H2 = Hc
          generalize acc = aC
          intro smC RC emC hL
          have app : ∀ (c' : Option Nat), c' = c → under c' p.2 = true → ∀ t, Hc t = none → Same H1 (upd (upd Hc t (.tup [.str (p.1 ++ "u"), .int ((p.2 : Int) + 1)])) m (.lst (aC ++ [.ref t]))) ∧
              Rws (upd (upd Hc t (.tup [.str (p.1 ++ "u"), .int ((p.2 : Int) + 1)])) m (.lst (aC ++ [.ref t]))) (aC ++ [.ref t]) (growAll tD tU c ((grw c i).take (j + 1))) := by
            intro c' ec hu t nt
            have nmt : m ≠ t := ne_of_none emC nt
            have smt := smC.trans (same_upd (o := .tup [.str (p.1 ++ "u"), .int ((p.2 : Int) + 1)]) nt)
            refine ⟨same_updN smt nm, ?_⟩
            rw [eG, if_pos (show under c p.2 = true from ec ▸ hu)]
            refine Rws.upd (acc := aC) (Rws.snoc (RC.same (same_upd nt)) ⟨t, rfl, ?_⟩) (by rw [upd_ne nmt]; exact emC)
            rw [upd_same, show ((p.2 : Int) + 1) = ((p.2 + 1 : Nat) : Int) by omega]
          cases c with
          | none =>
            refine ⟨.non, rfl, true, rfl, ?_⟩
            refine iteT ?_
            refine iteT ?_
            refine ⟨.ref m, rfl, .inl ⟨rfl, _, .inl (.inl emC)⟩, .str p.1, rfl, p.1, "u", rfl, rfl, hz6, .int (p.2 : Int), rfl, (p.2 : Int), 1, rfl, rfl, sz (show 2 ≤ 1000000 by decide), fun t nt => ?_⟩
            obtain ⟨a1, a2⟩ := app none rfl rfl t nt
            exact ⟨m, aC, .ref t, rfl, rfl, by rw [upd_ne (ne_of_none emC nt)]; exact emC, szl (by omega), _, _, _, rfl, a1, upd_same, a2⟩
          | some k =>
            refine ⟨.int (k : Int), rfl, false, rfl, ?_⟩
            refine iteF ?_
            refine ⟨.int (p.2 : Int), rfl, .int (k : Int), rfl, (p.2 : Int), (k : Int), rfl, rfl, _, rfl, ite2 (fun e => ?_) (fun e => ?_)⟩
            · have hu : under (some k) p.2 = true := decide_eq_true (by have := of_decide_eq_true e; omega)
              refine ⟨.ref m, rfl, .inl ⟨rfl, _, .inl (.inl emC)⟩, .str p.1, rfl, p.1, "u", rfl, rfl, hz6, .int (p.2 : Int), rfl, (p.2 : Int), 1, rfl, rfl, sz (show 2 ≤ 1000000 by decide), fun t nt => ?_⟩
              obtain ⟨a1, a2⟩ := app (some k) rfl hu t nt
              exact ⟨m, aC, .ref t, rfl, rfl, by rw [upd_ne (ne_of_none emC nt)]; exact emC, szl (by omega), _, _, _, rfl, a1, upd_same, a2⟩
            · have hu : ¬ under (some k) p.2 = true := fun z => e (decide_eq_true (by have := of_decide_eq_true (show decide (p.2 < k) = true from z); omega))
              refine ⟨_, _, aC, rfl, smC, emC, ?_⟩
              rw [eG, if_neg hu, List.append_nil]
              exact RC
      · rintro σ H2 ⟨_, _, acc, rfl, sm1, em, R1⟩
        refine ⟨_, rfl, _, _, _, _, m, acc, rfl, sm.trans sm1, sm.free nm, em, ?_⟩
        rw [hxl, List.take_length] at R1
        exact R1
    · rintro σ H1 ⟨y3, y4, y5, y6, r, xs, rfl, sm, nr, er, R⟩
      have hxl := R.len
      refine ⟨.ref r, rfl, r, rfl, ⟨_, .inl (.inl er)⟩, fun D nD => ?_⟩
      have hgl : (grw c (2 * n)).length ≤ 2 ^ (2 * n) := grown_len tD tU c "" (2 * n)
      have hpi : 2 ^ (2 * n) ≤ 2 ^ 12 := Nat.pow_le_pow_right (by decide) (by omega)
      have hp12 : 2 ^ 12 = 4096 := rfl
      refine lc_list (K := K) (a := r) (xs := xs) (fun j H' => Same H1 H' ∧ H' D = some (.lst ((onGround ((grw c (2 * n)).take j)).map V.str))) ?_ ?_ ?_ ?_
      · exact ⟨same_upd nD, upd_same⟩
      · rintro j H' _ ⟨sm1, _⟩
        exact .inl (.inl (sm1 _ _ er))
      · rintro j v H2 hv ⟨sm1, eD⟩
        obtain ⟨p, hp, qa, rfl, eq⟩ := R.get hv
        have eq2 := sm1 _ _ eq
        refine ⟨qa, _, rfl, .inl (.inl eq2), rfl, _, _, rfl, _, _, rfl, rfl, rfl, ?_⟩
        refine ⟨_, rfl, rfl, _, rfl, ite2 (fun e => ?_) (fun e => ?_)⟩
        · have e0 : p.2 = 0 := by
            have := V.int.inj (of_decide_eq_true e)
            omega
          refine ⟨_, rfl, _, eD, ?_, same_updN sm1 nD, ?_⟩
          · rw [List.length_map]
            refine szl ?_
            have : (onGround ((grw c (2 * n)).take j)).length ≤ (grw c (2 * n)).length := by
              unfold onGround
              rw [List.length_map]
              exact Nat.le_trans (List.length_filter_le _ _) (by rw [List.length_take]; omega)
            omega
          · rw [upd_same, onGround_take hp, if_pos e0, List.map_append]
            rfl
        · have e0 : ¬ p.2 = 0 := fun z => e (decide_eq_true (by rw [z]; rfl))
          refine ⟨sm1, ?_⟩
          rw [onGround_take hp, if_neg e0, List.append_nil]
          exact eD
      · rintro H2 ⟨sm1, eD⟩
        rw [hxl, List.take_length] at eD
        exact q H2 D (sm.trans sm1) (sm.free nD) eD
end
end Hr
/-! ### the law -/
namespace Hr
open PySem PySem.Spec PyProof.Rows L2
theorem scLaw : FnScope ["_law_script", "_law_k", "_law_cell", "_law_mark", "_law_n", "_law_ceiling"] ["_law_script"] (defScope sLaw) := ⟨rfl, rfl, rfl, by decide +kernel, rfl, by decide +kernel, by decide +kernel⟩
/-- as many as there are rows on the ground -/
theorem onGround_cnt (c : Option Nat) (n : Nat) : (onGround (grw c (2 * n))).length = W (low n c) (2 * n) 0 := by
  unfold onGround
  rw [List.length_map]
  exact counted_ok tD tU c "" n
theorem cut_int {ns : List Int} {lo hi : Option Int} {i : Nat} {v : V} (h : (cutV (ns.map V.int) lo hi)[i]? = some v) : ∃ z, v = .int z := by
  have h1 : v ∈ cutV (ns.map V.int) lo hi := List.mem_of_getElem? h
  unfold cutV at h1
  obtain ⟨z, _, e⟩ := List.mem_map.mp (List.mem_of_mem_drop (List.mem_of_mem_take h1))
  exact ⟨z, e.symm⟩
section
variable {P : Program} {w : World} {K : PySem.W.Frag} {mg : Str → Option Value} {base : Heap}
def spLaw (K : PySem.W.Frag) : Sp := fun vs H Q _ => ∃ (a : Addr) (ns : List Int), vs = [.ref a] ∧ SqL K H a (ns.map V.int) ∧ ns.length ≤ 63 ∧ ∀ H', Q (.bl true) H'
theorem ok_law {f : Addr} {fd : FuncData} (F : Fun K "law" "law" sLaw f fd) (C1 : Cal K mg CX0 P w base 4 "counted" [] spCounted) (C2 : Cal K mg CX0 P w base 4 "counted" [.non] spCounted) (C3 : Cal K mg CX0 P w base 1 "_law_all" [] spAll)
    (C4 : Cal K mg CX0 P w base 1 "_law_mixed" [] spMixed) (mlen : mg "len" = none) (menum : mg "enumerate" = none) : FnOk P w K mg base CX0 5 f fd ["_law_script"] (spLaw K) := by
  refine F.ok scLaw (fun vs H Q E h => ?_) (fun cdv A outer s H vs Q E hr h => ?_)
  · obtain ⟨a, ns, rfl, _⟩ := h
    rfl
  · obtain ⟨a, ns, rfl, hS, hlen, q⟩ := h
    refine ⟨_, pss_cons (ps_for PassesOwn.never rfl (pi_enum (by rfl) menum (pa_cons (pe_slice sl_list (pv 0) po_none (po_some pe_int)) pa_nil)) (pg_tup rfl (pgs_cons (pg_name (i := 1) scLaw.nd rfl (.inl rfl)) (pgs_cons (pg_name (i := 2) scLaw.nd rfl (.inl rfl)) pgs_nil)))
        (pss_cons (ps_set (i := 3) scLaw.nd rfl (.inl rfl) (pe_c C4 hr (pa_cons (pv 2) (pa_cons (pv 1) pa_nil))))
        (pss_cons (ps_set (i := 4) scLaw.nd rfl (.inl rfl) (pe_op op_mod (pv 3) pe_int))
        (pss_cons (ps_set (i := 5) scLaw.nd rfl (.inl rfl) (pe_ix ix_list (pe_lst (pa_cons pe_non (pa_cons (pe_op op_mod (pe_op op_fdiv (pv 3) pe_int) pe_int) pa_nil))) (pe_op op_mod (pe_op op_mod (pe_op op_fdiv (pv 3) pe_int) pe_int) pe_int) (fun _ _ => rfl)))
        (pss_cons (ps_if (pt_cmpR op_ne (pe_c C1 hr (pa_cons (pv 4) (pa_cons (pv 5) pa_nil))) (pe_callB call_len_seq (by rfl) mlen PySem.boot_len (pa_cons (pe_c C3 hr (pa_cons (pv 4) (pa_cons (pv 5) pa_nil))) pa_nil)) (nomark _)) (pss_one (ps_ret pe_bl)) pss_nil)
        (pss_one (ps_if (PW.pt (pw_and (pt_cmp (pc_isN (pv 5))) (pw_and1 (pt_cmpR op_ne (pe_c C2 hr (pa_cons (pv 4) pa_nil)) (pe_c C1 hr (pa_cons (pv 4) (pa_cons pe_non pa_nil))) (nomark _))))) (pss_one (ps_ret pe_bl)) pss_nil)))))))
      (pss_one (ps_ret (pe_and (pe_cmpR op_eq (pe_c C2 hr (pa_cons pe_int pa_nil)) pe_int (nomark _)) (pe_and (pe_cmpR op_eq (pe_c C1 hr (pa_cons pe_int (pa_cons pe_int pa_nil))) pe_int (nomark _)) (pe_one (pe_cmpR op_eq (pe_c C1 hr (pa_cons pe_int (pa_cons pe_int pa_nil))) pe_int (nomark _))))))), ?_⟩
    refine ⟨.ref a, rfl, 40, rfl, a, ns.map V.int, rfl, hS, fun c nc => ?_⟩
    refine ⟨c, _, rfl, .inl (.inl upd_same), ?_⟩
    have hcl : (cutV (ns.map V.int) none (some 40)).length ≤ 63 := Nat.le_trans (cutV_length _ _ _) (by rw [List.length_map]; exact hlen)
    refine for_it (walk_enum (K := K) (a := c) (xs := cutV (ns.map V.int) none (some 40))) (fun i σ H' => ∃ (y1 y2 y3 y4 y5 : Option V), σ = [some (.ref a), y1, y2, y3, y4, y5] ∧ H' c = some (.lst (cutV (ns.map V.int) none (some 40)))) ?_ ?_ ?_ ?_
    · exact ⟨none, none, none, none, none, rfl, upd_same⟩
    · rintro i σ H' _ ⟨_, _, _, _, _, rfl, ec⟩
      exact .inl (.inl ec)
    · rintro i x σ H1 H2 hi ⟨_, _, _, _, _, rfl, ec⟩ ⟨T, k0, v, rfl, nT, rfl, ek, ev⟩
      have ek : k0 = .int (i : Int) := (Option.some.inj ek).symm
      subst ek
      obtain ⟨z, rfl⟩ := cut_int ev
      refine ⟨T, _, rfl, .inl (.inl upd_same), rfl, _, _, rfl, _, _, rfl, rfl, ?_⟩
      have ecT : upd H1 T (.tup [.int (i : Int), .int z]) c = some (.lst (cutV (ns.map V.int) none (some 40))) := by
        rw [upd_ne (ne_of_none ec nT)]
        exact ec
      generalize upd H1 T (.tup [.int (i : Int), .int z]) = H3 at ecT ⊢
      -- mark
      refine ⟨.int z, rfl, .int (i : Int), rfl, z, (i : Int), rfl, ?_⟩
      have h0 := mixed_nonneg z i
      generalize mixed z i = mk at h0 ⊢
      refine ⟨.int mk, rfl, mk, 7, rfl, rfl, (by show (0 : Int) < 7; decide), ?_⟩
      obtain ⟨n, en, hn⟩ : ∃ n : Nat, mk % 7 = (n : Int) ∧ n ≤ 6 := ⟨(mk % 7).toNat, by omega, by omega⟩
      show gName 4 (V.int (mk % 7)) _ _ _
      rw [en]
      obtain ⟨d, ed, hd⟩ : ∃ d : Nat, mk / 7 % 8 = (d : Int) ∧ d ≤ 7 := ⟨(mk / 7 % 8).toNat, by omega, by omega⟩
      refine ⟨.int mk, rfl, mk, 7, rfl, rfl, ⟨by decide, by decide⟩, mk / 7, 8, rfl, rfl, (by show (0 : Int) < 8; decide), sz (show 2 ≤ 1000000 by decide), fun l nl => ?_⟩
      have ecl : ∀ o, upd H3 l o c = some (.lst (cutV (ns.map V.int) none (some 40))) := fun o => by
        rw [upd_ne (ne_of_none ecT nl)]
        exact ecT
      refine ⟨.int mk, rfl, mk, 56, rfl, rfl, ⟨by decide, by decide⟩, mk / 56, 3, rfl, rfl, (by show (0 : Int) < 3; decide), mk / 56 % 3, 2, rfl, rfl, (by show (0 : Int) < 2; decide), ?_⟩
      obtain ⟨co, j, ej, eco, hco⟩ : ∃ (co : Option Nat) (j : Nat), mk / 56 % 3 % 2 = (j : Int) ∧ ([V.non, V.int (mk / 7 % 8)])[j]? = some (cV co) ∧ cOk 200 co := by
        by_cases h : mk / 56 % 3 % 2 = 0
        · exact ⟨none, 0, h, rfl, trivial⟩
        · exact ⟨some d, 1, by omega, by rw [ed]; rfl, by show d ≤ 200; omega⟩
      refine ⟨l, _, _, cV co, rfl, rfl, .inl (.inl upd_same), at_of ej eco, ?_⟩
      -- counted against all rows
      refine ⟨.int (n : Int), rfl, cV co, rfl, n, co, rfl, by omega, hco, fun H5 s5 => ?_⟩
      refine ⟨.int (n : Int), rfl, cV co, rfl, n, co, rfl, hn, fun H6 p s6 np ep => ?_⟩
      refine ⟨p, _, rfl, .inl (.inl (.inl ep)), rfl, _, rfl, iteNS ?_ ?_⟩
      · rw [List.length_map, onGround_cnt]
      have ec6 := s6 _ _ (s5 _ _ (ecl _))
      cases co with
      | some k =>
        refine ⟨.int (k : Int), rfl, false, rfl, ?_⟩
        refine iteF ?_
        refine iteF ?_
        exact ⟨_, _, _, _, _, rfl, ec6⟩
      | none =>
        refine ⟨.non, rfl, true, rfl, ?_⟩
        refine iteT ?_
        refine ⟨.int (n : Int), rfl, n, none, rfl, by omega, trivial, fun H7 s7 => ⟨.int (n : Int), rfl, n, none, rfl, by omega, trivial, fun H8 s8 => ?_⟩⟩
        refine ⟨rfl, _, rfl, iteNS rfl ?_⟩
        exact ⟨_, _, _, _, _, rfl, s8 _ _ (s7 _ _ ec6)⟩
    · rintro σ H1 ⟨_, _, _, _, _, rfl, ec⟩
      refine ⟨0, none, rfl, by decide, trivial, fun H2 s2 => ⟨rfl, true, ?_, iteT ?_⟩⟩
      · exact congrArg V.bl (decide_eq_true rfl)
      refine ⟨0, some 0, rfl, by decide, Nat.zero_le _, fun H3 s3 => ⟨rfl, true, ?_, iteT ?_⟩⟩
      · exact congrArg V.bl (decide_eq_true rfl)
      refine ⟨3, some 0, rfl, by decide, Nat.zero_le _, fun H4 s4 => ⟨rfl, ?_⟩⟩
      rw [decide_eq_true (show V.int ((W (low 3 (some 0)) (2 * 3) 0 : Nat) : Int) = V.int 0 by decide)]
      exact q _
end
end Hr
/-! ### what the top has written -/
namespace Hr
open PySem PySem.Spec PyProof.Rows L2
theorem all_mk {l : PySem.W.OpenLaw} {w : World} {K : PySem.W.Frag} {h : Heap} {mg : Str → Option Value} {fa f : Addr} (X : K.In h) (G : h.Ns mainGlobals mg) (hfa : mg "law" = some (.ref fa))
    {od an : Option Addr} {sl : Array (Option Value)} {oc kV dc pm cd ct : Value} {tk_MOST_UPS tk_MOST_HEIGHT : Tok} 
    (a : PySem.W.nsIn K mainGlobals "law" = some (some (.ref f))) (l1 : K.lookup f = some ⟨oc, od, .func (PySem.W.fnOf "law" "law" (defArgs sLaw) (defBody sLaw) (defScope sLaw) .none kV dc pm an cd ct), sl⟩) (c : PySem.W.codeIn K cd "law" = true) (k : PySem.W.keepIn K (.ref f) = true)
    (d_hill_table : Def K mg "hill_table" sHill ["n", "ceiling"])
    (d_ways_table : Def K mg "ways_table" sTable ["left", "top"])
    (d_with_one_more_sign : Def K mg "with_one_more_sign" sStep ["found"])
    (d_lower_of : Def K mg "lower_of" sLow ["height", "ceiling"])
    (d_check_ceiling : Def K mg "check_ceiling" sChCei ["ceiling"])
    (d_law_mixed : Def K mg "_law_mixed" sMixed ["_law_cell", "_law_k"])
    (d_law_all : Def K mg "_law_all" sAll ["_law_n", "_law_ceiling"])
    (d_counted : DefD K mg "counted" sCounted ["n", "ceiling"])
    (d_is_number : DefV K mg "is_number" sIsNum ["value", "most", "least"] (.int 0))
    (d_check_number : DefV K mg "check_number" sChNum ["value", "most", "least"] (.int 0))
    (g_MOST_UPS : PySem.W.nsIn K mainGlobals "MOST_UPS" = some (some (.int 200 tk_MOST_UPS)))
    (g_MOST_HEIGHT : PySem.W.nsIn K mainGlobals "MOST_HEIGHT" = some (some (.int 200 tk_MOST_HEIGHT)))
    (z_len : PySem.W.nsIn K mainGlobals "len" = some none)
    (z_range : PySem.W.nsIn K mainGlobals "range" = some none)
    (z_min : PySem.W.nsIn K mainGlobals "min" = some none)
    (z_isinstance : PySem.W.nsIn K mainGlobals "isinstance" = some none)
    (z_int : PySem.W.nsIn K mainGlobals "int" = some none)
    (z_bool : PySem.W.nsIn K mainGlobals "bool" = some none)
    (z_enumerate : PySem.W.nsIn K mainGlobals "enumerate" = some none)
    : ∃ fd : FuncData, (∀ (s : Shared) (v : Value), BindsTo s fd ⟨[v], []⟩ [("_law_script", v)]) ∧ ∀ base : Heap, K.In base → base.Ns mainGlobals mg → FnOk l.prog w K mg base CX0 5 fa fd ["_law_script"] (spLaw K) := by
  have e := hfa.symm.trans (PySem.W.mg_of X G a)
  cases e
  have F := fun_mk (st := sLaw) l1 c k
  refine ⟨PySem.W.fnOf "law" "law" (defArgs sLaw) (defBody sLaw) (defScope sLaw) .none kV dc pm an cd ct, fun s v => .of_eq rfl, fun base _ _ => ?_⟩
  have m_len := PySem.W.mg_none_of X G z_len
  have m_range := PySem.W.mg_none_of X G z_range
  have m_min := PySem.W.mg_none_of X G z_min
  have m_isinstance := PySem.W.mg_none_of X G z_isinstance
  have m_int := PySem.W.mg_none_of X G z_int
  have m_bool := PySem.W.mg_none_of X G z_bool
  have m_enumerate := PySem.W.mg_none_of X G z_enumerate
  have c_MOST_UPS := PySem.W.mg_of X G g_MOST_UPS
  have c_MOST_HEIGHT := PySem.W.mg_of X G g_MOST_HEIGHT
  have cLow := cal_low (P := l.prog) (w := w) (base := base) d_lower_of m_min
  obtain ⟨cIsNumA, cIsNum⟩ := cal_isNum (P := l.prog) (w := w) (base := base) d_is_number m_isinstance m_int m_bool
  obtain ⟨cChNumA, cChNum⟩ := cal_chNum d_check_number cIsNumA
  have cChCei := cal_chCei d_check_ceiling cChNum c_MOST_HEIGHT
  have cStep := cal_step (P := l.prog) (w := w) (base := base) d_with_one_more_sign m_len m_range
  have cTable := cal_table d_ways_table cStep m_range
  have cHill := cal_hill d_hill_table cTable cLow
  obtain ⟨cC1, cC2⟩ := cal_counted d_counted cHill cChNum cChCei c_MOST_UPS
  have cMixed := cal_mixed (P := l.prog) (w := w) (base := base) d_law_mixed
  have cAll := cal_all (P := l.prog) (w := w) (base := base) d_law_all m_range
  exact ok_law F cC1 cC2 cAll cMixed m_len m_enumerate
end Hr
open PySem PySem.W PyProof.Rows
set_option maxHeartbeats 0 in
theorem PySem.Challenge.cw_hillrows_k02_counted_holds : PySem.Challenge.rw_hillrows_k02_counted.Holds := by
  w_on; o_law; k_head; (case hw => w_witness2)
  k_fill
  refine L2.walk_of (l := PySem.Challenge.rw_hillrows_k02_counted) (n := 63) (k := 5) (x := "_law_script") (CX := fun _ => L2.CX0) (sp := fun w => Hr.spLaw _) rfl (by decide) rfl ⟨rfl, by decide, by decide⟩ (fun w h Y => PySem.W.kIn_of Y) ?F (fun _ _ a ns hl _ hS => ⟨a, ns, rfl, hS, hl, fun _ => rfl⟩) (fun _ _ _ _ _ h => h)
  case F =>
    intro w mg fa h KX G hmg
    refine' Hr.all_mk KX G hmg ?a ?l1 ?c ?k ?d_hill_table ?d_ways_table ?d_with_one_more_sign ?d_lower_of ?d_check_ceiling ?d_law_mixed ?d_law_all ?d_counted ?d_is_number ?d_check_number ?g_MOST_UPS ?g_MOST_HEIGHT ?z_len ?z_range ?z_min ?z_isinstance ?z_int ?z_bool ?z_enumerate
    (case a => k_is); (case l1 => k_is); (case c => k_is); (case k => k_is)
    case d_hill_table =>
      refine' Hr.def_mk KX G (fun _ _ _ _ _ _ us hl => match us, hl with | [_, _], _ => rfl) ?a ?l ?c ?k
      (case a => k_is); (case l => k_is); (case c => k_is); (case k => k_is)
    case d_ways_table =>
      refine' Hr.def_mk KX G (fun _ _ _ _ _ _ us hl => match us, hl with | [_, _], _ => rfl) ?a ?l ?c ?k
      (case a => k_is); (case l => k_is); (case c => k_is); (case k => k_is)
    case d_with_one_more_sign =>
      refine' Hr.def_mk KX G (fun _ _ _ _ _ _ us hl => match us, hl with | [_], _ => rfl) ?a ?l ?c ?k
      (case a => k_is); (case l => k_is); (case c => k_is); (case k => k_is)
    case d_lower_of =>
      refine' Hr.def_mk KX G (fun _ _ _ _ _ _ us hl => match us, hl with | [_, _], _ => rfl) ?a ?l ?c ?k
      (case a => k_is); (case l => k_is); (case c => k_is); (case k => k_is)
    case d_check_ceiling =>
      refine' Hr.def_mk KX G (fun _ _ _ _ _ _ us hl => match us, hl with | [_], _ => rfl) ?a ?l ?c ?k
      (case a => k_is); (case l => k_is); (case c => k_is); (case k => k_is)
    case d_law_mixed =>
      refine' Hr.def_mk KX G (fun _ _ _ _ _ _ us hl => match us, hl with | [_, _], _ => rfl) ?a ?l ?c ?k
      (case a => k_is); (case l => k_is); (case c => k_is); (case k => k_is)
    case d_law_all =>
      refine' Hr.def_mk KX G (fun _ _ _ _ _ _ us hl => match us, hl with | [_, _], _ => rfl) ?a ?l ?c ?k
      (case a => k_is); (case l => k_is); (case c => k_is); (case k => k_is)
    case d_counted =>
      refine' Hr.defD_mk (m := 1) KX G rfl (fun _ _ _ _ _ _ _ us its hu hi => match us, hu, its, hi with | [_, _], _, [_], _ => ⟨_, rfl, rfl⟩) (fun _ _ _ _ _ _ _ us its hu hi => match us, hu, its, hi with | [_], _, [_], _ => ⟨_, rfl, rfl⟩) ?a ?l ?c ?k ?t
      (case a => k_is); (case l => k_is); (case c => k_is); (case k => k_is); (case t => k_is)
    case d_is_number =>
      refine' Hr.defV_mk (m := 2) KX G rfl (fun _ _ _ _ _ _ _ us its hu hi => match us, hu, its, hi with | [_, _, _], _, [_], _ => ⟨_, rfl, rfl⟩) (fun _ _ _ _ _ _ _ us its hu hi => match us, hu, its, hi with | [_, _], _, [_], _ => ⟨_, rfl, rfl⟩) ?a ?l ?c ?k ?hu ?t
      (case a => k_is); (case l => k_is); (case c => k_is); (case k => k_is); (case t => k_is); (case hu => exact ⟨_, rfl⟩)
    case d_check_number =>
      refine' Hr.defV_mk (m := 2) KX G rfl (fun _ _ _ _ _ _ _ us its hu hi => match us, hu, its, hi with | [_, _, _], _, [_], _ => ⟨_, rfl, rfl⟩) (fun _ _ _ _ _ _ _ us its hu hi => match us, hu, its, hi with | [_, _], _, [_], _ => ⟨_, rfl, rfl⟩) ?a ?l ?c ?k ?hu ?t
      (case a => k_is); (case l => k_is); (case c => k_is); (case k => k_is); (case t => k_is); (case hu => exact ⟨_, rfl⟩)
    (case g_MOST_UPS => k_is)
    (case g_MOST_HEIGHT => k_is)
    (case z_len => k_is)
    (case z_range => k_is)
    (case z_min => k_is)
    (case z_isinstance => k_is)
    (case z_int => k_is)
    (case z_bool => k_is)
    (case z_enumerate => k_is)
