import PyProof.Rows.All
import Wide.All
import OpenK.AllK
import Wide.FinOn
import HandS.ForMost
import HandS.IsInst
import HandS.Defaults
import HandS.Walk
import HandS.Codes
import HandS.RevRange
import HandS.ForExc
import KE.GoesMore
import HandS.ExcIs
import HandS.RaiseMore
import HandS.FStr
import HandS.ExcValue
import KE.RegKIsAll
import HandS.Rev
import HandS.Style
import HandS.TupSets
import HandS.TupAny
import HandS.Replace
import HandS.ReplaceLit
import HandS.ReplaceList
import HandS.ReplaceDef
import HandS.StrMore
import HandS.ExcField
import HandS.Flow
import HandS.ExcInit
import KE.KExcIs
import KE.KExcSuper
import PySem.Challenge.RW_hillrows_k13_runs
set_option Elab.async false
set_option linter.all false
set_option maxRecDepth 100000
namespace Hr
/-- the ways to the ground with k signs from the height h, none above T (for h at most T) -/
def W (T : Nat) : Nat → Nat → Nat
  | 0, h => if h = 0 then 1 else 0
  | k + 1, h => (if h = 0 then 0 else W T k (h - 1)) + (if h < T then W T k (h + 1) else 0)
theorem W_zero (T : Nat) : ∀ k h, k < h → W T k h = 0
  | 0, h, e => by
    unfold W
    rw [if_neg (by omega)]
  | k + 1, h, e => by
    unfold W
    rw [if_neg (show ¬ h = 0 by omega), W_zero T k (h - 1) (by omega), W_zero T k (h + 1) (by omega)]
    split <;> rfl
theorem W_same {T T' : Nat} (hT : T ≤ T') : ∀ k h, h ≤ T → k + h ≤ 2 * T + 1 → W T k h = W T' k h
  | 0, h, _, _ => by simp only [W]
  | k + 1, h, e, l => by
    simp only [W]
    by_cases h0 : h = 0
    · rw [if_pos h0, if_pos h0]
      by_cases hl : h < T
      · rw [if_pos hl, if_pos (show h < T' by omega), W_same hT k (h + 1) (by omega) (by omega)]
      · rw [if_neg hl]
        by_cases hl' : h < T'
        · rw [if_pos hl', W_zero T' k (h + 1) (by omega)]
        · rw [if_neg hl']
    · rw [if_neg h0, if_neg h0, W_same hT k (h - 1) (by omega) (by omega)]
      by_cases hl : h < T
      · rw [if_pos hl, if_pos (show h < T' by omega), W_same hT k (h + 1) (by omega) (by omega)]
      · rw [if_neg hl]
        by_cases hl' : h < T'
        · rw [if_pos hl', W_zero T' k (h + 1) (by omega)]
        · rw [if_neg hl']
/-- one row of the table -/
def rowW (T k : Nat) : List Int := (List.range (T + 1)).map fun h => ((W T k h : Nat) : Int)
theorem rowW_len (T k : Nat) : (rowW T k).length = T + 1 := by
  unfold rowW
  rw [List.length_map, List.length_range]
theorem rowW_get {T k h : Nat} (e : h ≤ T) : (rowW T k)[h]? = some ((W T k h : Nat) : Int) := by
  unfold rowW
  rw [List.getElem?_map, List.getElem?_range (by omega)]
  rfl
theorem rowW_zero (T : Nat) : rowW T 0 = 1 :: List.replicate T 0 := by
  unfold rowW
  apply List.ext_getElem?
  intro i
  rw [List.getElem?_map]
  cases i with
  | zero => rw [List.getElem?_range (by omega)]; rfl
  | succ i =>
    rw [List.getElem?_cons_succ]
    by_cases h : i < T
    · rw [List.getElem?_range (by omega), List.getElem?_replicate, if_pos h]
      rfl
    · rw [List.getElem?_eq_none (by rw [List.length_range]; omega), List.getElem?_replicate, if_neg h]
      rfl
/-- the padded row -/
def padW (l : List Int) : List Int := 0 :: (l ++ [0])
theorem pad_lo {T k h : Nat} (e : h ≤ T) : (padW (rowW T k))[h]? = some (((if h = 0 then 0 else W T k (h - 1) : Nat)) : Int) := by
  unfold padW
  cases h with
  | zero => rfl
  | succ h =>
    rw [List.getElem?_cons_succ, List.getElem?_append_left (by rw [rowW_len]; omega), rowW_get (by omega)]
    rfl
theorem pad_hi {T k h : Nat} (e : h ≤ T) : (padW (rowW T k))[h + 2]? = some (((if h < T then W T k (h + 1) else 0 : Nat)) : Int) := by
  unfold padW
  rw [List.getElem?_cons_succ]
  by_cases hl : h < T
  · rw [List.getElem?_append_left (by rw [rowW_len]; omega), rowW_get (by omega), if_pos hl]
  · have e : h = T := by omega
    subst e
    rw [List.getElem?_append_right (by rw [rowW_len]; omega), rowW_len, Nat.sub_self, if_neg hl]
    rfl
theorem row_step {T k h : Nat} (e : h ≤ T) : ∃ a b : Int, (padW (rowW T k))[h]? = some a ∧ (padW (rowW T k))[h + 2]? = some b ∧ (rowW T (k + 1))[h]? = some (a + b) := by
  refine ⟨_, _, pad_lo e, pad_hi e, ?_⟩
  rw [rowW_get e]
  simp only [W]
  rw [Int.natCast_add]
theorem W_le (T : Nat) : ∀ k h, W T k h ≤ 2 ^ k
  | 0, h => by
    unfold W
    split <;> decide
  | k + 1, h => by
    have a := W_le T k (h - 1)
    have b := W_le T k (h + 1)
    unfold W
    rw [Nat.pow_succ]
    split <;> split <;> omega

/-! ### hill rows by growing beginnings -/
section
variable {α : Type} (d u : α → α)
/-- the ceiling: none or some k -/
def under : Option Nat → Nat → Bool
  | none, _ => true
  | some c, h => decide (h < c)
def low (h : Nat) : Option Nat → Nat
  | none => h
  | some c => min h c
def grow1 (c : Option Nat) (p : α × Nat) : List (α × Nat) :=
  (if 0 < p.2 then [(d p.1, p.2 - 1)] else []) ++ (if under c p.2 = true then [(u p.1, p.2 + 1)] else [])
def growAll (c : Option Nat) (l : List (α × Nat)) : List (α × Nat) := l.flatMap (grow1 d u c)
def grown (c : Option Nat) (a : α) : Nat → List (α × Nat)
  | 0 => [(a, 0)]
  | k + 1 => growAll d u c (grown c a k)
def cnt (h : Nat) (l : List (α × Nat)) : Nat := (l.filter fun p => p.2 == h).length
theorem cnt_nil (h : Nat) : cnt h ([] : List (α × Nat)) = 0 := rfl
theorem cnt_append (h : Nat) (l r : List (α × Nat)) : cnt h (l ++ r) = cnt h l + cnt h r := by
  unfold cnt
  rw [List.filter_append, List.length_append]
theorem cnt_one (h : Nat) (a : α) (k : Nat) : cnt h [(a, k)] = if k = h then 1 else 0 := by
  unfold cnt
  by_cases e : k = h
  · rw [if_pos e, List.filter_cons_of_pos (by simp [e])]
    rfl
  · rw [if_neg e, List.filter_cons_of_neg (by simp [e])]
    rfl
theorem cnt_cons (h : Nat) (p : α × Nat) (l : List (α × Nat)) : cnt h (p :: l) = (if p.2 = h then 1 else 0) + cnt h l := by
  rw [← List.singleton_append, cnt_append, show cnt h [p] = if p.2 = h then 1 else 0 from cnt_one h p.1 p.2]
theorem cnt_grow1 (c : Option Nat) (h : Nat) (p : α × Nat) : cnt h (grow1 d u c p) = (if p.2 = h + 1 then 1 else 0) + (if 0 < h ∧ under c (h - 1) = true ∧ p.2 = h - 1 then 1 else 0) := by
  unfold grow1
  rw [cnt_append]
  congr 1
  · by_cases e : 0 < p.2
    · rw [if_pos e, cnt_one]
      by_cases e2 : p.2 = h + 1
      · rw [if_pos e2, if_pos (by omega)]
      · rw [if_neg e2, if_neg (by omega)]
    · rw [if_neg e, cnt_nil, if_neg (by omega)]
  · by_cases e : under c p.2 = true
    · rw [if_pos e, cnt_one]
      by_cases e2 : p.2 + 1 = h
      · have : h - 1 = p.2 := by omega
        rw [if_pos e2, if_pos ⟨by omega, by rw [this]; exact e, by omega⟩]
      · rw [if_neg e2, if_neg (by omega)]
    · rw [if_neg e, cnt_nil]
      by_cases e2 : 0 < h ∧ under c (h - 1) = true ∧ p.2 = h - 1
      · rw [← e2.2.2] at e2
        exact absurd e2.2.1 e
      · rw [if_neg e2]
theorem cnt_growAll (c : Option Nat) (h : Nat) : ∀ l : List (α × Nat), cnt h (growAll d u c l) = cnt (h + 1) l + (if 0 < h ∧ under c (h - 1) = true then cnt (h - 1) l else 0)
  | [] => by
    show 0 = 0 + (if _ then 0 else 0)
    split <;> rfl
  | p :: l => by
    have e : growAll d u c (p :: l) = grow1 d u c p ++ growAll d u c l := rfl
    rw [e, cnt_append, cnt_grow1, cnt_growAll c h l, cnt_cons, cnt_cons]
    by_cases e1 : 0 < h ∧ under c (h - 1) = true
    · rw [if_pos e1, if_pos e1]
      by_cases e2 : p.2 = h - 1
      · rw [if_pos (show 0 < h ∧ under c (h - 1) = true ∧ p.2 = h - 1 from ⟨e1.1, e1.2, e2⟩), if_pos e2]
        omega
      · rw [if_neg (show ¬ (0 < h ∧ under c (h - 1) = true ∧ p.2 = h - 1) from fun z => e2 z.2.2), if_neg e2]
        omega
    · rw [if_neg e1, if_neg e1, if_neg (show ¬ (0 < h ∧ under c (h - 1) = true ∧ p.2 = h - 1) from fun z => e1 ⟨z.1, z.2.1⟩)]
      omega
/-- no row grown in k signs is higher than k -/
theorem cnt_grown (c : Option Nat) (a : α) (T : Nat) (hT : ∀ k, c = some k → T = k) : ∀ k h, (c = none → k + h ≤ 2 * T + 1) → h ≤ T → cnt h (grown d u c a k) = W T k h
  | 0, h, _, _ => by
    show cnt h [(a, 0)] = _
    rw [cnt_one]
    unfold W
    by_cases e : h = 0
    · rw [if_pos e, if_pos e.symm]
    · rw [if_neg e, if_neg (fun z => e z.symm)]
  | k + 1, h, hc, hl => by
    show cnt h (growAll d u c (grown d u c a k)) = _
    rw [cnt_growAll]
    simp only [W]
    rw [Nat.add_comm]
    congr 1
    · by_cases e0 : h = 0
      · rw [if_pos e0, if_neg (by omega)]
      · rw [if_neg e0]
        have hu : under c (h - 1) = true := by
          cases c with
          | none => rfl
          | some k =>
            have := hT k rfl
            unfold under
            exact decide_eq_true (by omega)
        rw [if_pos ⟨by omega, hu⟩, cnt_grown c a T hT k (h - 1) (fun z => by have := hc z; omega) (by omega)]
    · by_cases e : h < T
      · rw [if_pos e, cnt_grown c a T hT k (h + 1) (fun z => by have := hc z; omega) (by omega)]
      · rw [if_neg e]
        cases c with
        | none =>
          have z := hc rfl
          exact cnt_zero_len none a k (h + 1) (by omega)
        | some j =>
          have e3 := hT j rfl
          exact cnt_zero_top2 j a k (h + 1) (by omega)
where
  cnt_zero_len (c : Option Nat) (a : α) : ∀ k h, k < h → cnt h (grown d u c a k) = 0
    | 0, h, e => by
      show cnt h [(a, 0)] = 0
      rw [cnt_one, if_neg (by omega)]
    | k + 1, h, e => by
      show cnt h (growAll d u c (grown d u c a k)) = 0
      rw [cnt_growAll, cnt_zero_len c a k (h + 1) (by omega), cnt_zero_len c a k (h - 1) (by omega)]
      split <;> rfl
  cnt_zero_top2 (j : Nat) (a : α) : ∀ k h, j < h → cnt h (grown d u (some j) a k) = 0
    | 0, h, e => by
      show cnt h [(a, 0)] = 0
      rw [cnt_one, if_neg (by omega)]
    | k + 1, h, e => by
      show cnt h (growAll d u (some j) (grown d u (some j) a k)) = 0
      rw [cnt_growAll, cnt_zero_top2 j a k (h + 1) (by omega), if_neg (fun z => ?_)]
      have := z.2
      unfold under at this
      have := of_decide_eq_true this
      omega
theorem grown_len (c : Option Nat) (a : α) : ∀ k, (grown d u c a k).length ≤ 2 ^ k
  | 0 => Nat.le_refl 1
  | k + 1 => by
    have ih := grown_len c a k
    have g : ∀ l : List (α × Nat), (growAll d u c l).length ≤ 2 * l.length := by
      intro l
      induction l with
      | nil => exact Nat.le_refl _
      | cons p l il =>
        have e : growAll d u c (p :: l) = grow1 d u c p ++ growAll d u c l := rfl
        rw [e, List.length_append, List.length_cons]
        have : (grow1 d u c p).length ≤ 2 := by
          unfold grow1
          rw [List.length_append]
          split <;> split <;> simp
        omega
    have := g (grown d u c a k)
    show (growAll d u c (grown d u c a k)).length ≤ _
    rw [Nat.pow_succ]
    omega
/-- as many as the table counts -/
theorem counted_ok (c : Option Nat) (a : α) (n : Nat) : cnt 0 (grown d u c a (2 * n)) = W (low n c) (2 * n) 0 := by
  cases c with
  | none => exact cnt_grown d u none a n (fun _ z => nomatch z) _ _ (fun _ => by omega) (Nat.zero_le _)
  | some j =>
    rw [cnt_grown d u (some j) a j (fun k z => by cases z; rfl) _ _ (fun z => nomatch z) (Nat.zero_le _)]
    show W j (2 * n) 0 = W (min n j) (2 * n) 0
    by_cases h : j ≤ n
    · rw [Nat.min_eq_right h]
    · rw [Nat.min_eq_left (by omega)]
      exact (W_same (by omega) _ _ (Nat.zero_le _) (by omega)).symm
end
end Hr
namespace Hr
/-! ### rows as lists of signs: true is up -/
/-- all rows of k signs from the height h to the ground, none above T, in order -/
def rws (T : Nat) : Nat → Nat → List (List Bool)
  | 0, h => if h = 0 then [[]] else []
  | k + 1, h => (if h = 0 then [] else (rws T k (h - 1)).map (false :: ·)) ++ (if h < T then (rws T k (h + 1)).map (true :: ·) else [])
theorem rws_len (T : Nat) : ∀ k h, (rws T k h).length = W T k h
  | 0, h => by
    unfold rws W
    split <;> rfl
  | k + 1, h => by
    unfold rws W
    rw [List.length_append]
    congr 1
    · split
      · rfl
      · rw [List.length_map, rws_len T k (h - 1)]
    · split
      · rw [List.length_map, rws_len T k (h + 1)]
      · rfl
/-- the row of a rank -/
def unrank (T : Nat) : Nat → Nat → Nat → List Bool
  | 0, _, _ => []
  | k + 1, h, r => if r < (if h = 0 then 0 else W T k (h - 1)) then false :: unrank T k (h - 1) r else true :: unrank T k (h + 1) (r - (if h = 0 then 0 else W T k (h - 1)))
/-- the ways down -/
def dn (T k h : Nat) : Nat := if h = 0 then 0 else W T k (h - 1)
theorem unrank_succ (T k h r : Nat) : unrank T (k + 1) h r = if r < dn T k h then false :: unrank T k (h - 1) r else true :: unrank T k (h + 1) (r - dn T k h) := rfl
theorem W_succ (T k h : Nat) : W T (k + 1) h = dn T k h + (if h < T then W T k (h + 1) else 0) := rfl
/-- the rank of a row that goes on from h -/
def rankOf (T : Nat) : Nat → List Bool → Nat
  | _, [] => 0
  | h, true :: l => dn T l.length h + rankOf T (h + 1) l
  | h, false :: l => rankOf T (h - 1) l
/-- a row from h to the ground under the ceiling -/
def okb (c : Option Nat) : Nat → List Bool → Bool
  | h, [] => h == 0
  | h, true :: l => under c h && okb c (h + 1) l
  | h, false :: l => (h != 0) && okb c (h - 1) l
theorem okb_up {c : Option Nat} {h : Nat} {l : List Bool} (e : okb c h (true :: l) = true) : under c h = true ∧ okb c (h + 1) l = true := by
  unfold okb at e
  exact Bool.and_eq_true_iff.mp e
theorem okb_down {c : Option Nat} {h : Nat} {l : List Bool} (e : okb c h (false :: l) = true) : h ≠ 0 ∧ okb c (h - 1) l = true := by
  unfold okb at e
  obtain ⟨a, b⟩ := Bool.and_eq_true_iff.mp e
  exact ⟨by simpa using a, b⟩
theorem okb_len {c : Option Nat} : ∀ {l : List Bool} {h : Nat}, okb c h l = true → h ≤ l.length
  | [], h, e => by
    have : h = 0 := by simpa [okb] using e
    omega
  | true :: l, h, e => by
    have := okb_len (okb_up e).2
    rw [List.length_cons]
    omega
  | false :: l, h, e => by
    have := okb_len (okb_down e).2
    rw [List.length_cons]
    omega
theorem rank_lt {T : Nat} : ∀ {l : List Bool} {h : Nat}, okb (some T) h l = true → rankOf T h l < W T l.length h
  | [], h, e => by
    have e0 : h = 0 := by simpa [okb] using e
    rw [e0]
    exact Nat.zero_lt_one
  | true :: l, h, e => by
    obtain ⟨a, b⟩ := okb_up e
    have ih := rank_lt b
    have a' : h < T := of_decide_eq_true a
    rw [List.length_cons, W_succ, if_pos a']
    show dn T l.length h + rankOf T (h + 1) l < _
    omega
  | false :: l, h, e => by
    obtain ⟨a, b⟩ := okb_down e
    have ih := rank_lt b
    rw [List.length_cons, W_succ]
    show rankOf T (h - 1) l < _
    unfold dn
    rw [if_neg a]
    omega
theorem unrank_rank {T : Nat} : ∀ {l : List Bool} {h : Nat}, okb (some T) h l = true → unrank T l.length h (rankOf T h l) = l
  | [], h, e => rfl
  | true :: l, h, e => by
    obtain ⟨a, b⟩ := okb_up e
    rw [List.length_cons, unrank_succ]
    show (if dn T l.length h + rankOf T (h + 1) l < dn T l.length h then _ else true :: unrank T l.length (h + 1) (dn T l.length h + rankOf T (h + 1) l - dn T l.length h)) = _
    rw [if_neg (by omega), Nat.add_sub_cancel_left, unrank_rank b]
  | false :: l, h, e => by
    obtain ⟨a, b⟩ := okb_down e
    have := rank_lt b
    rw [List.length_cons, unrank_succ]
    show (if rankOf T (h - 1) l < dn T l.length h then false :: unrank T l.length (h - 1) (rankOf T (h - 1) l) else _) = _
    rw [if_pos (by unfold dn; rw [if_neg a]; exact this), unrank_rank b]
theorem unrank_ok {T : Nat} : ∀ {k h r : Nat}, r < W T k h → okb (some T) h (unrank T k h r) = true ∧ (unrank T k h r).length = k ∧ rankOf T h (unrank T k h r) = r
  | 0, h, r, e => by
    unfold W at e
    by_cases h0 : h = 0
    · rw [if_pos h0] at e
      refine ⟨?_, rfl, ?_⟩
      · rw [h0]
        rfl
      · show 0 = r
        omega
    · rw [if_neg h0] at e
      omega
  | k + 1, h, r, e => by
    rw [unrank_succ]
    rw [W_succ] at e
    by_cases hr : r < dn T k h
    · rw [if_pos hr]
      have h0 : h ≠ 0 := fun z => by
        unfold dn at hr
        rw [if_pos z] at hr
        omega
      have hr' : r < W T k (h - 1) := by
        unfold dn at hr
        rw [if_neg h0] at hr
        exact hr
      obtain ⟨a, b, c⟩ := unrank_ok hr'
      refine ⟨?_, by rw [List.length_cons, b], c⟩
      unfold okb
      rw [a, Bool.and_true]
      simpa using h0
    · rw [if_neg hr]
      by_cases hT : h < T
      · rw [if_pos hT] at e
        obtain ⟨a, b, c⟩ := unrank_ok (T := T) (k := k) (h := h + 1) (r := r - dn T k h) (by omega)
        refine ⟨?_, by rw [List.length_cons, b], ?_⟩
        · unfold okb
          rw [a, Bool.and_true]
          exact decide_eq_true hT
        · show dn T _ h + rankOf T (h + 1) _ = r
          rw [b, c]
          omega
      · rw [if_neg hT] at e
        omega
theorem unrank_get {T : Nat} : ∀ {k h r : Nat}, r < W T k h → (rws T k h)[r]? = some (unrank T k h r)
  | 0, h, r, e => by
    unfold W at e
    by_cases h0 : h = 0
    · rw [if_pos h0] at e
      have : r = 0 := by omega
      rw [this, h0]
      rfl
    · rw [if_neg h0] at e
      omega
  | k + 1, h, r, e => by
    rw [unrank_succ]
    rw [W_succ] at e
    unfold rws
    have hl : (if h = 0 then [] else (rws T k (h - 1)).map (false :: ·)).length = dn T k h := by
      unfold dn
      split
      · rfl
      · rw [List.length_map, rws_len]
    by_cases hr : r < dn T k h
    · rw [if_pos hr, List.getElem?_append_left (by rw [hl]; exact hr)]
      have h0 : h ≠ 0 := fun z => by
        unfold dn at hr
        rw [if_pos z] at hr
        omega
      have hr' : r < W T k (h - 1) := by
        unfold dn at hr
        rw [if_neg h0] at hr
        exact hr
      rw [if_neg h0, List.getElem?_map, unrank_get hr']
      rfl
    · rw [if_neg hr, List.getElem?_append_right (by rw [hl]; omega), hl]
      by_cases hT : h < T
      · rw [if_pos hT] at e ⊢
        rw [List.getElem?_map, unrank_get (T := T) (k := k) (h := h + 1) (r := r - dn T k h) (by omega)]
        rfl
      · rw [if_neg hT] at e
        omega
/-- a hill row of n ups is not higher than n -/
theorem okb_low {c : Option Nat} {n : Nat} : ∀ {l : List Bool} {h : Nat}, h + l.length ≤ 2 * n → okb c h l = true → okb (some (low n c)) h l = true
  | [], h, _, e => e
  | true :: l, h, hn, e => by
    obtain ⟨a, b⟩ := okb_up e
    rw [List.length_cons] at hn
    have := okb_len b
    unfold okb
    rw [okb_low (by omega) b, Bool.and_true]
    refine decide_eq_true ?_
    cases c with
    | none => show h < n; omega
    | some k =>
      have a' : h < k := of_decide_eq_true a
      show h < min n k
      omega
  | false :: l, h, hn, e => by
    obtain ⟨a, b⟩ := okb_down e
    rw [List.length_cons] at hn
    unfold okb
    rw [okb_low (by omega) b, Bool.and_true]
    simpa using a
theorem okb_up_of {c : Option Nat} {n : Nat} : ∀ {l : List Bool} {h : Nat}, okb (some (low n c)) h l = true → okb c h l = true
  | [], h, e => e
  | true :: l, h, e => by
    obtain ⟨a, b⟩ := okb_up e
    unfold okb
    rw [okb_up_of b, Bool.and_true]
    have a' : h < low n c := of_decide_eq_true a
    cases c with
    | none => rfl
    | some k =>
      have a' : h < min n k := a'
      exact decide_eq_true (by omega)
  | false :: l, h, e => by
    obtain ⟨a, b⟩ := okb_down e
    unfold okb
    rw [okb_up_of b, Bool.and_true]
    simpa using a
/-- how many ups -/
theorem okb_ups {c : Option Nat} : ∀ {l : List Bool} {h : Nat}, okb c h l = true → h + 2 * (l.filter id).length = l.length
  | [], h, e => by
    have e0 : h = 0 := by simpa [okb] using e
    rw [e0]
    rfl
  | true :: l, h, e => by
    have := okb_ups (okb_up e).2
    rw [List.length_cons, List.filter_cons_of_pos rfl, List.length_cons]
    omega
  | false :: l, h, e => by
    obtain ⟨a, b⟩ := okb_down e
    have := okb_ups b
    rw [List.length_cons, List.filter_cons_of_neg (by simp)]
    omega
theorem okb_even {c : Option Nat} {l : List Bool} (e : okb c 0 l = true) : l.length = 2 * (l.length / 2) := by
  have := okb_ups e
  omega
/-! ### heights -/
def sg (b : Bool) : Int := if b = true then 1 else -1
def hts : Int → List Bool → List Int
  | h, [] => [h]
  | h, b :: l => h :: hts (h + sg b) l
theorem hts_len : ∀ (l : List Bool) (h : Int), (hts h l).length = l.length + 1
  | [], _ => rfl
  | b :: l, h => by
    show (hts (h + sg b) l).length + 1 = _
    rw [hts_len l]
    rfl
theorem hts_ne (h : Int) (l : List Bool) : hts h l ≠ [] := by
  cases l <;> exact List.cons_ne_nil _ _
theorem hts_append : ∀ (l r : List Bool) (h : Int), hts h (l ++ r) = (hts h l).dropLast ++ hts (h + (l.map sg).sum) r
  | [], r, h => by
    show hts h r = [] ++ hts (h + 0) r
    rw [Int.add_zero]
    rfl
  | b :: l, r, h => by
    show h :: hts (h + sg b) (l ++ r) = (h :: hts (h + sg b) l).dropLast ++ _
    rw [hts_append l r, List.dropLast_cons_of_ne_nil (hts_ne _ _), List.map_cons, List.sum_cons, ← Int.add_assoc]
    rfl
theorem hts_snoc (l : List Bool) (b : Bool) (h : Int) : hts h (l ++ [b]) = hts h l ++ [h + (l.map sg).sum + sg b] := by
  have last : ∀ (l : List Bool) (h : Int), hts h l = (hts h l).dropLast ++ [h + (l.map sg).sum] := by
    intro l h
    have := hts_append l [] h
    rw [List.append_nil] at this
    exact this
  rw [hts_append, last l h]
  rw [List.dropLast_concat, List.append_assoc]
  rfl
theorem hts_last (l : List Bool) (h : Int) : (hts h l) = (hts h l).dropLast ++ [h + (l.map sg).sum] := by
  have := hts_append l [] h
  rw [List.append_nil] at this
  exact this
/-- a hill row by its heights -/
theorem okb_iff (c : Option Nat) : ∀ (l : List Bool) (h : Nat), (∀ k, c = some k → h ≤ k) → (okb c h l = true ↔ ((h : Int) + (l.map sg).sum = 0 ∧ (∀ x ∈ hts h l, 0 ≤ x) ∧ ∀ k, c = some k → ∀ x ∈ hts h l, x ≤ (k : Int)))
  | [], h, hc => by
    show ((h == 0) = true) ↔ _
    constructor
    · intro e
      have e0 : h = 0 := by simpa using e
      subst e0
      refine ⟨rfl, fun x hx => ?_, fun k hk x hx => ?_⟩
      · have := List.mem_singleton.mp hx
        omega
      · have := List.mem_singleton.mp hx
        omega
    · rintro ⟨e, _, _⟩
      have : (h : Int) + 0 = 0 := e
      have : h = 0 := by omega
      simp [this]
  | true :: l, h, hc => by
    have e1 : hts (h : Int) (true :: l) = (h : Int) :: hts ((h + 1 : Nat) : Int) l := rfl
    have e2 : ((true :: l).map sg).sum = 1 + (l.map sg).sum := by
      rw [List.map_cons, List.sum_cons]
      rfl
    rw [e1, e2]
    constructor
    · intro e
      obtain ⟨a, b⟩ := okb_up e
      have hc' : ∀ k, c = some k → h + 1 ≤ k := fun k hk => by
        rw [hk] at a
        exact of_decide_eq_true a
      obtain ⟨i1, i2, i3⟩ := (okb_iff c l (h + 1) hc').mp b
      refine ⟨by omega, fun x hx => ?_, fun k hk x hx => ?_⟩
      · rcases List.mem_cons.mp hx with z | z
        · omega
        · exact i2 x z
      · rcases List.mem_cons.mp hx with z | z
        · have := hc k hk
          omega
        · exact i3 k hk x z
    · rintro ⟨a, b, d⟩
      have hmem : ((h + 1 : Nat) : Int) ∈ hts ((h + 1 : Nat) : Int) l := by
        cases l <;> exact List.mem_cons_self ..
      have hc' : ∀ k, c = some k → h + 1 ≤ k := fun k hk => by
        have := d k hk _ (List.mem_cons_of_mem _ hmem)
        omega
      have := (okb_iff c l (h + 1) hc').mpr ⟨by omega, fun x hx => b x (List.mem_cons_of_mem _ hx), fun k hk x hx => d k hk x (List.mem_cons_of_mem _ hx)⟩
      unfold okb
      rw [this, Bool.and_true]
      cases c with
      | none => rfl
      | some k =>
        have := hc' k rfl
        exact decide_eq_true (by omega)
  | false :: l, h, hc => by
    have e2 : ((false :: l).map sg).sum = -1 + (l.map sg).sum := by
      rw [List.map_cons, List.sum_cons]
      rfl
    by_cases h0 : h = 0
    · subst h0
      have e1 : hts ((0 : Nat) : Int) (false :: l) = 0 :: hts (-1) l := rfl
      constructor
      · intro e
        exact absurd rfl (okb_down e).1
      · rintro ⟨a, b, d⟩
        have hmem : (-1 : Int) ∈ hts (-1) l := by
          cases l <;> exact List.mem_cons_self ..
        rw [e1] at b
        have := b _ (List.mem_cons_of_mem _ hmem)
        omega
    · have e1 : hts (h : Int) (false :: l) = (h : Int) :: hts ((h - 1 : Nat) : Int) l := by
        show (h : Int) :: hts ((h : Int) + -1) l = _
        rw [show (h : Int) + -1 = ((h - 1 : Nat) : Int) by omega]
      rw [e1, e2]
      have hc' : ∀ k, c = some k → h - 1 ≤ k := fun k hk => by
        have := hc k hk
        omega
      constructor
      · intro e
        obtain ⟨a, b⟩ := okb_down e
        obtain ⟨i1, i2, i3⟩ := (okb_iff c l (h - 1) hc').mp b
        refine ⟨by omega, fun x hx => ?_, fun k hk x hx => ?_⟩
        · rcases List.mem_cons.mp hx with z | z
          · omega
          · exact i2 x z
        · rcases List.mem_cons.mp hx with z | z
          · have := hc k hk
            omega
          · exact i3 k hk x z
      · rintro ⟨a, b, d⟩
        have := (okb_iff c l (h - 1) hc').mpr ⟨by omega, fun x hx => b x (List.mem_cons_of_mem _ hx), fun k hk x hx => d k hk x (List.mem_cons_of_mem _ hx)⟩
        unfold okb
        rw [this, Bool.and_true]
        simpa using h0
end Hr
/-! ### first hills, groves -/
namespace Hr
theorem okb_app {r : List Bool} {h : Nat} : ∀ {a : List Bool} {k : Nat}, okb none k a = true → okb none (h + k) (a ++ r) = okb none h r
  | [], k, e => by
    have e0 : k = 0 := by simpa [okb] using e
    rw [e0]
    rfl
  | true :: a, k, e => by
    show (true && okb none (h + k + 1) (a ++ r)) = _
    rw [Bool.true_and]
    exact okb_app (k := k + 1) (okb_up e).2
  | false :: a, k, e => by
    obtain ⟨k0, e1⟩ := okb_down e
    show ((h + k != 0) && okb none (h + k - 1) (a ++ r)) = _
    rw [show (h + k != 0) = true by simp; omega, Bool.true_and, show h + k - 1 = h + (k - 1) by omega]
    exact okb_app e1
/-- a walk down by one: the first down to there parts it -/
theorem okb_part : ∀ (m : Nat) {l : List Bool} {h : Nat}, l.length ≤ m → okb none (h + 1) l = true → ∃ a b, l = a ++ false :: b ∧ okb none 0 a = true ∧ okb none h b = true
  | m, [], h, _, e => by
    have : h + 1 = 0 := by simpa [okb] using e
    omega
  | m, false :: l, h, _, e => ⟨[], l, rfl, rfl, (okb_down e).2⟩
  | 0, true :: l, h, hm, e => absurd hm (by rw [List.length_cons]; omega)
  | m + 1, true :: l, h, hm, e => by
    rw [List.length_cons] at hm
    obtain ⟨a1, b1, e1, o1, p1⟩ := okb_part m (h := h + 1) (by omega) (okb_up e).2
    have h1 : b1.length ≤ m := by
      have := congrArg List.length e1
      rw [List.length_append, List.length_cons] at this
      omega
    obtain ⟨a2, b2, e2, o2, p2⟩ := okb_part m h1 p1
    refine ⟨true :: (a1 ++ false :: a2), b2, by rw [e1, e2, List.cons_append, List.append_assoc, List.cons_append], ?_, p2⟩
    show (true && okb none (0 + 1) (a1 ++ false :: a2)) = true
    rw [Bool.true_and]
    have := okb_app (r := false :: a2) (h := 1) o1
    rw [Nat.add_zero] at this
    rw [Nat.zero_add, this]
    show ((1 != 0) && okb none (1 - 1) a2) = true
    rw [Nat.sub_self, o2]
    rfl
theorem hill_part {l : List Bool} (e : okb none 0 (true :: l) = true) : ∃ a b, l = a ++ false :: b ∧ okb none 0 a = true ∧ okb none 0 b = true := okb_part l.length (Nat.le_refl _) (okb_up e).2
theorem hill_put {a b : List Bool} (ha : okb none 0 a = true) (hb : okb none 0 b = true) : okb none 0 (true :: (a ++ false :: b)) = true := by
  show (true && okb none (0 + 1) (a ++ false :: b)) = true
  have := okb_app (r := false :: b) (h := 1) ha
  rw [Nat.add_zero] at this
  rw [Bool.true_and, Nat.zero_add, this]
  show ((1 != 0) && okb none (1 - 1) b) = true
  rw [Nat.sub_self, hb]
  rfl
theorem hill_app {a b : List Bool} (ha : okb none 0 a = true) (hb : okb none 0 b = true) : okb none 0 (a ++ b) = true := by
  have := okb_app (r := b) (h := 0) ha
  rw [Nat.add_zero] at this
  rw [this]
  exact hb
/-- no hill row stands ahead of its own first down below -/
theorem part_one : ∀ {a a' b b' : List Bool} {h : Nat}, okb none h a = true → okb none h a' = true → a ++ false :: b = a' ++ false :: b' → a = a' ∧ b = b'
  | [], [], b, b', h, _, _, e => ⟨rfl, (List.cons.inj e).2⟩
  | [], x :: a', b, b', h, e1, e2, e => by
    have hx : x = false := (List.cons.inj e).1.symm
    have h0 : h = 0 := by simpa [okb] using e1
    rw [hx, h0] at e2
    exact absurd rfl (okb_down e2).1
  | x :: a, [], b, b', h, e1, e2, e => by
    have hx : x = false := (List.cons.inj e).1
    have h0 : h = 0 := by simpa [okb] using e2
    rw [hx, h0] at e1
    exact absurd rfl (okb_down e1).1
  | x :: a, y :: a', b, b', h, e1, e2, e => by
    obtain ⟨hx, he⟩ := List.cons.inj e
    subst hx
    cases x with
    | true =>
      obtain ⟨p, q⟩ := part_one (okb_up e1).2 (okb_up e2).2 he
      exact ⟨by rw [p], q⟩
    | false =>
      obtain ⟨p, q⟩ := part_one (okb_down e1).2 (okb_down e2).2 he
      exact ⟨by rw [p], q⟩
/-- a grove: none, or a tree (what hangs on it) and the trees behind it -/
inductive Gv where
  | no : Gv
  | tree : Gv → Gv → Gv
/-- its row -/
def Gv.row : Gv → List Bool
  | .no => []
  | .tree a b => true :: (a.row ++ false :: b.row)
/-- how deep it is -/
def Gv.deep : Gv → Nat
  | .no => 0
  | .tree a b => max (a.deep + 1) b.deep
/-- its trees -/
def Gv.trees : Gv → List Gv
  | .no => []
  | .tree a b => a :: b.trees
def Gv.of : List Gv → Gv
  | [] => .no
  | a :: r => .tree a (.of r)
theorem Gv.of_trees : ∀ g : Gv, Gv.of g.trees = g
  | .no => rfl
  | .tree a b => by
    show Gv.tree a (Gv.of b.trees) = _
    rw [of_trees b]
theorem Gv.trees_of : ∀ l : List Gv, (Gv.of l).trees = l
  | [] => rfl
  | a :: r => by
    show a :: (Gv.of r).trees = _
    rw [trees_of r]
def Gv.app : Gv → Gv → Gv
  | .no, g => g
  | .tree a b, g => .tree a (b.app g)
theorem Gv.trees_app : ∀ f g : Gv, (f.app g).trees = f.trees ++ g.trees
  | .no, _ => rfl
  | .tree a b, g => congrArg (a :: ·) (trees_app b g)
theorem Gv.row_app : ∀ f g : Gv, (f.app g).row = f.row ++ g.row
  | .no, _ => rfl
  | .tree a b, g => by
    show true :: (a.row ++ false :: (b.app g).row) = true :: (a.row ++ false :: b.row) ++ g.row
    rw [row_app b g, List.cons_append, List.append_assoc, List.cons_append]
theorem Gv.row_hill : ∀ g : Gv, okb none 0 g.row = true
  | .no => rfl
  | .tree a b => hill_put a.row_hill b.row_hill
theorem Gv.row_inj : ∀ {f g : Gv}, f.row = g.row → f = g
  | .no, .no, _ => rfl
  | .no, .tree _ _, e => by cases e
  | .tree _ _, .no, e => by cases e
  | .tree a b, .tree c d, e => by
    obtain ⟨p, q⟩ := part_one a.row_hill c.row_hill (List.cons.inj e).2
    rw [row_inj p, row_inj q]
theorem grove_of : ∀ (m : Nat) {l : List Bool}, l.length ≤ m → okb none 0 l = true → ∃ g : Gv, g.row = l
  | _, [], _, _ => ⟨.no, rfl⟩
  | _, false :: l, _, e => absurd rfl (okb_down e).1
  | 0, true :: l, hm, _ => absurd hm (by rw [List.length_cons]; omega)
  | m + 1, true :: l, hm, e => by
    obtain ⟨a, b, rfl, ha, hb⟩ := hill_part e
    rw [List.length_cons, List.length_append, List.length_cons] at hm
    obtain ⟨f, rfl⟩ := grove_of m (by omega) ha
    obtain ⟨g, rfl⟩ := grove_of m (by omega) hb
    exact ⟨.tree f g, rfl⟩
/-- every hill row is the row of just one grove -/
theorem grove_row {l : List Bool} (e : okb none 0 l = true) : ∃ g : Gv, g.row = l := grove_of l.length (Nat.le_refl _) e
theorem Gv.deep_le : ∀ g : Gv, 2 * g.deep ≤ g.row.length
  | .no => Nat.le_refl _
  | .tree a b => by
    have h1 := deep_le a
    have h2 := deep_le b
    show 2 * max (a.deep + 1) b.deep ≤ (true :: (a.row ++ false :: b.row)).length
    rw [List.length_cons, List.length_append, List.length_cons]
    omega
/-! ### turnings -/
/-- the law's walk: below 0 but at the end nowhere -/
def stayB : Int → List Bool → Bool
  | _, [] => false
  | h, b :: l => if h + sg b < 0 then l.isEmpty else stayB (h + sg b) l
theorem stayB_iff : ∀ (l : List Bool) (h : Int), stayB h l = true ↔ (l ≠ [] ∧ h + (l.map sg).sum < 0 ∧ ∀ i, 0 < i → i < l.length → 0 ≤ h + ((l.take i).map sg).sum)
  | [], h => ⟨fun e => (nomatch (show false = true from e)), fun e => absurd rfl e.1⟩
  | b :: l, h => by
    have ih := stayB_iff l (h + sg b)
    show (if h + sg b < 0 then l.isEmpty else stayB (h + sg b) l) = true ↔ _
    by_cases hn : h + sg b < 0
    · rw [if_pos hn]
      constructor
      · intro e
        have e : l = [] := by simpa using e
        subst e
        refine ⟨List.cons_ne_nil _ _, ?_, fun i h0 h1 => ?_⟩
        · show h + (sg b + 0) < 0
          omega
        · have h1 : i < 1 := h1
          omega
      · rintro ⟨_, _, h3⟩
        cases l with
        | nil => rfl
        | cons c l =>
          have := h3 1 (by omega) (by rw [List.length_cons, List.length_cons]; omega)
          have : 0 ≤ h + (sg b + 0) := this
          omega
    · rw [if_neg hn, ih]
      constructor
      · rintro ⟨_, h2, h3⟩
        refine ⟨List.cons_ne_nil _ _, ?_, fun i h0 h1 => ?_⟩
        · rw [List.map_cons, List.sum_cons]
          omega
        · obtain ⟨j, rfl⟩ : ∃ j, i = j + 1 := ⟨i - 1, by omega⟩
          rw [List.take_succ_cons, List.map_cons, List.sum_cons]
          rw [List.length_cons] at h1
          by_cases hj : j = 0
          · subst hj
            show 0 ≤ h + (sg b + 0)
            omega
          · have := h3 j (by omega) (by omega)
            omega
      · rintro ⟨_, h2, h3⟩
        rw [List.map_cons, List.sum_cons] at h2
        refine ⟨fun z => ?_, by omega, fun i h0 h1 => ?_⟩
        · subst z
          have h2 : h + (sg b + 0) < 0 := h2
          omega
        · have := h3 (i + 1) (by omega) (by rw [List.length_cons]; omega)
          rw [List.take_succ_cons, List.map_cons, List.sum_cons] at this
          omega
/-- the height at the place i -/
def hgt (l : List Bool) (i : Nat) : Int := ((l.take i).map sg).sum
def turned (l : List Bool) (k : Nat) : List Bool := l.drop k ++ l.take k
/-- the place k is the first lowest one -/
def Lowest (l : List Bool) (k : Nat) : Prop := (∀ i, i < k → hgt l k < hgt l i) ∧ ∀ i, k ≤ i → i ≤ l.length → hgt l k ≤ hgt l i
theorem hgt_drop (l : List Bool) (k j : Nat) : ((((l.drop k).take j)).map sg).sum = hgt l (k + j) - hgt l k := by
  unfold hgt
  rw [List.take_add, List.map_append, List.sum_append]
  omega
theorem hgt_len (l : List Bool) : hgt l l.length = (l.map sg).sum := by
  unfold hgt
  rw [List.take_length]
theorem hgt_drop_all (l : List Bool) {k : Nat} (hk : k ≤ l.length) : ((l.drop k).map sg).sum = hgt l l.length - hgt l k := by
  have := hgt_drop l k (l.length - k)
  rw [show k + (l.length - k) = l.length by omega, List.take_of_length_le (by rw [List.length_drop]; omega)] at this
  exact this
/-- a turning stays up just where it begins behind the first lowest place -/
theorem turned_iff {l : List Bool} (hs : (l.map sg).sum = -1) {k : Nat} (h0 : 0 < k) (hk : k ≤ l.length) : stayB 0 (turned l k) = true ↔ Lowest l k := by
  have hlen : (turned l k).length = l.length := by
    unfold turned
    rw [List.length_append, List.length_drop, List.length_take]
    omega
  have hsum : ((turned l k).map sg).sum = -1 := by
    unfold turned
    rw [List.map_append, List.sum_append, hgt_drop_all l hk, hgt_len, hs]
    show -1 - hgt l k + hgt l k = -1
    omega
  have hat : ∀ j, j ≤ l.length → (((turned l k).take j).map sg).sum = if j ≤ l.length - k then hgt l (k + j) - hgt l k else -1 - hgt l k + hgt l (j - (l.length - k)) := by
    intro j hj
    unfold turned
    rw [List.take_append, List.map_append, List.sum_append, List.length_drop]
    by_cases hc : j ≤ l.length - k
    · rw [if_pos hc, hgt_drop, show j - (l.length - k) = 0 by omega, List.take_zero]
      show _ + 0 = _
      omega
    · rw [if_neg hc, List.take_of_length_le (by rw [List.length_drop]; omega), hgt_drop_all l hk, hgt_len, hs, List.take_take, show min (j - (l.length - k)) k = j - (l.length - k) by omega]
      rfl
  rw [stayB_iff]
  constructor
  · rintro ⟨_, _, h3⟩
    refine ⟨fun i hi => ?_, fun i h1 h2 => ?_⟩
    · by_cases hi0 : i = 0 ∧ k = l.length
      · rw [hi0.1, hi0.2, hgt_len, hs]
        show -1 < (0 : Int)
        decide
      · have := h3 (l.length - k + i) (by omega) (by rw [hlen]; omega)
        rw [hat _ (by omega)] at this
        by_cases hi1 : i = 0
        · subst hi1
          rw [if_pos (by omega), show k + (l.length - k + 0) = l.length by omega, hgt_len, hs] at this
          show hgt l k < 0
          omega
        · rw [if_neg (by omega), show l.length - k + i - (l.length - k) = i by omega] at this
          omega
    · by_cases hki : i = k
      · rw [hki]
        exact Int.le_refl _
      · have := h3 (i - k) (by omega) (by rw [hlen]; omega)
        rw [hat _ (by omega), if_pos (by omega), show k + (i - k) = i by omega] at this
        omega
  · rintro ⟨h1, h2⟩
    refine ⟨fun z => ?_, by rw [hsum]; decide, fun i hi0 hi1 => ?_⟩
    · rw [z] at hlen
      have : l.length = 0 := hlen.symm
      omega
    · rw [hlen] at hi1
      rw [hat _ (by omega)]
      by_cases hc : i ≤ l.length - k
      · rw [if_pos hc]
        have := h2 (k + i) (by omega) (by omega)
        omega
      · rw [if_neg hc]
        have := h1 (i - (l.length - k)) (by omega)
        omega
theorem lowest_one {l : List Bool} {k k' : Nat} (hk : k ≤ l.length) (hk' : k' ≤ l.length) (h : Lowest l k) (h' : Lowest l k') : k = k' := by
  rcases Nat.lt_trichotomy k k' with z | z | z
  · have h1 := h'.1 k z
    have h2 := h.2 k' (by omega) hk'
    omega
  · exact z
  · have h1 := h.1 k' z
    have h2 := h'.2 k (by omega) hk
    omega
theorem turned_zero (l : List Bool) : turned l 0 = l := by
  unfold turned
  rw [List.drop_zero, List.take_zero, List.append_nil]
theorem turned_len (l : List Bool) : turned l l.length = l := by
  unfold turned
  rw [List.drop_length, List.take_length, List.nil_append]
/-- the first place of the lowest height there is -/
theorem lowest_is {l : List Bool} (hs : (l.map sg).sum = -1) : ∃ k, 0 < k ∧ k ≤ l.length ∧ Lowest l k := by
  have step : ∀ m, m ≤ l.length → ∃ k, k ≤ m ∧ (∀ i, i < k → hgt l k < hgt l i) ∧ ∀ i, k ≤ i → i ≤ m → hgt l k ≤ hgt l i := by
    intro m
    induction m with
    | zero =>
      intro _
      refine ⟨0, Nat.le_refl _, fun i hi => absurd hi (by omega), fun i h1 h2 => ?_⟩
      rw [show i = 0 by omega]
      exact Int.le_refl _
    | succ m ih =>
      intro hm
      obtain ⟨k, hk, h1, h2⟩ := ih (by omega)
      by_cases hc : hgt l (m + 1) < hgt l k
      · refine ⟨m + 1, Nat.le_refl _, fun i hi => ?_, fun i h3 h4 => ?_⟩
        · by_cases hik : i < k
          · have := h1 i hik
            omega
          · have := h2 i (by omega) (by omega)
            omega
        · rw [show i = m + 1 by omega]
          exact Int.le_refl _
      · refine ⟨k, by omega, h1, fun i h3 h4 => ?_⟩
        by_cases hi : i = m + 1
        · rw [hi]
          omega
        · exact h2 i h3 (by omega)
  obtain ⟨k, hk, h1, h2⟩ := step l.length (Nat.le_refl _)
  refine ⟨k, ?_, hk, h1, h2⟩
  by_cases h0 : k = 0
  · have := h2 l.length (by omega) (Nat.le_refl _)
    rw [h0, hgt_len, hs] at this
    have : (0 : Int) ≤ -1 := this
    omega
  · omega
/-- of the turnings by k below the length just one stays up -/
theorem turned_one {l : List Bool} (hs : (l.map sg).sum = -1) : ∃ k, k < l.length ∧ ∀ j, j < l.length → (stayB 0 (turned l j) = true ↔ j = k) := by
  obtain ⟨k, h0, hk, hL⟩ := lowest_is hs
  have key : ∀ j, 0 < j → j ≤ l.length → (stayB 0 (turned l j) = true ↔ j = k) := fun j j0 jl => by
    rw [turned_iff hs j0 jl]
    exact ⟨fun z => lowest_one jl hk z hL, fun z => z ▸ hL⟩
  have hlast : stayB 0 (turned l 0) = stayB 0 (turned l l.length) := by rw [turned_zero, turned_len]
  by_cases hkl : k = l.length
  · refine ⟨0, by omega, fun j jl => ?_⟩
    by_cases j0 : j = 0
    · subst j0
      rw [hlast, key l.length (by omega) (Nat.le_refl _)]
      exact ⟨fun _ => rfl, fun _ => hkl.symm⟩
    · rw [key j (by omega) (by omega)]
      omega
  · refine ⟨k, by omega, fun j jl => ?_⟩
    by_cases j0 : j = 0
    · subst j0
      rw [hlast, key l.length (by omega) (Nat.le_refl _)]
      omega
    · exact key j (by omega) (by omega)
end Hr
/-! ### the hills of a row, by the places of height 0 -/
namespace Hr
def hillsOf : Gv → List (List Bool)
  | .no => []
  | .tree a b => (true :: (a.row ++ [false])) :: hillsOf b
theorem hills_flat : ∀ g : Gv, (hillsOf g).flatten = g.row
  | .no => rfl
  | .tree a b => by
    show (true :: (a.row ++ [false])) ++ (hillsOf b).flatten = true :: (a.row ++ false :: b.row)
    rw [hills_flat b, List.cons_append, List.append_assoc]
    rfl
theorem hills_ok : ∀ (g : Gv) (x : List Bool), x ∈ hillsOf g → okb none 0 x = true
  | .no, x, h => by cases h
  | .tree a b, x, h => by
    rcases List.mem_cons.mp h with rfl | h
    · exact hill_put a.row_hill (b := []) rfl
    · exact hills_ok b x h
theorem hills_ne : ∀ (g : Gv), g.row ≠ [] → hillsOf g ≠ []
  | .no, h => absurd rfl h
  | .tree _ _, _ => List.cons_ne_nil _ _
theorem hills_len : ∀ (g : Gv), 2 * (hillsOf g).length ≤ g.row.length
  | .no => Nat.le_refl _
  | .tree a b => by
    have := hills_len b
    show 2 * ((hillsOf b).length + 1) ≤ (true :: (a.row ++ false :: b.row)).length
    rw [List.length_cons, List.length_append, List.length_cons]
    omega
theorem hts_get : ∀ (l : List Bool) (h : Int) (i : Nat), i ≤ l.length → (hts h l)[i]? = some (h + hgt l i)
  | [], h, i, hi => by
    have : i = 0 := by
      have : i ≤ 0 := hi
      omega
    subst this
    show some h = some (h + 0)
    rw [Int.add_zero]
  | b :: l, h, 0, _ => by
    show some h = some (h + 0)
    rw [Int.add_zero]
  | b :: l, h, i + 1, hi => by
    rw [List.length_cons] at hi
    have := hts_get l (h + sg b) i (by omega)
    show (hts (h + sg b) l)[i]? = _
    rw [this]
    unfold hgt
    rw [List.take_succ_cons, List.map_cons, List.sum_cons, ← Int.add_assoc]
/-- the places of height 0 up to n -/
def zerosTo (l : List Bool) (n : Nat) : List Nat := (List.range (n + 1)).filter fun i => decide (hgt l i = 0)
def zeros (l : List Bool) : List Nat := zerosTo l l.length
theorem zerosTo_zero (l : List Bool) : zerosTo l 0 = [0] := by
  unfold zerosTo
  show [0].filter _ = _
  rw [List.filter_cons_of_pos (by simp [hgt])]
  rfl
theorem zerosTo_succ (l : List Bool) (n : Nat) : zerosTo l (n + 1) = zerosTo l n ++ (if hgt l (n + 1) = 0 then [n + 1] else []) := by
  unfold zerosTo
  rw [List.range_succ (n := n + 1), List.filter_append]
  congr 1
  by_cases h : hgt l (n + 1) = 0
  · rw [if_pos h, List.filter_cons_of_pos (by simpa using h)]
    rfl
  · rw [if_neg h, List.filter_cons_of_neg (by simpa using h)]
    rfl
theorem zerosTo_le {l : List Bool} {n i : Nat} (h : i ∈ zerosTo l n) : i ≤ n := by
  unfold zerosTo at h
  have := List.mem_range.mp (List.mem_filter.mp h).1
  omega
def segs (l : List Bool) : List Nat → List (List Bool)
  | a :: b :: r => (l.drop a).take (b - a) :: segs l (b :: r)
  | [_] => []
  | [] => []
theorem segs_snoc (l : List Bool) (b e : Nat) : ∀ pre : List Nat, segs l (pre ++ [b, e]) = segs l (pre ++ [b]) ++ [(l.drop b).take (e - b)]
  | [] => rfl
  | [x] => rfl
  | x :: y :: pre => by
    have ih := segs_snoc l b e (y :: pre)
    show (l.drop x).take (y - x) :: segs l ((y :: pre) ++ [b, e]) = (l.drop x).take (y - x) :: segs l ((y :: pre) ++ [b]) ++ _
    rw [ih]
    rfl
theorem segs_len (l : List Bool) : ∀ zs : List Nat, (segs l zs).length = zs.length - 1
  | [] => rfl
  | [_] => rfl
  | x :: y :: r => by
    have ih := segs_len l (y :: r)
    show (segs l (y :: r)).length + 1 = _
    rw [ih]
    rfl
theorem segs_get (l : List Bool) : ∀ (zs : List Nat) (i a b : Nat), zs[i]? = some a → zs[i + 1]? = some b → (segs l zs)[i]? = some ((l.drop a).take (b - a))
  | [], i, a, b, h, _ => by cases h
  | [_], i, a, b, _, h => by cases h
  | x :: y :: r, 0, a, b, h1, h2 => by
    cases h1
    cases h2
    rfl
  | x :: y :: r, i + 1, a, b, h1, h2 => segs_get l (y :: r) i a b h1 h2
theorem segs_shift (p l : List Bool) : ∀ zs : List Nat, segs (p ++ l) (zs.map (p.length + ·)) = segs l zs
  | [] => rfl
  | [_] => rfl
  | x :: y :: r => by
    have ih := segs_shift p l (y :: r)
    show ((p ++ l).drop (p.length + x)).take (p.length + y - (p.length + x)) :: segs (p ++ l) ((y :: r).map (p.length + ·)) = _
    rw [ih, List.drop_length_add_append, Nat.add_sub_add_left]
    rfl
theorem hgt_app (p l : List Bool) (j : Nat) : hgt (p ++ l) (p.length + j) = hgt p p.length + hgt l j := by
  unfold hgt
  rw [List.take_length_add_append, List.map_append, List.sum_append, List.take_length]
theorem hgt_nonneg {l : List Bool} (h : okb none 0 l = true) {i : Nat} : 0 ≤ hgt l i := by
  have key : ∀ (l : List Bool) (k : Nat) (i : Nat), okb none k l = true → 0 ≤ (k : Int) + ((l.take i).map sg).sum := by
    intro l
    induction l with
    | nil =>
      intro k i e
      rw [List.take_nil]
      show 0 ≤ (k : Int) + 0
      omega
    | cons b l ih =>
      intro k i e
      cases i with
      | zero =>
        show 0 ≤ (k : Int) + 0
        omega
      | succ i =>
        rw [List.take_succ_cons, List.map_cons, List.sum_cons]
        cases b with
        | true =>
          have := ih (k + 1) i (okb_up e).2
          have e1 : sg true = 1 := rfl
          omega
        | false =>
          obtain ⟨k0, e⟩ := okb_down e
          have := ih (k - 1) i e
          have e1 : sg false = -1 := rfl
          omega
  have := key l 0 i h
  unfold hgt
  omega
theorem okb_sum {l : List Bool} (h : okb none 0 l = true) : (l.map sg).sum = 0 := by
  have := ((okb_iff none l 0 (fun k z => by cases z)).mp h).1
  omega
theorem hgt_all {l : List Bool} (h : okb none 0 l = true) : hgt l l.length = 0 := (hgt_len l).trans (okb_sum h)
theorem zeros_tree (a b : Gv) : zeros (Gv.tree a b).row = 0 :: (zeros b.row).map ((true :: (a.row ++ [false])).length + ·) := by
  have e0 : (Gv.tree a b).row = (true :: (a.row ++ [false])) ++ b.row := by
    show true :: (a.row ++ false :: b.row) = _
    rw [List.cons_append, List.append_assoc]
    rfl
  have hm : hgt (true :: (a.row ++ [false])) (true :: (a.row ++ [false])).length = 0 := hgt_all (hill_put a.row_hill (b := []) rfl)
  unfold zeros zerosTo
  have el : (Gv.tree a b).row.length + 1 = (true :: (a.row ++ [false])).length + (b.row.length + 1) := by
    rw [e0, List.length_append]
    omega
  rw [el, List.range_add, List.filter_append, List.filter_map]
  have p1 : (List.range (true :: (a.row ++ [false])).length).filter (fun i => decide (hgt (Gv.tree a b).row i = 0)) = [0] := by
    have em : (true :: (a.row ++ [false])).length = (a.row.length + 1) + 1 := by simp
    rw [em, List.range_succ_eq_map, List.filter_cons_of_pos (by simp [hgt]), List.filter_map]
    have : (List.range (a.row.length + 1)).filter ((fun i => decide (hgt (Gv.tree a b).row i = 0)) ∘ Nat.succ) = [] := by
      rw [List.filter_eq_nil_iff]
      intro i hi
      have hi := List.mem_range.mp hi
      have e2 : hgt (Gv.tree a b).row (i + 1) = 1 + hgt a.row i := by
        show (((true :: (a.row ++ false :: b.row)).take (i + 1)).map sg).sum = _
        rw [List.take_succ_cons, List.map_cons, List.sum_cons, List.take_append_of_le_length (by omega)]
        rfl
      have := hgt_nonneg a.row_hill (i := i)
      show ¬ (decide (hgt (Gv.tree a b).row (i + 1) = 0)) = true
      rw [e2]
      simp
      omega
    rw [this]
    rfl
  have p2 : (List.range (b.row.length + 1)).filter ((fun i => decide (hgt (Gv.tree a b).row i = 0)) ∘ ((true :: (a.row ++ [false])).length + ·)) = (List.range (b.row.length + 1)).filter (fun i => decide (hgt b.row i = 0)) := by
    refine List.filter_congr fun i _ => ?_
    show decide (hgt (Gv.tree a b).row ((true :: (a.row ++ [false])).length + i) = 0) = _
    rw [e0, hgt_app, hm, Int.zero_add]
  rw [p1, p2]
  rfl
theorem zeros_head : ∀ g : Gv, ∃ r, zeros g.row = 0 :: r
  | .no => ⟨[], rfl⟩
  | .tree a b => ⟨_, zeros_tree a b⟩
theorem segs_zeros : ∀ g : Gv, segs g.row (zeros g.row) = hillsOf g
  | .no => rfl
  | .tree a b => by
    obtain ⟨r, hr⟩ := zeros_head b
    have e0 : (Gv.tree a b).row = (true :: (a.row ++ [false])) ++ b.row := by
      show true :: (a.row ++ false :: b.row) = _
      rw [List.cons_append, List.append_assoc]
      rfl
    have ih := segs_zeros b
    rw [zeros_tree, hr, List.map_cons]
    show (((Gv.tree a b).row.drop 0).take ((true :: (a.row ++ [false])).length + 0 - 0)) :: segs (Gv.tree a b).row ((0 :: r).map ((true :: (a.row ++ [false])).length + ·)) = _
    rw [← hr, e0, segs_shift, ih, List.drop_zero, Nat.sub_zero, Nat.add_zero, List.take_left']
    · rfl
    · rfl
end Hr
namespace Hr
/-- a hill row of n ups under the ceiling c -/
def Hill (c : Option Nat) (n : Nat) (l : List Bool) : Prop := okb c 0 l = true ∧ l.length = 2 * n
end Hr
/-! ### defs of the text, by what they promise -/
namespace Hr
open PySem PySem.Spec PyProof.Rows L2
theorem same_upd {H : Hp} {p : Addr} {o : HO} (h : H p = none) : Same H (upd H p o) := fun b x e => by
  rw [upd_ne (ne_of_none e h)]
  exact e
/-- what was new may change -/
theorem same_updN {H0 H : Hp} {p : Addr} {o : HO} (s : Same H0 H) (n : H0 p = none) : Same H0 (upd H p o) := fun b x e => by
  rw [upd_ne (ne_of_none e n)]
  exact s b x e
theorem sz {n : Nat} (h : n ≤ 1000000) : n ≤ sizeLine := Nat.le_trans h (by decide)
theorem szl {n : Nat} (h : n < 1000000) : n < sizeLine := Nat.lt_of_lt_of_le h (by decide)
section
variable (K : PySem.W.Frag) (mg : Str → Option Value)
structure Def (x : Str) (st : Stmt) (ps : List Str) : Prop where
  ex : ∃ (f : Addr) (fd : FuncData), Fun K x x st f fd ∧ mg x = some (.ref f) ∧ Binds K fd ps []
/-- a def whose last parameter is None where it is left out -/
structure DefD (x : Str) (st : Stmt) (ps : List Str) : Prop where
  ex : ∃ (f : Addr) (fd : FuncData), FunD K x x (defArgs st) (defBody st) (defScope st) [V.non] [] f fd ∧ mg x = some (.ref f) ∧ Binds K fd ps [] ∧ ∃ ds, Vals [V.non] ds ∧ Binds K fd ps ds
/-- a def whose last parameter is dv where it is left out -/
structure DefV (x : Str) (st : Stmt) (ps : List Str) (dv : V) : Prop where
  ex : ∃ (f : Addr) (fd : FuncData), FunD K x x (defArgs st) (defBody st) (defScope st) [dv] [] f fd ∧ mg x = some (.ref f) ∧ Binds K fd ps [] ∧ ∃ ds, Vals [dv] ds ∧ Binds K fd ps ds
structure Cal (CX : CXT) (P : Program) (w : World) (base : Heap) (k : Nat) (x : Str) (dvs : List V) (sp : Sp) : Prop where
  ex : ∃ (f : Addr) (fd : FuncData) (ps : List Str) (ds : List Value), FnOk P w K mg base CX k f fd ps sp ∧ mg x = some (.ref f) ∧ PySem.W.keepIn K (.ref f) = true ∧ Binds K fd ps ds ∧ Vals dvs ds
end
section
variable {P : Program} {w : World} {K : PySem.W.Frag} {mg : Str → Option Value} {base : Heap}
theorem Def.cal {x : Str} {st : Stmt} {N ps : List Str} {k : Nat} {sp : Sp} (D : Def K mg x st ps) (S : FnScope N ps (defScope st)) (len : ∀ vs H Q E, sp vs H Q E → vs.length = ps.length)
    (hbody : ∀ (f : Addr) (cdv : Value) (A : Around) (outer : List Env) (s : Shared) (H : Hp) (vs : List V) (Q : VK) (E : XK), Room k (A.deeper (envOfC x (defScope st) s.heap.objs.size f cdv)) → sp vs H Q E →
      ∃ t, PSs (cxOf CX0 P w K mg base N x (defScope st) f cdv A outer s H E).nox (defBody st) t ∧ t { nx := fun _ H' => Q .non H', rt := Q } (start N vs) H) : Cal K mg CX0 P w base (k + 1) x [] sp := by
  obtain ⟨f, fd, F, hm, b⟩ := D.ex
  exact ⟨f, fd, ps, [], F.ok S len (hbody f), hm, F.kp, b, .nil⟩
theorem DefD.ok {x : Str} {st : Stmt} {N ps : List Str} {k : Nat} {sp : Sp} (D : DefD K mg x st ps) (S : FnScope N ps (defScope st)) (len : ∀ vs H Q E, sp vs H Q E → vs.length = ps.length)
    (hbody : ∀ (f : Addr) (cdv : Value) (A : Around) (outer : List Env) (s : Shared) (H : Hp) (vs : List V) (Q : VK) (E : XK), Room k (A.deeper (envOfC x (defScope st) s.heap.objs.size f cdv)) → sp vs H Q E →
      ∃ t, PSs (cxOf CX0 P w K mg base N x (defScope st) f cdv A outer s H E).nox (defBody st) t ∧ t { nx := fun _ H' => Q .non H', rt := Q } (start N vs) H) :
    Cal K mg CX0 P w base (k + 1) x [] sp ∧ Cal K mg CX0 P w base (k + 1) x [.non] sp := by
  obtain ⟨f, fd, F, hm, b, ds, vd, b2⟩ := D.ex
  have G : FnOk P w K mg base CX0 (k + 1) f fd ps sp := F.ok S len fun cdv A outer s H vs Q E hr hsp => by
    obtain ⟨t, h, q⟩ := hbody f cdv A outer s H vs Q E hr hsp
    exact ⟨t, h.nox, q⟩
  exact ⟨⟨f, fd, ps, [], G, hm, F.kp, b, .nil⟩, ⟨f, fd, ps, ds, G, hm, F.kp, b2, vd⟩⟩
theorem DefV.ok {x : Str} {st : Stmt} {N ps : List Str} {dv : V} {k : Nat} {sp : Sp} (D : DefV K mg x st ps dv) (S : FnScope N ps (defScope st)) (len : ∀ vs H Q E, sp vs H Q E → vs.length = ps.length)
    (hbody : ∀ (f : Addr) (cdv : Value) (A : Around) (outer : List Env) (s : Shared) (H : Hp) (vs : List V) (Q : VK) (E : XK), Room k (A.deeper (envOfC x (defScope st) s.heap.objs.size f cdv)) → sp vs H Q E →
      ∃ t, PSs (cxOf CX0 P w K mg base N x (defScope st) f cdv A outer s H E).nox (defBody st) t ∧ t { nx := fun _ H' => Q .non H', rt := Q } (start N vs) H) :
    Cal K mg CX0 P w base (k + 1) x [] sp ∧ Cal K mg CX0 P w base (k + 1) x [dv] sp := by
  obtain ⟨f, fd, F, hm, b, ds, vd, b2⟩ := D.ex
  have G : FnOk P w K mg base CX0 (k + 1) f fd ps sp := F.ok S len fun cdv A outer s H vs Q E hr hsp => by
    obtain ⟨t, h, q⟩ := hbody f cdv A outer s H vs Q E hr hsp
    exact ⟨t, h.nox, q⟩
  exact ⟨⟨f, fd, ps, [], G, hm, F.kp, b, .nil⟩, ⟨f, fd, ps, ds, G, hm, F.kp, b2, vd⟩⟩
/-- a weaker promise -/
theorem Cal.imp {CX : CXT} {x : Str} {dvs : List V} {k : Nat} {sp sp' : Sp} (C : Cal K mg CX P w base k x dvs sp) (h : ∀ vs H Q E, sp' vs H Q E → sp vs H Q E) : Cal K mg CX P w base k x dvs sp' := by
  obtain ⟨f, fd, ps, ds, G, hm, kp, b, d⟩ := C.ex
  exact ⟨f, fd, ps, ds, G.imp h, hm, kp, b, d⟩
end
section
variable {X : Cx}
theorem pe_c {k j : Nat} {x : Str} {dvs : List V} {sp : Sp} {e : Expr} {es : List Expr} {t : TA} {p pos : Pos} (c : Cal X.K X.mg CX0 X.prog X.w X.base k x dvs sp) (hr : Room j X.A) (ha : PA X (e :: es) t) (hk : k ≤ j := by decide) (hg : Gl X x := by rfl)
    (hdb : (x == ("__debug__" : Str)) = false := by decide) (he : starEach (e :: es) X.env = (false, eval e X.env) :: starEach es X.env := by rfl) (hpl : (backTo pos (starEach es X.env)).any (·.1) = false := by rfl) :
    PE X (.Call (.Name x p) (e :: es) [] pos) (tCall sp dvs E0 t) := by
  obtain ⟨f, fd, ps, ds, F, hm, kp, b, d⟩ := c.ex
  exact pe_call F (hr.mono hk) hg hm kp b d pass0 ha hdb he hpl
end
/-- from what the top has left -/
theorem def_mk {K : PySem.W.Frag} {mg : Str → Option Value} {h : Heap} {x : Str} {st : Stmt} {ps : List Str} {f : Addr} {oc : Value} {od an : Option Addr} {osl : Array (Option Value)} {kV doc pm cdv ct : Value} (X : K.In h) (G : h.Ns mainGlobals mg)
    (hb : ∀ (kV doc pm : Value) (an : Option Addr) (cdv ct : Value) (us : List Value), us.length = ps.length → bindArgs (PySem.W.fnOf x x (defArgs st) (defBody st) (defScope st) .none kV doc pm an cdv ct) ⟨us, []⟩ = pure (ps.zip us))
    (a : PySem.W.nsIn K mainGlobals x = some (some (.ref f))) (l : K.lookup f = some ⟨oc, od, .func (PySem.W.fnOf x x (defArgs st) (defBody st) (defScope st) .none kV doc pm an cdv ct), osl⟩)
    (c : PySem.W.codeIn K cdv x = true) (k : PySem.W.keepIn K (.ref f) = true) : Def K mg x st ps :=
  have F := fun_mk (st := st) l c k
  ⟨f, _, F, PySem.W.mg_of X G a, F.binds hb⟩
theorem defD_mk {K : PySem.W.Frag} {mg : Str → Option Value} {h : Heap} {x : Str} {st : Stmt} {ps : List Str} {f T : Addr} {oc tc : Value} {od an td : Option Addr} {osl tsl : Array (Option Value)} {kV doc pm cdv ct : Value} {n m : Nat} (X : K.In h) (G : h.Ns mainGlobals mg)
    (hn : ps.length = m + 1)
    (hb2 : ∀ (T : Addr) (kV doc pm : Value) (an : Option Addr) (cdv ct : Value) (us its : List Value), us.length = m + 1 → its.length = 1 →
      ∃ k, bindArgs (PySem.W.fnOf x x (defArgs st) (defBody st) (defScope st) (.ref T) kV doc pm an cdv ct) ⟨us, []⟩ = seqItems? (.ref T) >>= k ∧ k (some its.toArray) = pure (ps.zip (us ++ its.drop 1)))
    (hb1 : ∀ (T : Addr) (kV doc pm : Value) (an : Option Addr) (cdv ct : Value) (us its : List Value), us.length = m → its.length = 1 →
      ∃ k, bindArgs (PySem.W.fnOf x x (defArgs st) (defBody st) (defScope st) (.ref T) kV doc pm an cdv ct) ⟨us, []⟩ = seqItems? (.ref T) >>= k ∧ k (some its.toArray) = pure (ps.zip (us ++ its.drop 0)))
    (a : PySem.W.nsIn K mainGlobals x = some (some (.ref f))) (l : K.lookup f = some ⟨oc, od, .func (PySem.W.fnOf x x (defArgs st) (defBody st) (defScope st) (.ref T) kV doc pm an cdv ct), osl⟩)
    (c : PySem.W.codeIn K cdv x = true) (k : PySem.W.keepIn K (.ref f) = true) (lT : K.lookup T = some ⟨tc, td, .seq #[.none] n, tsl⟩) : DefD K mg x st ps := by
  have F : FunD K x x (defArgs st) (defBody st) (defScope st) [V.non] [] f (PySem.W.fnOf x x (defArgs st) (defBody st) (defScope st) (.ref T) kV doc pm an cdv ct) :=
    ⟨⟨oc, od, .ref T, kV, doc, pm, an, cdv, ct, osl, rfl, l, c, .inr ⟨List.cons_ne_nil _ _, T, _, [.none], n, rfl, lT, rfl, .cons rfl .nil⟩, .inl rfl⟩, k⟩
  obtain ⟨d2, v2, b2⟩ := F.binds1 (m + 1) 1 (List.cons_ne_nil _ _) (by rw [hn]; rfl) (fun T kV doc pm an cdv ct us its h1 h2 => hb2 T kV doc pm an cdv ct us its h1 h2)
  obtain ⟨d1, v1, b1⟩ := F.binds1 m 0 (List.cons_ne_nil _ _) (by rw [hn]; rfl) (fun T kV doc pm an cdv ct us its h1 h2 => hb1 T kV doc pm an cdv ct us its h1 h2)
  have e2 : d2 = [] := by
    cases v2
    rfl
  subst e2
  exact ⟨f, _, F, PySem.W.mg_of X G a, b2, d1, v1, b1⟩
theorem defV_mk {K : PySem.W.Frag} {mg : Str → Option Value} {h : Heap} {x : Str} {st : Stmt} {ps : List Str} {dv : V} {u : Value} {f T : Addr} {oc tc : Value} {od an td : Option Addr} {osl tsl : Array (Option Value)} {kV doc pm cdv ct : Value} {n m : Nat} (X : K.In h) (G : h.Ns mainGlobals mg)
    (hn : ps.length = m + 1)
    (hb2 : ∀ (T : Addr) (kV doc pm : Value) (an : Option Addr) (cdv ct : Value) (us its : List Value), us.length = m + 1 → its.length = 1 →
      ∃ k, bindArgs (PySem.W.fnOf x x (defArgs st) (defBody st) (defScope st) (.ref T) kV doc pm an cdv ct) ⟨us, []⟩ = seqItems? (.ref T) >>= k ∧ k (some its.toArray) = pure (ps.zip (us ++ its.drop 1)))
    (hb1 : ∀ (T : Addr) (kV doc pm : Value) (an : Option Addr) (cdv ct : Value) (us its : List Value), us.length = m → its.length = 1 →
      ∃ k, bindArgs (PySem.W.fnOf x x (defArgs st) (defBody st) (defScope st) (.ref T) kV doc pm an cdv ct) ⟨us, []⟩ = seqItems? (.ref T) >>= k ∧ k (some its.toArray) = pure (ps.zip (us ++ its.drop 0)))
    (a : PySem.W.nsIn K mainGlobals x = some (some (.ref f))) (l : K.lookup f = some ⟨oc, od, .func (PySem.W.fnOf x x (defArgs st) (defBody st) (defScope st) (.ref T) kV doc pm an cdv ct), osl⟩)
    (c : PySem.W.codeIn K cdv x = true) (k : PySem.W.keepIn K (.ref f) = true) (hu : RelV dv u) (lT : K.lookup T = some ⟨tc, td, .seq #[u] n, tsl⟩) : DefV K mg x st ps dv := by
  have F : FunD K x x (defArgs st) (defBody st) (defScope st) [dv] [] f (PySem.W.fnOf x x (defArgs st) (defBody st) (defScope st) (.ref T) kV doc pm an cdv ct) :=
    ⟨⟨oc, od, .ref T, kV, doc, pm, an, cdv, ct, osl, rfl, l, c, .inr ⟨List.cons_ne_nil _ _, T, _, [u], n, rfl, lT, rfl, .cons hu .nil⟩, .inl rfl⟩, k⟩
  obtain ⟨d2, v2, b2⟩ := F.binds1 (m + 1) 1 (List.cons_ne_nil _ _) (by rw [hn]; rfl) (fun T kV doc pm an cdv ct us its h1 h2 => hb2 T kV doc pm an cdv ct us its h1 h2)
  obtain ⟨d1, v1, b1⟩ := F.binds1 m 0 (List.cons_ne_nil _ _) (by rw [hn]; rfl) (fun T kV doc pm an cdv ct us its h1 h2 => hb1 T kV doc pm an cdv ct us its h1 h2)
  have e2 : d2 = [] := by
    cases v2
    rfl
  subst e2
  exact ⟨f, _, F, PySem.W.mg_of X G a, b2, d1, v1, b1⟩
end Hr
/-! ### the text of this law -/
namespace Hr
open PySem PySem.Spec PyProof.Rows L2
def topS (i : Nat) : Stmt := PySem.Challenge.pw_hillrows_k13_runs.main.body.getD i (.Pass ⟨0, 0, 0, 0⟩)
abbrev sHeights : Stmt := topS 14
abbrev sIsHill : Stmt := topS 15
abbrev sIsRow : Stmt := topS 16
abbrev sChHill : Stmt := topS 17
abbrev s_runs : Stmt := topS 21
abbrev s_equal_signs : Stmt := topS 22
abbrev s_row_of : Stmt := topS 23
abbrev s_check_words : Stmt := topS 24
abbrev s_rise : Stmt := topS 25
abbrev s_is_run : Stmt := topS 26
abbrev s_is_length : Stmt := topS 27
abbrev sMixed : Stmt := topS 29
abbrev sNumber : Stmt := topS 30
abbrev sLRow : Stmt := topS 31
abbrev sWord : Stmt := topS 32
abbrev sTold : Stmt := topS 33
abbrev sRefused : Stmt := topS 34
abbrev sWords : Stmt := topS 35
abbrev sSpoilt : Stmt := topS 36
abbrev sLaw : Stmt := topS 37
end Hr
/-! ### a text walked with its places -/
namespace Hr
open PySem PySem.Spec PyProof.Rows L2
/-- the signs of a text, each in a new pair behind its place -/
def ItEs (x : Str) : It :=
  { go := fun i _ => i < x.cps.size
    yld := fun i H v H' => ∃ T c, v = .ref T ∧ H T = none ∧ H' = upd H T (.tup [.int (i : Nat), .str ⟨#[c]⟩]) ∧ x.cps[i]? = some c
    stop := fun i _ => i = x.cps.size }
theorem two_mem {b e it : Addr} (h : b ∈ [e, it]) : b = e ∨ b = it := by simpa using h
theorem turn_es {P : Program} {w : World} {K : PySem.W.Frag} {elts : List Expr} {kk : Nat} {tpos : Pos} (x : Str) (t : Tok) (e it : Addr) :
    Turn P w K (.Tuple elts kk tpos) (ItEs x) [e, it] e (fun i h => (∃ old, IsEnum h e it ((i : Nat) : Int) old) ∧ h.IsStrIter it (strIterType x) x t i ∧ e ≠ it) := by
  refine { mem := List.mem_cons_self .., obj := ?_, keep := ?_, item := ?_, done := ?_, self := ?_ }
  · rintro i h ⟨⟨old, he⟩, ⟨o, ho, _, hd⟩, _⟩ b hb
    rcases two_mem hb with rfl | rfl
    · exact ⟨_, he, fun v q => (nomatch q)⟩
    · exact ⟨o, ho, fun v q => by rw [hd] at q; exact (nomatch q)⟩
  · rintro i h h' ⟨⟨old, he⟩, ⟨o, ho, r⟩, hne⟩ k
    exact ⟨⟨old, k e (by simp) _ he⟩, ⟨o, k it (by simp) o ho, r⟩, hne⟩
  · rintro X rfl rfl rfl hc i pins s σ H E I hf ⟨⟨old, he⟩, hit, hne⟩ hg
    have le : e < s.heap.objs.size := Heap.lt_size he
    have li : it < s.heap.objs.size := hit.elim fun _ q => Heap.lt_size q.1
    have D : Draws X.prog X.w X.A.in1 it [it] x.cps.size (fun i v => ∃ c u, x.cps[i]? = some c ∧ v = .str ⟨#[c]⟩ u) (fun i h => h.IsStrIter it (strIterType x) x t i) := Draws.text (A := X.A.in1) (show X.A.in1.handled = none from I.ok.hd hc) it x t
    refine wpAny_pyNext_enum_itemD D he hit hg hne (by simpa using hne) fun y h1 tk hy he1 hit1 hT hsz hk => ?_
    obtain ⟨c, u, hcx, rfl⟩ := hy
    refine ⟨_, rfl, wpAny_letOwnedTupleGo_enum (s := { s with heap := h1, toks := tk + 1 }) he1 fun h2 he2 sb => ?_⟩
    have hT2 := (sb.2 _ (Nat.ne_of_gt le)).trans hT
    have ok : ObjOk X.prog X.w (upd H s.heap.objs.size (.tup [.int (i : Nat), .str ⟨#[c]⟩])) h2 s.heap.objs.size (.tup [.int (i : Nat), .str ⟨#[c]⟩]) :=
      ⟨sz (show 2 ≤ 1000000 by decide), [.int i tk, .str ⟨#[c]⟩ u], .cons ⟨_, rfl⟩ (.cons ⟨_, rfl⟩ .nil), ⟨_, hT2, rfl, _, rfl⟩⟩
    have I2 := I.turnedNew (t' := tk + 1) (ch := [e, it]) (fun b ob hb q => (sb.2 b (fun z => hb (by simp [z]))).trans (hk b ob (fun z => hb (by simp [z])) (fun z => hb (by simp [z])) q)) hf (Nat.le_refl _) ok
    refine ⟨.ref s.heap.objs.size, _, I2, rfl, ⟨_, c, rfl, I.hok.fresh (Nat.le_refl _), rfl, hcx⟩, ⟨⟨.str ⟨#[c]⟩ u, ?_⟩, ?_, hne⟩, fun b hb => ?_⟩
    · rw [Int.natCast_add]
      exact he2
    · obtain ⟨o, ho, r⟩ := hit1
      exact ⟨o, (sb.2 it (Ne.symm hne)).trans ho, r⟩
    · have lb : b < s.heap.objs.size := by
        rcases two_mem hb with z | z
        · exact z ▸ le
        · exact z ▸ li
      rw [upd_ne (Nat.ne_of_lt lb)]
      exact (hf b hb).1
  · rintro X rfl rfl rfl hc i pins s σ H E I hf ⟨⟨old, he⟩, hit, hne⟩ hg
    have D : Draws X.prog X.w X.A.in1 it [it] x.cps.size (fun i v => ∃ c u, x.cps[i]? = some c ∧ v = .str ⟨#[c]⟩ u) (fun i h => h.IsStrIter it (strIterType x) x t i) := Draws.text (A := X.A.in1) (show X.A.in1.handled = none from I.ok.hd hc) it x t
    obtain ⟨f0, f1, f2, f3, f4, f5⟩ := hf it (by simp)
    have hit : s.heap.IsStrIter it (strIterType x) x t x.cps.size := (show i = x.cps.size from hg) ▸ hit
    exact wpAny_pyNext_enum_endD D he hit fun h1 eb => ⟨rfl, I.turned (t' := s.toks) (fun b o hb q => eb b o hb q) f0 f1 f3 f4 f5⟩
  · rintro A i s Q E ⟨⟨old, he⟩, _⟩ h
    exact wpAny_pyIter_enum he h
def iEs (ta : TA) : TI := fun σ H R => ta σ H fun vs H1 => ∃ x, vs = [.str x] ∧ R (ItEs x) H1
theorem pi_es {X : Cx} {e : Expr} {ta : TA} {p pos tpos : Pos} {elts : List Expr} {kk : Nat} (hg : Gl X "enumerate") (hm : X.mg "enumerate" = none) (ha : PA X [e] ta) (hs : starEach [e] X.env = [(false, eval e X.env)] := by rfl) :
    PI X (.Tuple elts kk tpos) (.Call (.Name "enumerate" p) [e] [] pos) (iEs ta) := by
  refine ⟨fun pins s σ H R I h => Call_ (ld_blt I hg hm boot_enumerate (PyProof.Rows.callWith_type1 (thn (ha.run pos pins s σ H _ I h) fun us s1 ⟨vs, H1, I1, r1, x, ex, q⟩ => ?_) hs rfl))⟩
  subst ex
  obtain ⟨u, rest, rfl⟩ : ∃ u rest, us = u :: rest := by
    cases r1
    exact ⟨_, _, rfl⟩
  cases r1 with
  | cons r rr =>
    cases rr
    obtain ⟨t, rfl⟩ := r
    refine call_enumerate_str fun h' he hit hsz hk => wpAny_pyIter_enum he ?_
    refine ⟨s1.heap.objs.size + 1, [s1.heap.objs.size + 1, s1.heap.objs.size], _, _, H1, rfl, I1.kept (t' := s1.toks) hk, turn_es x t (s1.heap.objs.size + 1) s1.heap.objs.size, ⟨⟨.none, he⟩, hit, Nat.succ_ne_self _⟩, fun b hb => ?_, q⟩
    have lb : s1.heap.objs.size ≤ b := by
      rcases two_mem hb with z | z
      · rw [z]
        exact Nat.le_succ _
      · rw [z]
        exact Nat.le_refl _
    exact I1.fpOk lb (I1.hok.fresh lb)
theorem walk_es {x : Str} : Walk (ItEs x) x.cps.size (fun _ => True) (YPair (fun i => some (.int (i : Nat))) (fun i => (x.cps[i]?).map fun c => V.str ⟨#[c]⟩)) := by
  refine ⟨fun _ _ hi _ => hi, fun _ _ => rfl, fun i H v H' _ _ y => ?_⟩
  obtain ⟨T, c, h1, h2, h3, h4⟩ := y
  exact ⟨T, .int (i : Nat), .str ⟨#[c]⟩, h1, h2, h3, rfl, by show (x.cps[i]?).map _ = _; rw [h4]; rfl⟩
end Hr
/-! ### errors that are caught and kept -/
namespace Hr
open PySem PySem.Spec PyProof.Rows L2
/-- an exception's object at a: its class, its own dict -/
def ExT (cls : Value) (d : Option Addr) (a : Addr) : HO := .ext fun h => ∃ (oe : Obj) (vs : Array Value), h.get? a = some oe ∧ Zc cls d oe ∧ oe.data = .fields vs
theorem exT_ok {P : Program} {w : World} {H : Hp} {h : Heap} {a : Addr} {cls : Value} {d : Option Addr} {oe : Obj} {vs : Array Value} (e : h.get? a = some oe) (z : Zc cls d oe) (dd : oe.data = .fields vs) : ObjOk P w H h a (ExT cls d a) :=
  ⟨⟨oe, vs, e, z, dd⟩, ⟨oe, e⟩, fun _ _ ⟨o, v, q, r⟩ k => ⟨o, v, k o q, r⟩⟩
/-- the wish of a try whose clause takes every error of its body and keeps it -/
def wKept (K : PySem.W.Frag) (c : Value) (i : Nat) (ts : Addr → TS) (D : Ends) : WX := fun cls d σ H =>
  PySem.W.exmOne K cls c = some true ∧ ∀ a, H a = none →
    ts a ⟨fun σ1 H1 => D.nx (σ1.set i none) (upd H1 a (ExT cls d a)), fun _ _ => False, fun _ _ => False, fun _ _ => False⟩ (σ.set i (some (.ref a))) H
section
variable {X : Cx} {x n : Str} {c : Value} {i : Nat} {body suite : List Stmt} {b₀ : Stmt} {np pos pos' : Pos} {tb : WX → TS} {ts : Addr → TS}
theorem unsuite2 {pins : List (Addr × Obj)} {σ : L2.St} {H : Hp} {s : Shared} {a : Addr} {oe : Obj} (I : Inv (X.suite a ((a, oe) :: (X.pn ++ pins))) [] σ H s) (ok : X.Ok) : Inv X ((a, oe) :: pins) σ H s :=
  ⟨ok, I.os, I.bare, I.base, I.loc, I.cell, I.free, I.freeC, fun p hp => I.pin p (List.mem_append_left _ (by
    rcases List.mem_append.mp hp with z | z
    · exact List.mem_cons_of_mem _ (List.mem_append_left _ z)
    · rcases List.mem_cons.mp z with z | z
      · rw [z]
        exact List.mem_cons_self
      · exact List.mem_cons_of_mem _ (List.mem_append_right _ z))), I.hok, I.len⟩
theorem track {pins : List (Addr × Obj)} {σ : L2.St} {H : Hp} {s : Shared} {a : Addr} {oe : Obj} {vs : Array Value} {cls : Value} {d : Option Addr} (I : Inv X ((a, oe) :: pins) σ H s) (hz : Zc cls d oe) (hd : oe.data = .fields vs) (n0 : X.s_0.heap.get? a = none)
    (np : ∀ p ∈ X.pn ++ pins, p.1 ≠ a) : Inv X pins σ (upd H a (ExT cls d a)) s := by
  obtain ⟨ha, na, nL, nF, _⟩ := I.pin (a, oe) (List.mem_append_right _ List.mem_cons_self)
  have ha : s.heap.get? a = some oe := ha
  have na : H a = none := na
  have nb0 : ∀ b o, X.s_0.heap.get? b = some o → b ≠ a := fun b o e z => by
    rw [z, n0] at e
    cases e
  refine ⟨I.ok, I.os, I.bare, ⟨I.base.keep, I.base.slot, fun b o e n hx => ?_, I.base.there, fun b xs e => ?_, fun b o u e => ?_, fun b ps e => ?_⟩, I.loc, I.cell, ?_, fun y cc e => ?_, fun p hp => ?_, ?_, I.len⟩
  · rw [upd_ne (nb0 b o e)]
    exact I.base.free b o e n hx
  · have q := I.base.tups b xs e
    rw [upd_ne (ne_of_none q na)]
    exact q
  · have q := I.base.frzs b o u e
    rw [upd_ne (ne_of_none q na)]
    exact q
  · obtain ⟨m, q⟩ := I.base.tbls b ps e
    exact ⟨m, by rw [upd_ne (ne_of_none q na)]; exact q⟩
  · rw [upd_ne (Ne.symm nL)]
    exact I.free
  · obtain ⟨v, o, q1, q2⟩ := I.cell y cc e
    have nc : cc ≠ a := fun z => by
      rw [z, ha] at q1
      cases q1
      rw [hd] at q2
      cases q2
    rw [upd_ne nc]
    exact I.freeC y cc e
  · obtain ⟨q1, q2, q3, q4, q5⟩ := I.pin p (by
      rcases List.mem_append.mp hp with z | z
      · exact List.mem_append_left _ z
      · exact List.mem_append_right _ (List.mem_cons_of_mem _ z))
    exact ⟨q1, by rw [upd_ne (np p hp)]; exact q2, q3, q4, q5⟩
  · exact I.hok.laidN (fun _ _ z => z) na (exT_ok ha hz hd)
/-- what is caught is new since the def began -/
theorem caught_new {pins : List (Addr × Obj)} {σ : L2.St} {H : Hp} {g : Shared} {G : Heap} {a : Addr} (J : Inv X pins σ H g)
    (kp : ∀ b o, g.heap.get? b = some o → b ∉ frs X.stack → G.get? b = some o) (out : G.get? a = none) (nf : a ∉ frs X.stack) (hex : X.ex = []) :
    X.s_0.heap.get? a = none ∧ ∀ p ∈ X.pn ++ pins, p.1 ≠ a := by
  have g0 : g.heap.get? a = none := by
    cases e : g.heap.get? a with
    | none => rfl
    | some o => exact absurd ((kp a o e nf).symm.trans out) (fun z => nomatch z)
  refine ⟨?_, fun p hp z => ?_⟩
  · cases e : X.s_0.heap.get? a with
    | none => rfl
    | some o =>
      obtain ⟨u, hu⟩ := J.base.there a o e (hex ▸ fun z => nomatch z)
      exact absurd (hu.symm.trans g0) (fun z => nomatch z)
  · have hp1 := (J.pin p hp).1
    rw [z, g0] at hp1
    exact nomatch hp1
theorem kept_try (hs : X.stack = X.env :: X.outer) (hf : X.env.frame = some X.env.locals)
    (hex : X.ex = []) (hN : X.N.Nodup) (hi : X.N[i]? = some n)
    (hln : X.env.kindOf n = some .local) (hc : Names X x c)
    (inner : ∀ W pn xe, Takes (X.tr pn xe) W → PassesOwn (model X.prog X.w) X.A X.env xe → PSs (X.tr pn xe) body (tb W))
    (clause : ∀ a q, PSs (X.suite a q) (b₀ :: suite) (ts a)) :
    PS X (.Try body [.ExceptHandler (some (.Name x np)) (some n) (b₀ :: suite) pos'] [] [] pos)
      (fun D σ H => tb (wKept X.K c i ts D) D σ H) := by
  constructor
  intro pins s σ H D I h
  have frames : X.A.frames = some (X.env :: X.outer) := by
    rw [← hs]
    exact I.ok.frames
  apply wpAny_Try_except
  refine wpAny_mono ((inner (wKept X.K c i ts D) (X.pn ++ pins) _ ?later PassesOwn.looking).run
    [] s σ H D (I.toTry _) h) ?done fun _ _ z => z
  case later =>
    rintro u t ⟨a, G, g, pq, σ1, H1, cls, d, rfl, J0, kp, up, sky, na, os, ag, hb, go⟩
    have J := J0.ofTry I.ok
    rw [hs] at sky
    refine Sky.land Zc.steady frames hf sky fun h3 f3 u3 => ?_
    obtain ⟨e3, v3, at3, z3, d3⟩ := f3.there
    -- it is none of the frames
    have away : a ∉ frs (X.env :: X.outer) := by
      intro z
      obtain ⟨_, o, ho, no⟩ := f3.2.2.1.mem z
      rw [at3] at ho
      injection ho with ho
      subst ho
      exact no _ d3
    have a1 : a ≠ X.env.locals := fun z =>
      away (List.mem_filterMap.mpr ⟨X.env, .head _, z ▸ hf⟩)
    have a2 : a ∉ X.fs := by
      intro z
      obtain ⟨e, he, q⟩ := List.mem_filterMap.mp z
      exact away (List.mem_filterMap.mpr ⟨e, .tail _ he, q⟩)
    obtain ⟨n0, apart⟩ := caught_new J kp f3.2.1 (hs ▸ away) hex
    have J3 := J.landed (s' := { t with heap := h3 }) kp f3.1 (up.trans u3) os ag
    have S3 := J3.suite at3 d3 na a1 a2
    refine wpAny_handleBy_cons (codeAny_handlers_test ?_) (fun z => nomatch z)
    have ty : PySem.W.Looks (model X.prog X.w) h3 (typeOf (.ref a)) cls := fun _ _ _ _ k q =>
      wpAny_typeOf_ref (k _ _ at3) (z3.1 ▸ q)
    have hit := PySem.W.exm_one J3.kIn ty hb
    have named : ∀ {Q E : Value → Shared → Prop}, Q c { t with heap := h3 } →
        wpAny (model X.prog X.w) (X.A.mark (some (.ref a))) (eval (.Name x np) X.env) Q E { t with heap := h3 } := by
      intro Q E q
      obtain ⟨gl, dbg, mine | ⟨none', boot, other⟩⟩ := hc
      · exact ld_glob S3 gl mine q dbg
      · exact ld_blt S3 gl none' boot q other dbg
    refine named (hit.here (codeAny_handlers_suite_as ?_))
    refine HandSPX.lands_againZ f3 fun h4 f4 u4 => ?_
    obtain ⟨e4, v4, at4, z4, d4⟩ := f4.there
    have J4 := J.landed (s' := { t with heap := h4 }) kp f4.1 ((up.trans u3).trans u4) os ag
    refine store_ok (X := X.suite a ((a, e4) :: (X.pn ++ pins)))
      (J4.suite at4 d4 na a1 a2) (v := .ref a) hN hi (.inl hln) rfl (fun s5 S5 => ?_) (.inr hln)
    have fin := (clause a ((a, e4) :: (X.pn ++ pins))).run [] s5 _ H1 _ S5 (go a na)
    refine wpAny_mono fin (fun fl s6 done => ?_) fun _ _ z => z.elim
    cases fl with
    | next =>
      obtain ⟨σ6, H6, S6, q6⟩ := done
      refine gone_ok (unsuite2 S6 I.ok) hN hi hln fun s7 J7 => ?_
      exact ⟨_, _, track J7 z4 d4 n0 apart, q6⟩
    | brk => exact (let ⟨_, _, _, z⟩ := done; z.elim)
    | cont => exact (let ⟨_, _, _, z⟩ := done; z.elim)
    | ret u => exact (let ⟨_, _, _, _, _, z⟩ := done; z.elim)
  intro fl s1 done
  cases fl with
  | next => exact (let ⟨_, _, J, z⟩ := done; wpAny_execs_nil ⟨_, _, J.ofTry I.ok, z⟩)
  | brk => exact (let ⟨_, _, J, z⟩ := done; ⟨_, _, J.ofTry I.ok, z⟩)
  | cont => exact (let ⟨_, _, J, z⟩ := done; ⟨_, _, J.ofTry I.ok, z⟩)
  | ret u => exact (let ⟨_, _, _, J, r, z⟩ := done; ⟨_, _, _, J.ofTry I.ok, r, z⟩)
/-- isinstance(e, c), e an error that was kept -/
def rIsT (K : PySem.W.Frag) : List V → Hp → VK → Prop := fun xs H Q => ∃ (a D : Addr) (cc : V) (cv : Value) (b : Bool), xs = [.ref a, cc] ∧ H a = some (ExT (.ref D) none a) ∧ ExcC K D ∧ (∀ u, RelV cc u → u = cv) ∧ PySem.W.kitOne K (.ref D) cv = some b ∧ Q (.bl b) H
theorem call_isT : CallR X (.builtin "isinstance") (rIsT X.K) := by
  intro pins s σ H xs us Q I r h
  obtain ⟨a, D, cc, cv, b, rfl, ea, C, hcv, e, q⟩ := h
  cases r with
  | cons rx rr =>
    cases rr with
    | cons rt rr =>
      cases rr
      cases rx
      have ec := hcv _ rt
      subst ec
      obtain ⟨⟨oe, vs, hget, hz, hv⟩, _⟩ := I.hok a _ ea
      have J : PySem.W.InstAt s.heap a oe D none := by
        obtain ⟨oc, od, oda, osl⟩ := oe
        obtain ⟨h1, h2⟩ := hz
        dsimp only at h1 h2 hv
        subst h1 h2 hv
        exact ⟨hget, rfl, rfl, trivial⟩
      exact PySem.W.kia_one (PySem.W.handS_kitx_exc C.hg C.hk C.hs C.hd C.ha C.hn C.ht C.hm) I.kIn J e (fun z => nomatch z) fun tk => ⟨.bl b, H, I.kept (t' := tk) fun _ _ z => z, rfl, q⟩
end
section
variable {X : Cx}
/-- a def that may raise, called where it does not -/
theorem pe_cL {k j : Nat} {x : Str} {dvs : List V} {sp : Sp} {e : Expr} {es : List Expr} {t : TA} {p pos : Pos} (c : Cal X.K X.mg (L2.CX X.prog X.w) X.prog X.w X.base k x dvs sp) (hr : Room j X.A) (ha : PA X (e :: es) t) (hk : k ≤ j := by decide) (hg : Gl X x := by rfl)
    (hdb : (x == ("__debug__" : Str)) = false := by decide) (he : starEach (e :: es) X.env = (false, eval e X.env) :: starEach es X.env := by rfl) (hpl : (backTo pos (starEach es X.env)).any (·.1) = false := by rfl) :
    PE X (.Call (.Name x p) (e :: es) [] pos) (tCall sp dvs E0 t) := by
  obtain ⟨f, fd, ps, ds, F, hm, kp, b, d⟩ := c.ex
  exact pe_call F (hr.mono hk) hg hm kp b d passL ha hdb he hpl
/-- .. in a def that lets it out -/
theorem pe_cX {k j : Nat} {x : Str} {dvs : List V} {sp : Sp} {E : XK} {e : Expr} {es : List Expr} {t : TA} {p pos : Pos} (c : Cal X.K X.mg (L2.CX X.prog X.w) X.prog X.w X.base k x dvs sp) (hr : Room j X.A) (tk : Takes X fun cls d _ H => E cls d H) (ha : PA X (e :: es) t) (hk : k ≤ j := by decide) (hg : Gl X x := by rfl)
    (hdb : (x == ("__debug__" : Str)) = false := by decide) (he : starEach (e :: es) X.env = (false, eval e X.env) :: starEach es X.env := by rfl) (hpl : (backTo pos (starEach es X.env)).any (·.1) = false := by rfl) :
    PE X (.Call (.Name x p) (e :: es) [] pos) (tCall sp dvs E t) := by
  obtain ⟨f, fd, ps, ds, F, hm, kp, b, d⟩ := c.ex
  exact pe_call F (hr.mono hk) hg hm kp b d (passes_call tk fun _ _ _ _ h => h) ha hdb he hpl
/-- .. in a try's body, at the slots -/
def tCallT (sp : Sp) (dvs : List V) (E : L2.St → XK) (t : TA) : TE := fun σ H Q => t σ H fun vs H1 => sp (vs ++ dvs) H1 Q (E σ)
end
end Hr
/-! ### errors of the text, defs that raise them -/
namespace Hr
open PySem PySem.Spec PyProof.Rows L2
/-- the class x of errors at C -/
structure Err (K : PySem.W.Frag) (mg : Str → Option Value) (x : Str) (C : Addr) : Prop where
  g : mg x = some (.ref C)
  x : PySem.W.excIn K C [.type "ValueError", .type "Exception", .type "BaseException", .type "object"] "ValueError.__new__" = true
  k : PySem.W.keepIn K (.ref C) = true
  b : PySem.W.subIn K (.ref C) (.type "BaseException") = some true
  t : PySem.W.typeIn K (.ref C) = some (.type "type")
section
variable {P : Program} {w : World} {K : PySem.W.Frag} {mg : Str → Option Value} {base : Heap}
theorem Def.calX {x : Str} {st : Stmt} {N ps : List Str} {k : Nat} {sp : Sp} (D : Def K mg x st ps) (S : FnScope N ps (defScope st)) (len : ∀ vs H Q E, sp vs H Q E → vs.length = ps.length)
    (hbody : ∀ (f : Addr) (cdv : Value) (A : Around) (outer : List Env) (s : Shared) (H : Hp) (vs : List V) (Q : VK) (E : XK), Room k (A.deeper (envOfC x (defScope st) s.heap.objs.size f cdv)) → sp vs H Q E →
      ∃ t, PSs (cxOf (L2.CX P w) P w K mg base N x (defScope st) f cdv A outer s H E) (defBody st) t ∧ t { nx := fun _ H' => Q .non H', rt := Q } (start N vs) H) : Cal K mg (L2.CX P w) P w base (k + 1) x [] sp := by
  obtain ⟨f, fd, F, hm, b⟩ := D.ex
  exact ⟨f, fd, ps, [], F.okX S len (hbody f), hm, F.kp, b, .nil⟩
theorem DefD.okX {x : Str} {st : Stmt} {N ps : List Str} {k : Nat} {sp : Sp} (D : DefD K mg x st ps) (S : FnScope N ps (defScope st)) (len : ∀ vs H Q E, sp vs H Q E → vs.length = ps.length)
    (hbody : ∀ (f : Addr) (cdv : Value) (A : Around) (outer : List Env) (s : Shared) (H : Hp) (vs : List V) (Q : VK) (E : XK), Room k (A.deeper (envOfC x (defScope st) s.heap.objs.size f cdv)) → sp vs H Q E →
      ∃ t, PSs (cxOf (L2.CX P w) P w K mg base N x (defScope st) f cdv A outer s H E) (defBody st) t ∧ t { nx := fun _ H' => Q .non H', rt := Q } (start N vs) H) :
    Cal K mg (L2.CX P w) P w base (k + 1) x [] sp ∧ Cal K mg (L2.CX P w) P w base (k + 1) x [.non] sp := by
  obtain ⟨f, fd, F, hm, b, ds, vd, b2⟩ := D.ex
  have G : FnOk P w K mg base (L2.CX P w) (k + 1) f fd ps sp := F.ok S len (hbody f)
  exact ⟨⟨f, fd, ps, [], G, hm, F.kp, b, .nil⟩, ⟨f, fd, ps, ds, G, hm, F.kp, b2, vd⟩⟩
theorem DefV.okX {x : Str} {st : Stmt} {N ps : List Str} {k : Nat} {sp : Sp} {dv : V} (D : DefV K mg x st ps dv) (S : FnScope N ps (defScope st)) (len : ∀ vs H Q E, sp vs H Q E → vs.length = ps.length)
    (hbody : ∀ (f : Addr) (cdv : Value) (A : Around) (outer : List Env) (s : Shared) (H : Hp) (vs : List V) (Q : VK) (E : XK), Room k (A.deeper (envOfC x (defScope st) s.heap.objs.size f cdv)) → sp vs H Q E →
      ∃ t, PSs (cxOf (L2.CX P w) P w K mg base N x (defScope st) f cdv A outer s H E) (defBody st) t ∧ t { nx := fun _ H' => Q .non H', rt := Q } (start N vs) H) :
    Cal K mg (L2.CX P w) P w base (k + 1) x [] sp ∧ Cal K mg (L2.CX P w) P w base (k + 1) x [dv] sp := by
  obtain ⟨f, fd, F, hm, b, ds, vd, b2⟩ := D.ex
  have G : FnOk P w K mg base (L2.CX P w) (k + 1) f fd ps sp := F.ok S len (hbody f)
  exact ⟨⟨f, fd, ps, [], G, hm, F.kp, b, .nil⟩, ⟨f, fd, ps, ds, G, hm, F.kp, b2, vd⟩⟩
end
end Hr
/-! ### the law's own numbers -/
namespace Hr
open PySem PySem.Spec PyProof.Rows L2
/-- what _law_mixed makes of a cell at its place -/
def mixed (z k : Int) : Int :=
  let m := (z % 2147483629 + 104729 * (k + 1)) * 16807 % 2147483647
  m * m % 2147483629 * 48271 % 2147483647
theorem mixed_nonneg (z k : Int) : 0 ≤ mixed z k := Int.emod_nonneg _ (by decide)
theorem mixed_lt (z k : Int) : mixed z k < 2147483647 := Int.emod_lt_of_pos _ (by decide)
theorem scMixed : FnScope ["_law_cell", "_law_k", "_law_mark"] ["_law_cell", "_law_k"] (defScope sMixed) := ⟨rfl, rfl, rfl, by decide +kernel, rfl, by decide +kernel, by decide +kernel⟩
section
variable {P : Program} {w : World} {K : PySem.W.Frag} {mg : Str → Option Value} {base : Heap}
def spMixed : Sp := fun vs H Q _ => ∃ (z k : Int), vs = [.int z, .int k] ∧ Q (.int (mixed z k)) H
theorem cal_mixed (D : Def K mg "_law_mixed" sMixed ["_law_cell", "_law_k"]) : Cal K mg CX0 P w base 1 "_law_mixed" [] spMixed := by
  refine D.cal scMixed (fun vs H Q E h => ?_) (fun f cdv A outer s H vs Q E hr h => ?_)
  · obtain ⟨z, k, rfl, _⟩ := h
    rfl
  · obtain ⟨z, k, rfl, q⟩ := h
    refine ⟨_, pss_cons (ps_set (i := 2) scMixed.nd rfl (.inl rfl) (pe_op op_mod (pe_op op_mul (pe_op op_add (pe_op op_mod (pv 0) pe_int) (pe_op op_mul pe_int (pe_op op_add (pv 1) pe_int))) pe_int) pe_int))
      (pss_one (ps_ret (pe_op op_mod (pe_op op_mul (pe_op op_mod (pe_op op_mul (pv 2) (pv 2)) pe_int) pe_int) pe_int))), ?_⟩
    refine ⟨.int z, rfl, z, 2147483629, rfl, rfl, (by show (0 : Int) < 2147483629; decide), .int k, rfl, k, 1, rfl, rfl, 104729, k + 1, rfl, rfl, .inl ⟨by decide, by decide⟩, z % 2147483629, 104729 * (k + 1), rfl, rfl, _, 16807, rfl, rfl, .inr ⟨by decide, by decide⟩,
      _, 2147483647, rfl, rfl, (by show (0 : Int) < 2147483647; decide), ?_⟩
    have h0 : 0 ≤ (z % 2147483629 + 104729 * (k + 1)) * 16807 % 2147483647 := Int.emod_nonneg _ (by decide)
    have h1 : (z % 2147483629 + 104729 * (k + 1)) * 16807 % 2147483647 < 2147483647 := Int.emod_lt_of_pos _ (by decide)
    refine ⟨_, rfl, _, rfl, _, _, rfl, rfl, .inl ⟨by omega, by omega⟩, _, 2147483629, rfl, rfl, (by show (0 : Int) < 2147483629; decide), _, 48271, rfl, rfl, .inr ⟨by decide, by decide⟩, _, 2147483647, rfl, rfl, (by show (0 : Int) < 2147483647; decide), ?_⟩
    exact q
end
end Hr
namespace Hr
open PySem PySem.Spec PyProof.Rows L2
/-- a ceiling as a value -/
def cV : Option Nat → V
  | none => .non
  | some k => .int (k : Int)
/-- a ceiling in its bounds -/
def cOk (m : Nat) : Option Nat → Prop
  | none => True
  | some k => k ≤ m
end Hr
/-! ### rows as texts -/
namespace Hr
open PySem PySem.Spec PyProof.Rows L2
def code (b : Bool) : Nat := if b = true then 117 else 100
def txt (l : List Bool) : Str := ⟨(l.map code).toArray⟩
def sgn (b : Bool) : Str := ⟨#[code b]⟩
theorem txt_len (l : List Bool) : (txt l).length = l.length := by
  show ((l.map code).toArray).size = _
  rw [List.size_toArray, List.length_map]
theorem txt_size (l : List Bool) : (txt l).cps.size = l.length := txt_len l
theorem txt_at (l : List Bool) (i : Nat) : (txt l).cps[i]? = (l[i]?).map code := by
  show ((l.map code).toArray)[i]? = _
  rw [List.getElem?_toArray, List.getElem?_map]
theorem code_inj {a b : Bool} (h : code a = code b) : a = b := by
  cases a <;> cases b <;> first | rfl | (exact absurd h (by decide))
theorem map_code_inj : ∀ {a b : List Bool}, a.map code = b.map code → a = b
  | [], [], _ => rfl
  | [], _ :: _, e => by cases e
  | _ :: _, [], e => by cases e
  | x :: a, y :: b, e => by
    rw [List.map_cons, List.map_cons] at e
    injection e with e1 e2
    rw [code_inj e1, map_code_inj e2]
theorem txt_inj {a b : List Bool} (h : txt a = txt b) : a = b := by
  have := congrArg (fun z : Str => z.cps.toList) h
  exact map_code_inj (by simpa [txt] using this)
theorem txt_append (a b : List Bool) : txt a ++ txt b = txt (a ++ b) := by
  have := SX.S_cat (a.map code) (b.map code)
  rw [← List.map_append] at this
  exact this
theorem eU : ("u" : Str) = ⟨#[117]⟩ := by decide +kernel
theorem eD : ("d" : Str) = ⟨#[100]⟩ := by decide +kernel
theorem eE : ("" : Str) = ⟨#[]⟩ := by decide +kernel
theorem sgn_u : sgn true = ("u" : Str) := eU.symm
theorem sgn_d : sgn false = ("d" : Str) := eD.symm
theorem one_inj {a b : Nat} : ((⟨#[a]⟩ : Str) = ⟨#[b]⟩) ↔ a = b := by
  constructor
  · intro h
    have := congrArg (fun z : Str => z.cps.toList) h
    simpa using this
  · intro h
    rw [h]
theorem is_u (c : Nat) : decide (V.str ⟨#[c]⟩ = V.str ("u" : Str)) = decide (c = 117) := by
  refine decide_eq_decide.mpr ?_
  rw [eU]
  exact ⟨fun z => one_inj.mp (V.str.inj z), fun z => by rw [z]⟩
theorem code_u (b : Bool) : decide (code b = 117) = b := by cases b <;> rfl
/-- a text of ups and downs alone -/
def isS (c : Nat) : Bool := decide (c = 117) || decide (c = 100)
def isRowB (z : Str) : Bool := z.cps.toList.all isS
theorem isRowB_txt (l : List Bool) : isRowB (txt l) = true := by
  show (l.map code).toArray.toList.all isS = true
  rw [List.all_eq_true]
  intro c hc
  have hc : c ∈ l.map code := hc
  obtain ⟨b, _, rfl⟩ := List.mem_map.mp hc
  cases b <;> rfl
/-- the signs of a text -/
def signs (z : Str) : List Bool := z.cps.toList.map fun c => decide (c = 117)
theorem signs_txt (l : List Bool) : signs (txt l) = l := by
  show (l.map code).map _ = l
  rw [List.map_map]
  refine (List.map_congr_left fun b _ => ?_).trans (List.map_id l)
  exact code_u b
theorem txt_signs {z : Str} (h : isRowB z = true) : txt (signs z) = z := by
  obtain ⟨⟨l⟩⟩ := z
  have h : l.all isS = true := h
  show (⟨((l.map fun c => decide (c = 117)).map code).toArray⟩ : Str) = ⟨l.toArray⟩
  congr 2
  rw [List.map_map]
  refine (List.map_congr_left fun c hc => ?_).trans (List.map_id l)
  have := List.all_eq_true.mp h c hc
  unfold isS at this
  show code (decide (c = 117)) = c
  by_cases e : c = 117
  · rw [e]
    rfl
  · have e2 : c = 100 := by simpa [e] using this
    rw [e2]
    rfl
theorem signs_len (z : Str) : (signs z).length = z.length := by
  unfold signs
  rw [List.length_map, Array.length_toList]
  rfl
/-- whether a text is a hill row under a ceiling -/
def hillB (c : Option Nat) (z : Str) : Bool := isRowB z && okb c 0 (signs z)
theorem hillB_txt (c : Option Nat) (l : List Bool) : hillB c (txt l) = okb c 0 l := by
  unfold hillB
  rw [isRowB_txt, signs_txt, Bool.true_and]
theorem in_signs (c : Nat) : inV (.str ⟨#[c]⟩) [.str "u", .str "d"] = isS c := by
  have e : ∀ (k : Nat), ((⟨#[k]⟩ : Str) == ⟨#[c]⟩) = decide (c = k) := fun k => by
    by_cases h : c = k
    · rw [h]
      simp
    · rw [decide_eq_false h]
      refine beq_eq_false_iff_ne.mpr fun z => h (one_inj.mp z).symm
  show (("u" : Str) == ⟨#[c]⟩ || (("d" : Str) == ⟨#[c]⟩ || false)) = _
  rw [eU, eD, e, e, Bool.or_false]
  rfl
theorem take_snoc {α : Type} {l : List α} {i : Nat} {x : α} (h : l[i]? = some x) : l.take (i + 1) = l.take i ++ [x] := by
  rw [List.take_add_one, h]
  rfl
theorem scIsRow : FnScope ["text", "sign"] ["text"] (defScope sIsRow) := ⟨rfl, rfl, rfl, by decide +kernel, rfl, by decide +kernel, by decide +kernel⟩
theorem scHeights : FnScope ["row", "height", "found", "sign"] ["row"] (defScope sHeights) := ⟨rfl, rfl, rfl, by decide +kernel, rfl, by decide +kernel, by decide +kernel⟩
theorem scIsHill : FnScope ["row", "ceiling", "found"] ["row", "ceiling"] (defScope sIsHill) := ⟨rfl, rfl, rfl, by decide +kernel, rfl, by decide +kernel, by decide +kernel⟩
section
variable {P : Program} {w : World} {K : PySem.W.Frag} {mg : Str → Option Value} {base : Heap}
def spIsRow : Sp := fun vs H Q _ => ∃ (z : Str), vs = [.str z] ∧ z.length ≤ 1000 ∧ ∀ H', Same H H' → Q (.bl (isRowB z)) H'
theorem cal_isRow (D : Def K mg "is_row" sIsRow ["text"]) (misi : mg "isinstance" = none) (mstr : mg "str" = none) (mall : mg "all" = none) {t1 t2 : Tok} (gU : mg "UP" = some (.str "u" t1)) (gD : mg "DOWN" = some (.str "d" t2)) : Cal K mg CX0 P w base 1 "is_row" [] spIsRow := by
  refine D.cal scIsRow (fun vs H Q E h => ?_) (fun f cdv A outer s H vs Q E hr h => ?_)
  · obtain ⟨z, rfl, _⟩ := h
    rfl
  · obtain ⟨z, rfl, hz, q⟩ := h
    refine ⟨_, pss_one (ps_ret (pe_and (pe_callB call_isi (by rfl) misi (by decide +kernel) (pa_cons (pv 0) (pa_cons (pe_bltn (v := .ty "str") (u := .type "str") (by rfl) mstr (by decide +kernel) rfl) pa_nil)))
      (pe_one (pe_callB (cr_all rfl) (by rfl) mall (by decide +kernel) (pa_cons (pe_lc (own := [("sign", 1)]) (g := gName 1) (tt := tYes) rfl scIsRow.nd (pi_str (pv 0))
        (blkOk_by (N := ["text", "sign"]) (sc := defScope sIsRow) (by decide +kernel)) (fun _ _ _ _ _ => pg_name (i := 1) scIsRow.nd rfl (Or.inl rfl)) (fun _ _ _ _ _ => pts_nil)
        (fun _ _ _ _ _ => pe_cmpR (r := rIn K false) op_in_seq (pv 1) (pe_tup (pa_cons (pe_glob (v := .str "u") (by rfl) gU ⟨_, rfl⟩) (pa_cons (pe_glob (v := .str "d") (by rfl) gD ⟨_, rfl⟩) pa_nil))) (by rfl))) pa_nil))))), ?_⟩
    refine ⟨.str z, rfl, .str z, .ty "str", _, _, true, rfl, .ty "str", .base (.str z), kit_ty (by decide +kernel), true, rfl, iteT ?_⟩
    refine ⟨.str z, rfl, z, rfl, fun D nD => ?_⟩
    refine lc_it walk_str (fun i H' => Same H H' ∧ H' D = some (.lst (((z.cps.toList.take i).map isS).map V.bl))) ⟨same_upd nD, upd_same⟩ (fun _ _ _ _ => trivial) ?_ ?_
    · rintro i x H1 H2 hi ⟨sm, eD⟩ ⟨rfl, c, hc, rfl⟩
      have hc' : z.cps.toList[i]? = some c := by rw [Array.getElem?_toList]; exact hc
      refine ⟨rfl, ?_⟩
      unfold tYes
      refine iteT ?_
      refine ⟨_, rfl, sz (show 2 ≤ 1000000 by decide), fun t nt => ?_⟩
      have nDt : D ≠ t := ne_of_none eD nt
      refine ⟨t, _, rfl, .inr (.inl (.inl upd_same)), rfl, rfl, _, by rw [upd_ne nDt]; exact eD, szl ?_, same_updN (sm.trans (same_upd nt)) nD, ?_⟩
      · rw [List.length_map, List.length_map, List.length_take]
        have : z.cps.toList.length = z.length := rfl
        omega
      · rw [upd_same, take_snoc hc', List.map_append, List.map_append]
        show some (HO.lst (_ ++ [V.bl (inV (.str ⟨#[c]⟩) [.str "u", .str "d"])])) = _
        rw [in_signs]
        rfl
    · rintro H1 ⟨sm, eD⟩
      refine ⟨D, _, rfl, .inl (.inl eD), ?_⟩
      have e : (((z.cps.toList.take z.cps.size).map isS).all id) = isRowB z := by
        rw [List.take_of_length_le (by rw [Array.length_toList]; exact Nat.le_refl _), List.all_map]
        rfl
      rw [e]
      exact q H1 sm
end
end Hr
namespace Hr
open PySem PySem.Spec PyProof.Rows L2
section
variable {P : Program} {w : World} {K : PySem.W.Frag} {mg : Str → Option Value} {base : Heap}
def spHeightsX (CN : Addr) : Sp := fun vs H Q E => ∃ (z : Str), vs = [.str z] ∧ z.length ≤ 1000 ∧ (isRowB z = true → ∀ H' p, Same H H' → H p = none → H' p = some (.lst ((hts 0 (signs z)).map V.int)) → Q (.ref p) H') ∧ (isRowB z = false → ∀ H', Same H H' → E (.ref CN) none H')
theorem cal_heightsX {CN : Addr} (er : Err K mg "NoRow" CN) (D : Def K mg "heights" sHeights ["row"]) (C : Cal K mg CX0 P w base 1 "is_row" [] spIsRow) {t1 : Tok} (gU : mg "UP" = some (.str "u" t1)) : Cal K mg (L2.CX P w) P w base 2 "heights" [] (spHeightsX CN) := by
  refine D.calX scHeights (fun vs H Q E h => ?_) (fun f cdv A outer s H vs Q E hr h => ?_)
  · obtain ⟨z, rfl, _⟩ := h
    rfl
  · obtain ⟨z, rfl, hz, q, qe⟩ := h
    have nd := scHeights.nd
    refine ⟨_, pss_cons (ps_if (pt_not (pt_val (pe_c C hr (pa_cons (pv 0) pa_nil)))) (pss_one (ps_raise rfl (takes_of rfl rfl rfl rfl) (pmk_own PySem.F.excBase_ValueError er.x er.g er.k (raises_own er.b er.t) rfl))) pss_nil)
      (pss_cons (ps_set (i := 1) nd rfl (.inl rfl) pe_int)
      (pss_cons (ps_set (i := 2) nd rfl (.inl rfl) (pe_lst (pa_cons (pv 1) pa_nil)))
      (pss_cons (ps_for PassesOwn.leaving rfl (pi_str (pv 0)) (pg_name (i := 3) nd rfl (.inl rfl))
        (pss_cons (ps_aug (i := 1) nd rfl (.inl rfl) (pe_ifExp (pt_cmpR op_eq (pv 3) (pe_glob (v := .str "u") (by rfl) gU ⟨_, rfl⟩) (nomark _)) pe_int (pe_un un_neg pe_int)) ip_add)
        (pss_one (ps_expr (pe_bm PySem.F.plainAttrs_list PySem.F.slot_list_append PySem.F.type_list_append mt_append (pv 2) (pa_cons (pv 1) pa_nil))))))
      (pss_one (ps_ret (pv 2)))))), ?_⟩
    refine ⟨.str z, rfl, z, rfl, hz, fun H1 s1 => ⟨isRowB z, rfl, ?_⟩⟩
    by_cases hrow : isRowB z = true
    rotate_left
    · have hrow : isRowB z = false := by simpa using hrow
      rw [hrow]
      refine iteT ?_
      exact qe hrow H1 s1
    rw [hrow]
    refine iteF ?_
    obtain ⟨l, rfl⟩ : ∃ l, z = txt l := ⟨signs z, (txt_signs hrow).symm⟩
    rw [txt_len] at hz
    have hl := hz
    have q := q hrow
    rw [signs_txt] at q
    refine ⟨.int 0, rfl, sz (show 1 ≤ 1000000 by decide), fun o no => ?_⟩
    have n0 : H o = none := s1.free no
    refine ⟨.str (txt l), rfl, txt l, rfl, ?_⟩
    refine for_it walk_str (fun i σ H' => ∃ y, σ = [some (.str (txt l)), some (.int ((l.take i).map sg).sum), some (.ref o), y] ∧ Same H H' ∧ H' o = some (.lst ((hts 0 (l.take i)).map V.int))) ?_ (fun _ _ _ _ _ => trivial) ?_ ?_
    · exact ⟨none, rfl, same_updN s1 n0, upd_same⟩
    · rintro i x σ H2 H3 hi ⟨y, rfl, sm, eo⟩ ⟨rfl, c, hc, rfl⟩
      rw [txt_at] at hc
      obtain ⟨b, hb, rfl⟩ := Option.map_eq_some_iff.mp hc
      have e1 : ((l.take (i + 1)).map sg).sum = ((l.take i).map sg).sum + sg b := by
        rw [take_snoc hb, List.map_append, List.sum_append]
        show _ + (sg b + 0) = _
        omega
      have e2 : hts 0 (l.take (i + 1)) = hts 0 (l.take i) ++ [((l.take (i + 1)).map sg).sum] := by
        rw [e1, take_snoc hb, hts_snoc, Int.zero_add]
      have hlen : ((hts 0 (l.take i)).map V.int).length < sizeLine := szl (by rw [List.length_map, hts_len, List.length_take]; omega)
      refine ⟨_, rfl, .str ⟨#[code b]⟩, rfl, rfl, decide (code b = 117), congrArg V.bl (is_u _), ?_⟩
      rw [code_u]
      cases b with
      | true =>
        refine iteT ?_
        refine ⟨_, 1, rfl, rfl, .ref o, rfl, .inl ⟨rfl, _, .inl (.inl eo)⟩, _, rfl, o, _, _, rfl, rfl, eo, hlen, some (.str ⟨#[code true]⟩), ?_, same_updN sm n0, ?_⟩
        · rw [e1]
          rfl
        · rw [upd_same, e2, e1, List.map_append]
          rfl
      | false =>
        refine iteF ?_
        refine ⟨1, rfl, _, -1, rfl, rfl, .ref o, rfl, .inl ⟨rfl, _, .inl (.inl eo)⟩, _, rfl, o, _, _, rfl, rfl, eo, hlen, some (.str ⟨#[code false]⟩), ?_, same_updN sm n0, ?_⟩
        · rw [e1]
          rfl
        · rw [upd_same, e2, e1, List.map_append]
          rfl
    · rintro σ H2 ⟨y, rfl, sm, eo⟩
      rw [txt_size, List.take_length] at eo
      exact ⟨.ref o, rfl, q H2 o sm n0 eo⟩
def spIsHill : Sp := fun vs H Q _ => ∃ (z : Str) (c : Option Nat), vs = [.str z, cV c] ∧ z.length ≤ 1000 ∧ ∀ H', Same H H' → Q (.bl (hillB c z)) H'
theorem cal_isHill {CN : Addr} (D : DefD K mg "is_hill" sIsHill ["row", "ceiling"]) (C : Cal K mg CX0 P w base 1 "is_row" [] spIsRow) (C2 : Cal K mg (L2.CX P w) P w base 2 "heights" [] (spHeightsX CN)) (mmin : mg "min" = none) (mmax : mg "max" = none) :
    Cal K mg CX0 P w base 3 "is_hill" [] spIsHill ∧ Cal K mg CX0 P w base 3 "is_hill" [.non] spIsHill := by
  refine D.ok scIsHill (fun vs H Q E h => ?_) (fun f cdv A outer s H vs Q E hr h => ?_)
  · obtain ⟨z, c, rfl, _⟩ := h
    rfl
  · obtain ⟨z, c, rfl, hz, q⟩ := h
    have nd := scIsHill.nd
    refine ⟨_, pss_cons (ps_if (pt_not (pt_val (pe_c C hr (pa_cons (pv 0) pa_nil)))) (pss_one (ps_ret pe_bl)) pss_nil)
      (pss_cons (ps_set (i := 2) nd rfl (.inl rfl) (pe_cL C2 hr (pa_cons (pv 0) pa_nil)))
      (pss_cons (ps_if (PW.pt (pw_or (pt_cmpR op_ne (pe_ix ix_list (pv 2) (pe_un un_neg pe_int) (fun _ _ => rfl)) pe_int (nomark _)) (pw_or1 (pt_cmpR op_lt (pe_callB (cr_min rfl) (by rfl) mmin boot_min (pa_cons (pv 2) pa_nil)) pe_int (nomark _))))) (pss_one (ps_ret pe_bl)) pss_nil)
      (pss_one (ps_ret (pe_or (pe_cmp (pc_isN (pv 1))) (pe_one (pe_cmpR op_le (pe_callB (cr_max rfl) (by rfl) mmax boot_max (pa_cons (pv 2) pa_nil)) (pv 1) (nomark _)))))))), ?_⟩
    refine ⟨.str z, rfl, z, rfl, hz, fun H1 s1 => ⟨isRowB z, rfl, ?_⟩⟩
    by_cases hrow : isRowB z = true
    · rw [hrow]
      refine iteF ?_
      obtain ⟨l, rfl⟩ : ∃ l, z = txt l := ⟨signs z, (txt_signs hrow).symm⟩
      rw [txt_len] at hz
      refine ⟨.str (txt l), rfl, txt l, rfl, by rw [txt_len]; exact hz, fun _ H2 p s2 np ep => ?_, fun z => absurd (z.symm.trans (isRowB_txt l)) (by decide)⟩
      rw [signs_txt] at ep
      have hS : SqL K H2 p ((hts 0 l).map V.int) := .inl (.inl ep)
      have hne : 0 < (hts 0 l).length := by rw [hts_len]; omega
      have hlast : (hts 0 l).map V.int = ((hts 0 l).dropLast).map V.int ++ [.int (l.map sg).sum] := by
        conv => lhs; rw [hts_last l 0]
        rw [List.map_append, Int.zero_add]
        rfl
      have iff := okb_iff c l 0 (fun k _ => Nat.zero_le _)
      have qq : ∀ b : Bool, (b = true ↔ okb c 0 l = true) → ∀ H', Same H H' → Q (.bl b) H' := fun b hb H' sm => by
        have := q H' sm
        rw [hillB_txt] at this
        have e : b = okb c 0 l := Bool.eq_iff_iff.mpr hb
        rw [e]
        exact this
      have sm := s1.trans s2
      refine ⟨.ref p, rfl, 1, rfl, p, _, -1, .int (l.map sg).sum, rfl, rfl, hS, by rw [hlast]; exact atI_last _ _, rfl, _, rfl, ite2 (fun e => ?_) (fun e => ?_)⟩
      · refine iteT ?_
        refine qq false ⟨fun z => (nomatch z), fun z => ?_⟩ H2 sm
        have := (iff.mp z).1
        have e' : ¬ (V.int (l.map sg).sum = V.int 0) := by simpa using e
        exact absurd (congrArg V.int (by have : ((0 : Nat) : Int) + (l.map sg).sum = 0 := this; omega)) e'
      · have e0 : (l.map sg).sum = 0 := by
          have : V.int (l.map sg).sum = V.int 0 := by simpa using e
          exact V.int.inj this
        refine ⟨.ref p, rfl, p, hts 0 l, rfl, hS, hne, fun m hm hmin => ⟨_, _, rfl, rfl, _, rfl, ite2 (fun g => ?_) (fun g => ?_)⟩⟩
        · have g0 : m < 0 := of_decide_eq_true g
          refine qq false ⟨fun z => (nomatch z), fun z => ?_⟩ H2 sm
          have := (iff.mp z).2.1 m hm
          omega
        · have g0 : ¬ m < 0 := fun z => g (decide_eq_true z)
          have hpos : ∀ x ∈ hts 0 l, 0 ≤ x := fun x hx => by
            have := hmin x hx
            omega
          cases c with
          | none =>
            refine ⟨.non, rfl, true, rfl, iteT ?_⟩
            refine qq true ⟨fun _ => iff.mpr ⟨by show ((0 : Nat) : Int) + _ = 0; omega, hpos, fun k z => by cases z⟩, fun _ => rfl⟩ H2 sm
          | some k =>
            refine ⟨.int (k : Int), rfl, false, rfl, iteF ?_⟩
            refine ⟨.ref p, rfl, p, hts 0 l, rfl, hS, hne, fun M hM hmax => ⟨.int (k : Int), rfl, M, (k : Int), rfl, rfl, ?_⟩⟩
            refine qq (decide (M ≤ (k : Int))) ⟨fun z => ?_, fun z => ?_⟩ H2 sm
            · have hk := of_decide_eq_true z
              refine iff.mpr ⟨by show ((0 : Nat) : Int) + _ = 0; omega, hpos, fun k' z' x hx => ?_⟩
              cases z'
              have := hmax x hx
              omega
            · exact decide_eq_true ((iff.mp z).2.2 k rfl M hM)
    · have hrow' : isRowB z = false := by simpa using hrow
      rw [hrow']
      refine iteT ?_
      have e : hillB c z = false := by
        unfold hillB
        rw [hrow', Bool.false_and]
      have := q H1 s1
      rw [e] at this
      exact this
end
end Hr
namespace Hr
open PySem PySem.Spec PyProof.Rows L2
theorem scChHill : FnScope ["row", "ceiling"] ["row", "ceiling"] (defScope sChHill) := ⟨rfl, rfl, rfl, by decide +kernel, rfl, by decide +kernel, by decide +kernel⟩
section
variable {P : Program} {w : World} {K : PySem.W.Frag} {mg : Str → Option Value} {base : Heap} {CC CN CR CP : Addr}
def spChHillX (CN : Addr) : Sp := fun vs H Q E => ∃ (z : Str) (c : Option Nat), vs = [.str z, cV c] ∧ z.length ≤ 1000 ∧ (hillB c z = true → ∀ H', Same H H' → Q .non H') ∧ (hillB c z = false → ∀ H', Same H H' → E (.ref CN) none H')
theorem cal_chHillX (er : Err K mg "NoRow" CN) (D : DefD K mg "check_hill" sChHill ["row", "ceiling"]) (C : Cal K mg CX0 P w base 3 "is_hill" [] spIsHill) : Cal K mg (L2.CX P w) P w base 4 "check_hill" [] (spChHillX CN) ∧ Cal K mg (L2.CX P w) P w base 4 "check_hill" [.non] (spChHillX CN) := by
  refine D.okX scChHill (fun vs H Q E h => ?_) (fun f cdv A outer s H vs Q E hr h => ?_)
  · obtain ⟨l, c, rfl, _⟩ := h
    rfl
  · obtain ⟨z, c, rfl, hz, q, qe⟩ := h
    refine ⟨_, pss_one (ps_if (pt_not (pt_val (pe_c C hr (pa_cons (pv 0) (pa_cons (pv 1) pa_nil))))) (pss_one (ps_raise rfl (takes_of rfl rfl rfl rfl) (pmk_own PySem.F.excBase_ValueError er.x er.g er.k (raises_own er.b er.t) rfl))) pss_nil), ?_⟩
    refine ⟨.str z, rfl, cV c, rfl, z, c, rfl, hz, fun H' sm => ⟨hillB c z, rfl, ?_⟩⟩
    cases hh : hillB c z with
    | true =>
      refine iteF ?_
      exact q hh H' sm
    | false =>
      refine iteT ?_
      exact qe hh H' sm
end
end Hr
/-! ### cut texts -/
namespace Hr
open PySem PySem.Spec PyProof.Rows L2
theorem cutS_from {l : List Bool} {k : Nat} (h : k ≤ l.length) : cutS (txt l) (some (k : Int)) none = txt (l.drop k) := by
  unfold cutS
  rw [txt_len, HT.sIx_nat, Nat.min_eq_left h]
  show (⟨(((l.map code).drop k).take (l.length - k)).toArray⟩ : Str) = _
  rw [List.take_of_length_le (by rw [List.length_drop, List.length_map]; exact Nat.le_refl _), ← List.map_drop]
  rfl
theorem cutS_to {l : List Bool} {k : Nat} (h : k ≤ l.length) : cutS (txt l) none (some (k : Int)) = txt (l.take k) := by
  unfold cutS
  rw [txt_len, HT.sIx_nat, Nat.min_eq_left h]
  show (⟨(((l.map code).drop 0).take (k - 0)).toArray⟩ : Str) = _
  rw [List.drop_zero, Nat.sub_zero, ← List.map_take]
  rfl
theorem is_d (b : Bool) : decide (V.str ⟨#[code b]⟩ = V.str ("d" : Str)) = !b := by
  cases b
  · exact decide_eq_true (by rw [eD]; rfl)
  · refine decide_eq_false fun z => ?_
    rw [eD] at z
    exact absurd (one_inj.mp (V.str.inj z)) (by decide)
theorem cutS_mid {l : List Bool} {a b : Nat} (ha : a ≤ b) (hb : b ≤ l.length) : cutS (txt l) (some (a : Int)) (some (b : Int)) = txt ((l.drop a).take (b - a)) := by
  unfold cutS
  rw [txt_len, HT.sIx_nat, HT.sIx_nat, Nat.min_eq_left hb, Nat.min_eq_left (Nat.le_trans ha hb)]
  show (⟨(((l.map code).drop a).take (b - a)).toArray⟩ : Str) = _
  rw [← List.map_drop, ← List.map_take]
  rfl
/-- text[1:-1] -/
theorem cutS_in (x y : Bool) (l : List Bool) : cutS (txt (x :: (l ++ [y]))) (some 1) (some (-1)) = txt l := by
  unfold cutS
  have e1 : (txt (x :: (l ++ [y]))).length = l.length + 2 := by
    rw [txt_len, List.length_cons, List.length_append]
    rfl
  have e2 : HT.sIx (l.length + 2) 0 (some 1) = 1 := by
    rw [show (1 : Int) = ((1 : Nat) : Int) from rfl, HT.sIx_nat]
    omega
  have e3 : HT.sIx (l.length + 2) (l.length + 2) (some (-1)) = l.length + 1 := by
    show (if (-1 : Int) < 0 then ((-1 : Int) + ((l.length + 2 : Nat) : Int)).toNat else min (-1 : Int).toNat (l.length + 2)) = _
    rw [if_pos (by decide)]
    omega
  rw [e1, e2, e3]
  show (⟨((((x :: (l ++ [y])).map code).drop 1).take (l.length + 1 - 1)).toArray⟩ : Str) = _
  rw [← List.map_drop, ← List.map_take, List.drop_succ_cons, List.drop_zero, Nat.add_sub_cancel, List.take_left']
  · rfl
  · rfl
end Hr
namespace Hr
open PySem PySem.Spec PyProof.Rows L2
theorem sgn_sum : ∀ l : List Bool, ((l.map sgn).map (·.length)).sum = l.length
  | [] => rfl
  | b :: r => by
    rw [List.map_cons, List.map_cons, List.sum_cons, sgn_sum r, List.length_cons]
    show 1 + _ = _
    omega
theorem join_signs (l : List Bool) : Txt.join ("" : Str) (l.map sgn) = txt l := by
  have h := SX.join_S [] (l.map fun b => [code b])
  have e1 : (l.map fun b => [code b]).map SX.S = l.map sgn := by
    rw [List.map_map]
    rfl
  rw [e1] at h
  have e2 : ∀ l : List Bool, TL.joinL [] (l.map fun b => [code b]) = l.map code := by
    intro l
    induction l with
    | nil => rfl
    | cons b l ih =>
      cases l with
      | nil => rfl
      | cons b2 l =>
        show [code b] ++ ([] ++ TL.joinL [] ((b2 :: l).map fun b => [code b])) = _
        rw [ih]
        rfl
  rw [e2] at h
  rw [eE]
  exact h
end Hr
/-! ### lists as data -/
namespace Hr
open PySem PySem.Spec PyProof.Rows L2
section
variable {K : PySem.W.Frag} {H : Hp}
theorem dp_ints : ∀ ns : List Int, DpAll K H (ns.map V.int) (ns.map PyData.int)
  | [] => .nil
  | n :: r => .cons (.int n) (dp_ints r)
theorem dp_strs : ∀ xs : List Str, DpAll K H (xs.map V.str) (xs.map PyData.str)
  | [] => .nil
  | x :: r => .cons (.str x) (dp_strs r)
end
theorem lay_ints : ∀ ns : List Int, PyData.canLayAll0 (ns.map PyData.int) = true
  | [] => rfl
  | n :: r => by
    show (true && PyData.canLayAll0 (r.map PyData.int)) = true
    rw [lay_ints r]
    rfl
theorem dep_ints : ∀ ns : List Int, PyData.depthAll (ns.map PyData.int) = 0
  | [] => rfl
  | n :: r => by
    show max 0 (PyData.depthAll (r.map PyData.int)) = 0
    rw [dep_ints r]
    rfl
theorem lay_txts : ∀ ls : List (List Bool), PyData.canLayAll0 ((ls.map txt).map PyData.str) = true
  | [] => rfl
  | l :: r => by
    show (PyData.strOk (txt l) && PyData.canLayAll0 ((r.map txt).map PyData.str)) = true
    rw [lay_txts r, Bool.and_true]
    show (l.map code).toArray.all (· < 0x110000) = true
    rw [List.all_toArray, List.all_eq_true]
    intro c hc
    obtain ⟨b, _, rfl⟩ := List.mem_map.mp hc
    cases b <;> rfl
theorem dep_strs : ∀ xs : List Str, PyData.depthAll (xs.map PyData.str) = 0
  | [] => rfl
  | n :: r => by
    show max 0 (PyData.depthAll (r.map PyData.str)) = 0
    rw [dep_strs r]
    rfl
theorem sh_ints (ns : List Int) : SeqAt.shaped (.list (ns.map PyData.int)) = true := by
  show (PyData.canLayAll0 (ns.map PyData.int) && decide (PyData.depthAll (ns.map PyData.int) + 1 ≤ 64)) = true
  rw [lay_ints, dep_ints]
  rfl
theorem sh_txts (ls : List (List Bool)) : SeqAt.shaped (.list ((ls.map txt).map PyData.str)) = true := by
  show (PyData.canLayAll0 ((ls.map txt).map PyData.str) && decide (PyData.depthAll ((ls.map txt).map PyData.str) + 1 ≤ 64)) = true
  rw [lay_txts, dep_strs]
  rfl
end Hr
namespace Hr
open PySem PySem.Spec PyProof.Rows L2
theorem scNumber : FnScope ["_law_script", "_law_k"] ["_law_script", "_law_k"] (defScope sNumber) := ⟨rfl, rfl, rfl, by decide +kernel, rfl, by decide +kernel, by decide +kernel⟩
section
variable {P : Program} {w : World} {K : PySem.W.Frag} {mg : Str → Option Value} {base : Heap}
def spNumber (K : PySem.W.Frag) : Sp := fun vs H Q _ => ∃ (a : Addr) (ns : List Int) (k : Nat), vs = [.ref a, .int (k : Int)] ∧ SqL K H a (ns.map V.int) ∧ Q (.int (mixed (ns.getD k 0) k)) H
theorem cal_number (D : Def K mg "_law_number" sNumber ["_law_script", "_law_k"]) (C : Cal K mg CX0 P w base 1 "_law_mixed" [] spMixed) (mlen : mg "len" = none) : Cal K mg CX0 P w base 2 "_law_number" [] (spNumber K) := by
  refine D.cal scNumber (fun vs H Q E h => ?_) (fun f cdv A outer s H vs Q E hr h => ?_)
  · obtain ⟨a, ns, k, rfl, _⟩ := h
    rfl
  · obtain ⟨a, ns, k, rfl, hS, q⟩ := h
    refine ⟨_, pss_one (ps_ret (pe_c C hr (pa_cons (pe_ifExp (pt_cmpR op_lt (pv 1) (pe_callB call_len_seq (by rfl) mlen PySem.boot_len (pa_cons (pv 0) pa_nil)) (nomark _)) (pe_ix ix_list (pv 0) (pv 1) (fun _ _ => rfl)) pe_int) (pa_cons (pv 1) pa_nil)))), ?_⟩
    refine ⟨.int (k : Int), rfl, .ref a, rfl, a, _, rfl, .inl hS, _, _, rfl, rfl, _, rfl, ite2 (fun e => ?_) (fun e => ?_)⟩
    · have hk : k < ns.length := by
        have := of_decide_eq_true e
        rw [List.length_map] at this
        omega
      refine ⟨.ref a, rfl, .int (k : Int), rfl, a, _, _, .int (ns.getD k 0), rfl, rfl, hS, atI_nat ?_, .int (k : Int), rfl, _, _, rfl, q⟩
      rw [List.getElem?_map, List.getElem?_eq_getElem hk, List.getD_eq_getElem?_getD, List.getElem?_eq_getElem hk]
      rfl
    · have hk : ns.length ≤ k := by
        have : ¬ (k : Int) < ((ns.map V.int).length : Int) := fun z => e (decide_eq_true z)
        rw [List.length_map] at this
        omega
      refine ⟨.int (k : Int), rfl, 0, (k : Int), rfl, ?_⟩
      rw [List.getD_eq_getElem?_getD, List.getElem?_eq_none hk] at q
      exact q
end
end Hr
/-! ### how often a sign stands in a text; a sign so many times -/
namespace Hr
open PySem PySem.Spec PyProof.Rows L2
open PySem.Builtin PySem.Builtin.Str in
theorem occ_run (x : Str) (c : Nat) : ∀ (m a : Nat) (acc : Array Nat) (free : Nat), a + m = x.length + 1 → free ≤ a → acc.size ≤ a →
    (forIn (List.range' a m) (acc, free) (StrLaws.occBody x ⟨#[c]⟩ x.length (x.length + 1))).run.fst.size = acc.size + ((x.cps.toList.drop a).filter fun k => k == c).length
  | 0, a, acc, free, e, _, _ => by
    have : x.cps.toList.drop a = [] := List.drop_eq_nil_of_le (by
      have : x.cps.toList.length = x.length := rfl
      omega)
    rw [this]
    rfl
  | m + 1, a, acc, free, e, hf, hs => by
    rw [List.range'_succ, List.forIn_cons]
    unfold StrLaws.occBody
    by_cases hc : x.cps.toList[a]? = some c
    · obtain ⟨h1, h2⟩ := (StrLaws.subAt_one x c a).mpr hc
      rw [if_pos ⟨⟨⟨(show acc.size < x.length + 1 by omega), hf⟩, h1⟩, h2⟩]
      have ih := occ_run x c m (a + 1) (acc.push a) (a + (⟨#[c]⟩ : Str).length) (by omega) (Nat.le_refl _) (by rw [Array.size_push]; omega)
      have hlt : a < x.cps.toList.length := (List.getElem?_eq_some_iff.mp hc).1
      rw [List.drop_eq_getElem_cons hlt, List.filter_cons_of_pos (by rw [(List.getElem?_eq_some_iff.mp hc).2]; simp), List.length_cons]
      rw [Array.size_push] at ih
      exact ih.trans (by omega)
    · rw [if_neg (fun z => hc ((StrLaws.subAt_one x c a).mp ⟨z.1.2, z.2⟩))]
      have ih := occ_run x c m (a + 1) acc free (by omega) (by omega) (by omega)
      have hd : ((x.cps.toList.drop a).filter fun k => k == c).length = ((x.cps.toList.drop (a + 1)).filter fun k => k == c).length := by
        by_cases hlt : a < x.cps.toList.length
        · rw [List.drop_eq_getElem_cons hlt, List.filter_cons_of_neg (by
            intro z
            have z : x.cps.toList[a] = c := by simpa using z
            exact hc (by rw [List.getElem?_eq_getElem hlt, z]))]
        · rw [List.drop_eq_nil_of_le (by omega), List.drop_eq_nil_of_le (by omega)]
      rw [hd]
      exact ih
theorem count_one (x : Str) (c : Nat) : Txt.count x ⟨#[c]⟩ = ((x.cps.toList.filter fun k => k == c).length : Nat) := by
  have h := occ_run x c (x.length + 1) 0 #[] 0 (by omega) (Nat.le_refl _) (Nat.le_refl _)
  show (((Builtin.Str.occurrences x ⟨#[c]⟩ 0 x.length (x.length + 1)).length : Nat) : Int) = _
  rw [StrLaws.occ_eq, Array.length_toList]
  rw [show x.length + 1 - 0 = x.length + 1 from rfl]
  have h2 : ((#[] : Array Nat).size + ((x.cps.toList.drop 0).filter fun k => k == c).length) = (x.cps.toList.filter fun k => k == c).length := by
    rw [List.drop_zero]
    exact Nat.zero_add _
  exact congrArg (fun n : Nat => (n : Int)) (h.trans h2)
theorem count_u (l : List Bool) : Txt.count (txt l) ("u" : Str) = ((l.filter id).length : Nat) := by
  rw [eU, count_one]
  show ((((l.map code).filter fun k => k == 117).length : Nat) : Int) = _
  rw [List.filter_map, List.length_map]
  congr 2
  refine List.filter_congr fun b _ => ?_
  cases b <;> rfl
theorem rep_txt (b : Bool) : ∀ k, (⟨(List.replicate k (sgn b).cps).foldl (· ++ ·) #[]⟩ : Str) = txt (List.replicate k b)
  | k => by
    have h : ∀ (k : Nat) (acc : Array Nat), (List.replicate k (sgn b).cps).foldl (· ++ ·) acc = acc ++ (List.replicate k (code b)).toArray := by
      intro k
      induction k with
      | zero => intro acc; simp
      | succ k ih =>
        intro acc
        rw [List.replicate_succ, List.foldl_cons, ih, List.replicate_succ]
        apply Array.ext'
        show (acc ++ #[code b] ++ (List.replicate k (code b)).toArray).toList = (acc ++ (code b :: List.replicate k (code b)).toArray).toList
        rw [Array.toList_append, Array.toList_append, Array.toList_append, List.append_assoc]
        rfl
    rw [h]
    unfold txt
    rw [List.map_replicate]
    simp
theorem op_mul_sgn {X : Cx} : OpR X (binaryOp .Mult) (fun x y H Q => ∃ (b : Bool) (k : Nat), x = .str (sgn b) ∧ y = .int (k : Int) ∧ k ≤ 1000 ∧ Q (.str (txt (List.replicate k b))) H) := by
  intro pins s σ H x y v u Q I rx ry h
  obtain ⟨b, k, rfl, rfl, hk, q⟩ := h
  obtain ⟨t, rfl⟩ := rx
  obtain ⟨t', rfl⟩ := ry
  have hz : ((sgn b).length : Int) = 1 := rfl
  refine PySem.P.mul_str ?_ (fun h1 _ => ?_) (fun h1 _ => ?_) ?_
  · rw [decide_eq_false (by omega), decide_eq_false (by omega)]
    rfl
  · rw [hz]
    have h3 : (1 : Int) ≤ (2 ^ 63 - 1) / (k : Int) := by
      refine (Int.le_ediv_iff_mul_le (by omega)).mpr ?_
      omega
    omega
  · rw [Int.toNat_natCast]
    show decide (sizeLine < 1 * k) = false
    exact decide_eq_false (by have := sz (show k ≤ 1000000 by omega); omega)
  · by_cases h1 : (k : Int) < 1
    · rw [if_pos h1]
      have e0 : k = 0 := by omega
      subst e0
      exact ⟨by decide, .str (txt []), H, I.tok _, ⟨_, rfl⟩, q⟩
    · rw [if_neg h1]
      by_cases h2 : ((k : Int) == 1 || (sgn b).length == 0) = true
      · rw [if_pos h2]
        have e1 : k = 1 := by
          have : (sgn b).length = 1 := rfl
          rw [this] at h2
          simp at h2
          omega
        subst e1
        exact ⟨.str (sgn b), H, I, ⟨_, rfl⟩, q⟩
      · rw [if_neg h2, Int.toNat_natCast, rep_txt]
        refine ⟨?_, .str (txt (List.replicate k b)), H, I.tok _, ⟨_, rfl⟩, q⟩
        rw [txt_len, List.length_replicate]
        exact sz (by omega)
end Hr
/-! ### the law's own hill row -/
namespace Hr
open PySem PySem.Spec PyProof.Rows L2
theorem scLRow : FnScope ["_law_script", "_law_ceiling", "_law_ups", "_law_row_here", "_law_height", "_law_k", "_law_mark"] ["_law_script", "_law_ceiling"] (defScope sLRow) := ⟨rfl, rfl, rfl, by decide +kernel, rfl, by decide +kernel, by decide +kernel⟩
theorem cut_map (ns : List Int) (lo hi : Option Int) : ∃ ms : List Int, cutV (ns.map V.int) lo hi = ms.map V.int := by
  unfold cutV
  exact ⟨_, by rw [← List.map_drop, ← List.map_take]⟩
theorem eqv_nil : ∀ ns : List Int, PyData.eqv (.list (ns.map PyData.int)) (.list []) = decide (ns = [])
  | [] => rfl
  | _ :: _ => rfl
/-- a ceiling that is not 0 -/
def cPos : Option Nat → Prop
  | none => True
  | some k => 1 ≤ k
section
variable {P : Program} {w : World} {K : PySem.W.Frag} {mg : Str → Option Value} {base : Heap}
def spLRow (K : PySem.W.Frag) : Sp := fun vs H Q _ => ∃ (a : Addr) (ns : List Int) (c : Option Nat), vs = [.ref a, cV c] ∧ SqL K H a (ns.map V.int) ∧ ns.length ≤ 63 ∧ cPos c ∧ ∀ H' l n, Same H H' → Hill c n l → n ≤ 60 → Q (.str (txt l)) H'
theorem cal_lrow (D : Def K mg "_law_row" sLRow ["_law_script", "_law_ceiling"]) (C : Cal K mg CX0 P w base 1 "_law_mixed" [] spMixed) (mlen : mg "len" = none) (mmin : mg "min" = none) (mmax : mg "max" = none) (msum : mg "sum" = none) (mrange : mg "range" = none) : Cal K mg CX0 P w base 2 "_law_row" [] (spLRow K) := by
  refine D.cal scLRow (fun vs H Q E h => ?_) (fun f cdv A outer s H vs Q E hr h => ?_)
  · obtain ⟨a, ns, c, rfl, _⟩ := h
    rfl
  · obtain ⟨a, ns, c, rfl, hS, hlen, hcp, q⟩ := h
    have nd := scLRow.nd
    refine ⟨_, pss_cons (ps_set (i := 2) nd rfl (.inl rfl) (pe_callB (call_min2 rfl) (by rfl) mmin boot_min (pa_cons pe_int (pa_cons (pe_callB (call_max2 rfl) (by rfl) mmax boot_max (pa_cons (pe_op op_fdiv (pe_callB call_len_seq (by rfl) mlen PySem.boot_len (pa_cons (pv 0) pa_nil)) pe_int)
        (pa_cons (pe_op op_mod (pe_op op_fdiv (pe_c C hr (pa_cons (pe_callB (cr_sum rfl) (by rfl) msum (by decide +kernel) (pa_cons (pe_slice sl_list (pv 0) po_none (po_some pe_int)) pa_nil)) (pa_cons (pe_callB call_len_seq (by rfl) mlen PySem.boot_len (pa_cons (pv 0) pa_nil)) pa_nil))) pe_int) pe_int) pa_nil))) pa_nil))))
      (pss_cons (ps_set (i := 3) nd rfl (.inl rfl) pe_str) (pss_cons (ps_set (i := 4) nd rfl (.inl rfl) pe_int)
      (pss_cons (ps_for PassesOwn.never rfl (pi_range1 (by rfl) mrange (pa_cons (pe_op op_mul pe_int (pv 2)) pa_nil)) (pg_name (i := 5) nd rfl (.inl rfl))
        (pss_cons (ps_set (i := 6) nd rfl (.inl rfl) (pe_c C hr (pa_cons (pe_ifExp (pt_cmpR (op_neD hr.units) (pv 0) (pe_lst pa_nil) (nomark _)) (pe_ix ix_list (pv 0) (pe_op op_mod (pv 5) (pe_callB call_len_seq (by rfl) mlen PySem.boot_len (pa_cons (pv 0) pa_nil))) (fun _ _ => rfl)) pe_int) (pa_cons (pv 5) pa_nil))))
        (pss_one (ps_if (PW.pt (pw_or (pt_cmpR op_eq (pv 4) pe_int (nomark _)) (pw_or1 (PW.pt (pw_and (pt_cmpR op_lt (pe_m1 PySem.F.slot_str_count PySem.F.type_str_count mt_count (pv 3) pe_str) (pv 2) (nomark _)) (pw_and (pt_cmpR op_ne (pv 4) (pv 1) (nomark _)) (pw_and1 (pt_cmpR op_gt (pe_op op_mod (pv 6) pe_int) pe_int (nomark _)))))))))
          (pss_cons (ps_set (i := 3) nd rfl (.inl rfl) (pe_op op_add_str (pv 3) pe_str)) (pss_one (ps_set (i := 4) nd rfl (.inl rfl) (pe_op op_add (pv 4) pe_int))))
          (pss_cons (ps_set (i := 3) nd rfl (.inl rfl) (pe_op op_add_str (pv 3) pe_str)) (pss_one (ps_set (i := 4) nd rfl (.inl rfl) (pe_op op_sub (pv 4) pe_int))))))))
      (pss_one (ps_ret (pv 3)))))), ?_⟩
    refine ⟨.ref a, rfl, a, _, rfl, .inl hS, _, 2, rfl, rfl, ⟨by decide, by decide⟩, ?_⟩
    refine ⟨.ref a, rfl, 2, rfl, a, ns.map V.int, rfl, hS, fun p1 n1 => ?_⟩
    obtain ⟨ms, ems⟩ := cut_map ns none (some 2)
    rw [ems]
    have s1 := same_upd (o := .lst (ms.map V.int)) n1
    have S2 : SqL K (upd H p1 (.lst (ms.map V.int))) p1 (ms.map V.int) := .inl (.inl upd_same)
    generalize upd H p1 (.lst (ms.map V.int)) = H1 at s1 S2 ⊢
    refine ⟨p1, ms, rfl, S2, .ref a, rfl, a, _, rfl, .inl (s1.seq hS), _, _, rfl, ?_⟩
    generalize hmx : mixed ms.sum _ = mx
    have hm0 : 0 ≤ mx := hmx ▸ mixed_nonneg _ _
    refine ⟨mx, 7, rfl, rfl, ⟨by decide, by decide⟩, mx / 7, 61, rfl, rfl, (by show (0 : Int) < 61; decide), _, _, rfl, _, _, rfl, ?_⟩
    obtain ⟨u, eu, hu⟩ : ∃ u : Nat, (if (if (mx / 7 % 61 : Int) > ((ns.map V.int).length : Int) / 2 then (mx / 7 % 61 : Int) else ((ns.map V.int).length : Int) / 2) < 60 then (if (mx / 7 % 61 : Int) > ((ns.map V.int).length : Int) / 2 then (mx / 7 % 61 : Int) else ((ns.map V.int).length : Int) / 2) else 60) = (u : Int) ∧ u ≤ 60 := by
      refine ⟨(if (if (mx / 7 % 61 : Int) > ((ns.map V.int).length : Int) / 2 then (mx / 7 % 61 : Int) else ((ns.map V.int).length : Int) / 2) < 60 then (if (mx / 7 % 61 : Int) > ((ns.map V.int).length : Int) / 2 then (mx / 7 % 61 : Int) else ((ns.map V.int).length : Int) / 2) else 60).toNat, ?_, ?_⟩ <;> split <;> split <;> omega
    show gName 2 (V.int (if (if (mx / 7 % 61 : Int) > ((ns.map V.int).length : Int) / 2 then (mx / 7 % 61 : Int) else ((ns.map V.int).length : Int) / 2) < 60 then (if (mx / 7 % 61 : Int) > ((ns.map V.int).length : Int) / 2 then (mx / 7 % 61 : Int) else ((ns.map V.int).length : Int) / 2) else 60)) _ _ _
    rw [eu]
    have hS1 := s1.seq hS
    refine ⟨_, rfl, 2, (u : Int), rfl, rfl, .inl ⟨by decide, by decide⟩, 2 * (u : Int), rfl, by omega, by omega, ?_⟩
    refine for_range (lo := 0) (n := 2 * u) (fun i σ H' => ∃ (z : Str) (hh : Int) (l : List Bool) (h : Nat) (y5 y6 : Option V), σ = [some (.ref a), some (cV c), some (.int (u : Int)), some (.str z), some (.int hh), y5, y6] ∧ Same H H' ∧
      z = txt l ∧ hh = (h : Int) ∧ l.length = i ∧ h + i = 2 * (l.filter id).length ∧ (l.filter id).length ≤ u ∧ (∀ k, c = some k → h ≤ k) ∧ ∀ r, okb c h r = okb c 0 (l ++ r)) ?_ ?_ ?_
    · exact ⟨_, _, [], 0, none, none, rfl, s1, eE, rfl, rfl, rfl, Nat.zero_le _, fun k _ => Nat.zero_le _, fun r => rfl⟩
    · rintro i σ H2 hi ⟨z, hh, l, h, y5, y6, rfl, s2, ez, eh, el, eu2, hu2, hc, ok⟩
      have hS2 := s2.seq hS
      have hz1 : z.length + 1 ≤ sizeLine := sz (by rw [ez, txt_len]; omega)
      -- the mark
      refine ⟨.ref a, rfl, Nat.zero_le _, fun p2 n2 => ?_⟩
      have s3 := same_upd (o := .lst []) n2
      have s2 := s2.trans s3
      have hS2 := s3.seq hS2
      have hE : SqL K (upd H2 p2 (.lst [])) p2 ([] : List V) := .inl (.inl upd_same)
      generalize upd H2 p2 (.lst []) = H3 at s2 hS2 hE ⊢
      refine ⟨.list (ns.map PyData.int), .list [], .lst hS2 (dp_ints ns), .lst hE .nil, sh_ints ns, sh_ints [], _, rfl, ?_⟩
      rw [eqv_nil]
      by_cases hns : ns = []
      · rw [decide_eq_true hns]
        refine iteF ?_
        refine ⟨_, rfl, _, _, rfl, ?_⟩
        generalize mixed 0 _ = mk
        refine ⟨_, rfl, rfl, _, rfl, ite2 (fun e0 => ?_) (fun e0 => ?_)⟩
        · have h0 : h = 0 := by
            have := V.int.inj (of_decide_eq_true e0)
            omega
          have un : ∀ k, c = some k → h < k := fun k hk => by
            rw [hk] at hcp
            have : 1 ≤ k := hcp
            omega
          have ub : under c h = true := by
            cases c with
            | none => rfl
            | some k => exact decide_eq_true (un k rfl)
          refine iteT ?_
          refine ⟨_, rfl, z, "u", rfl, rfl, hz1, ?_⟩
          refine ⟨_, rfl, hh, 1, rfl, rfl, ?_⟩
          exact ⟨_, _, l ++ [true], h + 1, _, _, rfl, s2, by rw [ez, ← txt_append, ← sgn_u]; rfl, by show hh + 1 = _; omega, by rw [List.length_append, el]; rfl, by rw [List.filter_append, List.length_append]; show _ = 2 * (_ + 1); omega, by rw [List.filter_append, List.length_append]; show _ + 1 ≤ u; omega, fun k hk => by have := un k hk; omega, fun r => by
            rw [List.append_assoc]
            show _ = okb c 0 (l ++ (true :: r))
            rw [← ok (true :: r)]
            show _ = (under c h && okb c (h + 1) r)
            rw [ub, Bool.true_and]⟩
        · have h0 : h ≠ 0 := fun zz => e0 (decide_eq_true (by rw [eh, zz]; rfl))
          refine ⟨.str z, rfl, ⟨_, rfl⟩, z, "u", rfl, rfl, .int (u : Int), rfl, _, _, rfl, rfl, _, rfl, ?_⟩
          rw [ez, count_u, ← ez]
          refine ite2 (fun e1 => ?_) (fun e1 => ?_)
          · have u1 : (l.filter id).length < u := by
              have := of_decide_eq_true e1
              omega
            refine ⟨.int hh, rfl, cV c, rfl, by cases c <;> rfl, _, rfl, ite2 (fun e2 => ?_) (fun e2 => ?_)⟩
            · have un : ∀ k, c = some k → h < k := fun k hk => by
                have h1 := hc k hk
                have h2 : ¬ (V.int hh = cV c) := by simpa using e2
                rw [hk] at h2
                have : ¬ hh = (k : Int) := fun zz => h2 (by rw [zz]; rfl)
                omega
              have ub : under c h = true := by
                cases c with
                | none => rfl
                | some k => exact decide_eq_true (un k rfl)
              refine ⟨_, rfl, mk, 5, rfl, rfl, (by show (0 : Int) < 5; decide), _, _, rfl, rfl, _, rfl, ite2 (fun e3 => ?_) (fun e3 => ?_)⟩
              · skip
                refine ⟨_, rfl, z, "u", rfl, rfl, hz1, ?_⟩
                refine ⟨_, rfl, hh, 1, rfl, rfl, ?_⟩
                exact ⟨_, _, l ++ [true], h + 1, _, _, rfl, s2, by rw [ez, ← txt_append, ← sgn_u]; rfl, by show hh + 1 = _; omega, by rw [List.length_append, el]; rfl, by rw [List.filter_append, List.length_append]; show _ = 2 * (_ + 1); omega, by rw [List.filter_append, List.length_append]; show _ + 1 ≤ u; omega, fun k hk => by have := un k hk; omega, fun r => by
                  rw [List.append_assoc]
                  show _ = okb c 0 (l ++ (true :: r))
                  rw [← ok (true :: r)]
                  show _ = (under c h && okb c (h + 1) r)
                  rw [ub, Bool.true_and]⟩
              · skip
                refine ⟨_, rfl, z, "d", rfl, rfl, hz1, ?_⟩
                refine ⟨_, rfl, hh, 1, rfl, rfl, ?_⟩
                exact ⟨_, _, l ++ [false], h - 1, _, _, rfl, s2, by rw [ez, ← txt_append, ← sgn_d]; rfl, by show hh - 1 = _; omega, by rw [List.length_append, el]; rfl, by rw [List.filter_append, List.length_append]; show _ = 2 * (_ + 0); omega, by rw [List.filter_append, List.length_append]; show _ + 0 ≤ u; omega, fun k hk => by have := hc k hk; omega, fun r => by
                  rw [List.append_assoc]
                  show _ = okb c 0 (l ++ (false :: r))
                  rw [← ok (false :: r)]
                  show _ = ((h != 0) && okb c (h - 1) r)
                  rw [show (h != 0) = true by simpa using h0, Bool.true_and]⟩
            · refine iteF ?_
              refine ⟨_, rfl, z, "d", rfl, rfl, hz1, ?_⟩
              refine ⟨_, rfl, hh, 1, rfl, rfl, ?_⟩
              exact ⟨_, _, l ++ [false], h - 1, _, _, rfl, s2, by rw [ez, ← txt_append, ← sgn_d]; rfl, by show hh - 1 = _; omega, by rw [List.length_append, el]; rfl, by rw [List.filter_append, List.length_append]; show _ = 2 * (_ + 0); omega, by rw [List.filter_append, List.length_append]; show _ + 0 ≤ u; omega, fun k hk => by have := hc k hk; omega, fun r => by
                rw [List.append_assoc]
                show _ = okb c 0 (l ++ (false :: r))
                rw [← ok (false :: r)]
                show _ = ((h != 0) && okb c (h - 1) r)
                rw [show (h != 0) = true by simpa using h0, Bool.true_and]⟩
          · refine iteF ?_
            refine ⟨_, rfl, z, "d", rfl, rfl, hz1, ?_⟩
            refine ⟨_, rfl, hh, 1, rfl, rfl, ?_⟩
            exact ⟨_, _, l ++ [false], h - 1, _, _, rfl, s2, by rw [ez, ← txt_append, ← sgn_d]; rfl, by show hh - 1 = _; omega, by rw [List.length_append, el]; rfl, by rw [List.filter_append, List.length_append]; show _ = 2 * (_ + 0); omega, by rw [List.filter_append, List.length_append]; show _ + 0 ≤ u; omega, fun k hk => by have := hc k hk; omega, fun r => by
              rw [List.append_assoc]
              show _ = okb c 0 (l ++ (false :: r))
              rw [← ok (false :: r)]
              show _ = ((h != 0) && okb c (h - 1) r)
              rw [show (h != 0) = true by simpa using h0, Bool.true_and]⟩
      · rw [decide_eq_false hns]
        refine iteT ?_
        have hpos : 0 < ns.length := List.length_pos_iff.mpr hns
        have hml : (ns.map V.int).length = ns.length := List.length_map ..
        obtain ⟨j, ej, hj⟩ : ∃ j : Nat, (0 + (i : Int)) % ((ns.map V.int).length : Int) = (j : Int) ∧ j < ns.length := by
          have h1 := Int.emod_nonneg (0 + (i : Int)) (show ((ns.map V.int).length : Int) ≠ 0 by omega)
          have h2 := Int.emod_lt_of_pos (0 + (i : Int)) (show 0 < ((ns.map V.int).length : Int) by omega)
          exact ⟨((0 + (i : Int)) % ((ns.map V.int).length : Int)).toNat, by omega, by omega⟩
        refine ⟨.ref a, rfl, _, rfl, .ref a, rfl, a, _, rfl, .inl hS2, _, _, rfl, rfl, (by show (0 : Int) < ((ns.map V.int).length : Int); omega), a, _, _, .int ns[j], rfl, rfl, hS2, at_of ej (by rw [List.getElem?_map, List.getElem?_eq_getElem hj]; rfl), ?_⟩
        refine ⟨_, rfl, _, _, rfl, ?_⟩
        generalize mixed ns[j] _ = mk
        refine ⟨_, rfl, rfl, _, rfl, ite2 (fun e0 => ?_) (fun e0 => ?_)⟩
        · have h0 : h = 0 := by
            have := V.int.inj (of_decide_eq_true e0)
            omega
          have un : ∀ k, c = some k → h < k := fun k hk => by
            rw [hk] at hcp
            have : 1 ≤ k := hcp
            omega
          have ub : under c h = true := by
            cases c with
            | none => rfl
            | some k => exact decide_eq_true (un k rfl)
          refine iteT ?_
          refine ⟨_, rfl, z, "u", rfl, rfl, hz1, ?_⟩
          refine ⟨_, rfl, hh, 1, rfl, rfl, ?_⟩
          exact ⟨_, _, l ++ [true], h + 1, _, _, rfl, s2, by rw [ez, ← txt_append, ← sgn_u]; rfl, by show hh + 1 = _; omega, by rw [List.length_append, el]; rfl, by rw [List.filter_append, List.length_append]; show _ = 2 * (_ + 1); omega, by rw [List.filter_append, List.length_append]; show _ + 1 ≤ u; omega, fun k hk => by have := un k hk; omega, fun r => by
            rw [List.append_assoc]
            show _ = okb c 0 (l ++ (true :: r))
            rw [← ok (true :: r)]
            show _ = (under c h && okb c (h + 1) r)
            rw [ub, Bool.true_and]⟩
        · have h0 : h ≠ 0 := fun zz => e0 (decide_eq_true (by rw [eh, zz]; rfl))
          refine ⟨.str z, rfl, ⟨_, rfl⟩, z, "u", rfl, rfl, .int (u : Int), rfl, _, _, rfl, rfl, _, rfl, ?_⟩
          rw [ez, count_u, ← ez]
          refine ite2 (fun e1 => ?_) (fun e1 => ?_)
          · have u1 : (l.filter id).length < u := by
              have := of_decide_eq_true e1
              omega
            refine ⟨.int hh, rfl, cV c, rfl, by cases c <;> rfl, _, rfl, ite2 (fun e2 => ?_) (fun e2 => ?_)⟩
            · have un : ∀ k, c = some k → h < k := fun k hk => by
                have h1 := hc k hk
                have h2 : ¬ (V.int hh = cV c) := by simpa using e2
                rw [hk] at h2
                have : ¬ hh = (k : Int) := fun zz => h2 (by rw [zz]; rfl)
                omega
              have ub : under c h = true := by
                cases c with
                | none => rfl
                | some k => exact decide_eq_true (un k rfl)
              refine ⟨_, rfl, mk, 5, rfl, rfl, (by show (0 : Int) < 5; decide), _, _, rfl, rfl, _, rfl, ite2 (fun e3 => ?_) (fun e3 => ?_)⟩
              · skip
                refine ⟨_, rfl, z, "u", rfl, rfl, hz1, ?_⟩
                refine ⟨_, rfl, hh, 1, rfl, rfl, ?_⟩
                exact ⟨_, _, l ++ [true], h + 1, _, _, rfl, s2, by rw [ez, ← txt_append, ← sgn_u]; rfl, by show hh + 1 = _; omega, by rw [List.length_append, el]; rfl, by rw [List.filter_append, List.length_append]; show _ = 2 * (_ + 1); omega, by rw [List.filter_append, List.length_append]; show _ + 1 ≤ u; omega, fun k hk => by have := un k hk; omega, fun r => by
                  rw [List.append_assoc]
                  show _ = okb c 0 (l ++ (true :: r))
                  rw [← ok (true :: r)]
                  show _ = (under c h && okb c (h + 1) r)
                  rw [ub, Bool.true_and]⟩
              · skip
                refine ⟨_, rfl, z, "d", rfl, rfl, hz1, ?_⟩
                refine ⟨_, rfl, hh, 1, rfl, rfl, ?_⟩
                exact ⟨_, _, l ++ [false], h - 1, _, _, rfl, s2, by rw [ez, ← txt_append, ← sgn_d]; rfl, by show hh - 1 = _; omega, by rw [List.length_append, el]; rfl, by rw [List.filter_append, List.length_append]; show _ = 2 * (_ + 0); omega, by rw [List.filter_append, List.length_append]; show _ + 0 ≤ u; omega, fun k hk => by have := hc k hk; omega, fun r => by
                  rw [List.append_assoc]
                  show _ = okb c 0 (l ++ (false :: r))
                  rw [← ok (false :: r)]
                  show _ = ((h != 0) && okb c (h - 1) r)
                  rw [show (h != 0) = true by simpa using h0, Bool.true_and]⟩
            · refine iteF ?_
              refine ⟨_, rfl, z, "d", rfl, rfl, hz1, ?_⟩
              refine ⟨_, rfl, hh, 1, rfl, rfl, ?_⟩
              exact ⟨_, _, l ++ [false], h - 1, _, _, rfl, s2, by rw [ez, ← txt_append, ← sgn_d]; rfl, by show hh - 1 = _; omega, by rw [List.length_append, el]; rfl, by rw [List.filter_append, List.length_append]; show _ = 2 * (_ + 0); omega, by rw [List.filter_append, List.length_append]; show _ + 0 ≤ u; omega, fun k hk => by have := hc k hk; omega, fun r => by
                rw [List.append_assoc]
                show _ = okb c 0 (l ++ (false :: r))
                rw [← ok (false :: r)]
                show _ = ((h != 0) && okb c (h - 1) r)
                rw [show (h != 0) = true by simpa using h0, Bool.true_and]⟩
          · refine iteF ?_
            refine ⟨_, rfl, z, "d", rfl, rfl, hz1, ?_⟩
            refine ⟨_, rfl, hh, 1, rfl, rfl, ?_⟩
            exact ⟨_, _, l ++ [false], h - 1, _, _, rfl, s2, by rw [ez, ← txt_append, ← sgn_d]; rfl, by show hh - 1 = _; omega, by rw [List.length_append, el]; rfl, by rw [List.filter_append, List.length_append]; show _ = 2 * (_ + 0); omega, by rw [List.filter_append, List.length_append]; show _ + 0 ≤ u; omega, fun k hk => by have := hc k hk; omega, fun r => by
              rw [List.append_assoc]
              show _ = okb c 0 (l ++ (false :: r))
              rw [← ok (false :: r)]
              show _ = ((h != 0) && okb c (h - 1) r)
              rw [show (h != 0) = true by simpa using h0, Bool.true_and]⟩
    · rintro σ H2 ⟨z, hh, l, h, y5, y6, rfl, s2, ez, eh, el, eu2, hu2, hc, ok⟩
      refine ⟨_, rfl, ?_⟩
      have h0 : h = 0 := by omega
      have := ok []
      rw [List.append_nil, h0] at this
      rw [ez]
      exact q H2 l u s2 ⟨this.symm, el⟩ hu
end
end Hr
namespace Hr
open PySem PySem.Spec PyProof.Rows L2
/-- the eight classes by their numbers -/
def eight (c0 c1 c2 c3 c4 c5 c6 c7 : Addr) : Nat → Addr
  | 0 => c0 | 1 => c1 | 2 => c2 | 3 => c3 | 4 => c4 | 5 => c5 | 6 => c6 | _ => c7
theorem kit_eight {K : PySem.W.Frag} {t : Value} {k : Nat} {c0 c1 c2 c3 c4 c5 c6 c7 : Addr} (h0 : PySem.W.kitOne K t (.ref c0) = some (decide (0 = k))) (h1 : PySem.W.kitOne K t (.ref c1) = some (decide (1 = k))) (h2 : PySem.W.kitOne K t (.ref c2) = some (decide (2 = k)))
    (h3 : PySem.W.kitOne K t (.ref c3) = some (decide (3 = k))) (h4 : PySem.W.kitOne K t (.ref c4) = some (decide (4 = k))) (h5 : PySem.W.kitOne K t (.ref c5) = some (decide (5 = k))) (h6 : PySem.W.kitOne K t (.ref c6) = some (decide (6 = k))) (h7 : PySem.W.kitOne K t (.ref c7) = some (decide (7 = k))) :
    ∀ j, j < 8 → PySem.W.kitOne K t (.ref (eight c0 c1 c2 c3 c4 c5 c6 c7 j)) = some (decide (j = k))
  | 0, _ => h0 | 1, _ => h1 | 2, _ => h2 | 3, _ => h3 | 4, _ => h4 | 5, _ => h5 | 6, _ => h6 | 7, _ => h7
  | j + 8, h => absurd h (by omega)
end Hr
/-! ### rows that are none; lists and tuples as data -/
namespace Hr
open PySem PySem.Spec PyProof.Rows L2
theorem isRowB_append (a b : Str) : isRowB (a ++ b) = (isRowB a && isRowB b) := by
  show (a ++ b).cps.toList.all isS = _
  rw [show (a ++ b).cps.toList = a.cps.toList ++ b.cps.toList from TL.tl_append a b, List.all_append]
  rfl
theorem okb_any {c : Option Nat} : ∀ {l : List Bool} {h : Nat}, okb c h l = true → okb none h l = true
  | [], _, e => e
  | true :: l, h, e => by
    show (true && okb none (h + 1) l) = true
    rw [Bool.true_and]
    exact okb_any (okb_up e).2
  | false :: l, h, e => by
    obtain ⟨a, b⟩ := okb_down e
    show ((h != 0) && okb none (h - 1) l) = true
    rw [okb_any b, Bool.and_true]
    simpa using a
theorem hill_ext {l : List Bool} (h : okb none 0 l = true) (r : List Bool) : okb none 0 (l ++ r) = okb none 0 r := by
  have := okb_app (r := r) (h := 0) h
  rw [Nat.add_zero] at this
  exact this
theorem eu1 : ("u" : Str) = txt [true] := by decide +kernel
theorem ed1 : ("d" : Str) = txt [false] := by decide +kernel
theorem edu : ("du" : Str) = txt [false, true] := by decide +kernel
theorem eud : ("ud" : Str) = txt [true, false] := by decide +kernel
theorem enil : ("" : Str) = txt [] := by decide +kernel
theorem wrong_u {l : List Bool} (h : okb none 0 l = true) : hillB none (txt l ++ "u") = false := by
  rw [eu1, txt_append, hillB_txt, hill_ext h]
  rfl
theorem wrong_d (l : List Bool) : hillB none ("d" ++ txt l) = false := by
  rw [ed1, txt_append, hillB_txt]
  rfl
theorem wrong_ux (l : List Bool) : hillB none (txt l ++ "ux") = false := by
  unfold hillB
  rw [isRowB_append, show isRowB "ux" = false by decide +kernel, Bool.and_false, Bool.false_and]
theorem wrong_x (l : List Bool) : hillB none (txt l ++ "x") = false := by
  unfold hillB
  rw [isRowB_append, show isRowB "x" = false by decide +kernel, Bool.and_false, Bool.false_and]
theorem wrong_du {l : List Bool} (h : okb none 0 l = true) : hillB none (txt l ++ "du") = false := by
  rw [edu, txt_append, hillB_txt, hill_ext h]
  rfl
theorem row_hillB {l : List Bool} (h : okb none 0 l = true) : hillB none (txt l) = true := (hillB_txt none l).trans h
theorem cut_ints (ns : List Int) (lo hi : Option Int) : ∃ ms : List Int, cutV (ns.map V.int) lo hi = ms.map V.int ∧ ms.length ≤ ns.length := by
  refine ⟨(ns.drop (HT.sIx (ns.map V.int).length 0 lo)).take (HT.sIx (ns.map V.int).length (ns.map V.int).length hi - HT.sIx (ns.map V.int).length 0 lo), ?_, ?_⟩
  · unfold cutV
    rw [List.map_take, List.map_drop]
  · rw [List.length_take, List.length_drop]
    omega
theorem rev_ints (ns : List Int) : (ns.map V.int).reverse = ns.reverse.map V.int := (List.map_reverse ..).symm
theorem same_data {d : PyData} (h : SeqAt.shaped d = true) : PyData.eqv d d = true := SeqAt.eqv_refl d (SeqAt.canLay_of_shaped h)
theorem str_ok (l : List Bool) : PyData.strOk (txt l) = true := by
  show (l.map code).toArray.all (· < 0x110000) = true
  rw [List.all_toArray, List.all_eq_true]
  intro c hc
  obtain ⟨b, _, rfl⟩ := List.mem_map.mp hc
  cases b <;> rfl
theorem sh_pair (x y : List Bool) : SeqAt.shaped (.tuple [.str (txt x), .str (txt y)]) = true := by
  show ((PyData.strOk (txt x) && (PyData.strOk (txt y) && true)) && decide (max 0 (max 0 0) + 1 ≤ 64)) = true
  rw [str_ok, str_ok]
  rfl
theorem sh_nil : SeqAt.shaped (.list []) = true := by decide +kernel
end Hr
/-! ### x.replace(y, z) where y and z are put together from texts of the module -/
namespace Hr
open PySem PySem.Spec PyProof.Rows L2
section
variable {X : Cx} {o e1 e2 : Expr} {to : TE} {a b c : Str} {x y z : Str} {t u v : Tok} {p1 p2 p3 pos apos : Pos}
/-- a text just made: its token is new -/
def PFr (X : Cx) (e : Expr) (z : Str) : Prop := ∀ (pins : List (Addr × Obj)) (s : Shared) (σ : L2.St) (H : Hp) (Q : Value → Shared → Prop), Inv X pins σ H s →
  (∀ (t : Nat) (s1 : Shared), s.toks ≤ t → t < s1.toks → Inv X pins σ H s1 → Q (.str z t) s1) → wpAny (model X.prog X.w) X.A (eval e X.env) Q X.xe s
theorem pf_nn (ga : Gl X a) (ma : X.mg a = some (.str x t)) (gb : Gl X b) (mb : X.mg b = some (.str y u)) (hx : (x.length == 0) = false := by decide) (hy : (y.length == 0) = false := by decide) (hz : (x ++ y).length ≤ sizeLine := by decide)
    (hda : (a == ("__debug__" : Str)) = false := by decide) (hdb : (b == ("__debug__" : Str)) = false := by decide) : PFr X (.BinOp (.Name a p1) .Add (.Name b p2) pos) (x ++ y) := by
  intro pins s σ H Q I h
  refine wpAny_BinOp (ld_glob I ga ma (ld_glob I gb mb ?_ hdb) hda)
  refine PySem.P.add_str ?_
  rw [hx, hy]
  exact ⟨hz, h s.toks _ (Nat.le_refl _) (Nat.lt_succ_self _) (I.tok _)⟩
theorem pf_fn (he : PFr X e1 x) (gb : Gl X b) (mb : X.mg b = some (.str y u)) (hx : (x.length == 0) = false := by decide) (hy : (y.length == 0) = false := by decide) (hz : (x ++ y).length ≤ sizeLine := by decide)
    (hdb : (b == ("__debug__" : Str)) = false := by decide) : PFr X (.BinOp e1 .Add (.Name b p2) pos) (x ++ y) := by
  intro pins s σ H Q I h
  refine wpAny_BinOp (he pins s σ H _ I fun t s1 h1 h2 I1 => ld_glob I1 gb mb ?_ hdb)
  refine PySem.P.add_str ?_
  rw [hx, hy]
  exact ⟨hz, h s1.toks _ (by omega) (Nat.lt_succ_self _) (I1.tok _)⟩
theorem pet_replG (ho : PET X o to) (h1 : PFr X e1 y) (h2 : PFr X e2 z) (hyz : (y == z) = false := by decide)
    (hst : starEach [e1, e2] X.env = [(false, eval e1 X.env), (false, eval e2 X.env)] := by rfl)
    (hbase : attributeBase o "replace" X.env (eval o X.env) = eval o X.env := by rfl) (hline : (apos.endLine == pos.line) = true := by rfl) :
    PET X (.Call (.Attribute o "replace" apos) [e1, e2] [] pos) (CwR.tReplC to y z) := by
  intro pins s σ H Q h0 I h
  refine PySem.Call_method2 hbase hst hline (wpAny_mono (PySem.wpAny_toks (ho pins s σ H _ h0 I h)) (fun v s1 q => ?_) fun _ _ z => z.2)
  obtain ⟨hk, v', H1, I1, r1, x, e1, hb, q⟩ := q
  subst e1
  obtain ⟨tx, e2⟩ := r1
  subst e2
  refine ⟨"str", _, PySem.F.plainAttrs_str, PySem.F.slot_str_replace, PySem.F.type_str_replace, typeIs_str _ _ _, (fun _ e => nomatch e), Calls.callWith_builtin rfl (Calls.evalArgs_plain (Calls.spliced_cons ?_))⟩
  refine h1 pins s1 σ H1 _ I1 fun t1 s2 a1 a2 I2 => Calls.spliced_cons (h2 pins s2 σ H1 _ I2 fun t2 s3 b1 b2 I3 => Calls.spliced_nil ?_)
  exact PySem.SC.replace (fun e => by have : (t1 : Nat) = 0 := e; omega) (fun e => by have : (t2 : Nat) = 0 := e; omega) (fun e => by have : (t1 : Nat) = t2 := e; omega) hyz hb fun t' k => ⟨.str (Txt.replace x y z), H1, I3.tok k, ⟨t', rfl⟩, q⟩
theorem pst_set {i : Nat} {n : Str} {e : Expr} {te : TE} {pos' : Pos} (hN : X.N.Nodup) (hi : X.N[i]? = some n) (hx : Loc X.env.scope n) (he : PET X e te) (hs : swapsWith e (some (.Name n pos')) pos.line X.env = pure false := by rfl) (hf : X.fn n = true ∨ X.env.scope.names.lookup n = some .local := by first | exact .inl rfl | exact .inr rfl | assumption) :
    PST X (.Assign [.Name n pos'] e pos) (tAsg te (gName i)) := by
  intro pins s σ H D h0 I h
  refine wpAny_Assign_Name (thn (he pins s σ H _ h0 I h) fun v s1 ⟨y, H1, I1, r1, q1⟩ => ?_) hs
  exact store_ok I1 hN hi hx r1 (fun s2 I2 => ⟨_, H1, I2, q1⟩) hf
end
end Hr
/-! ### runs of equal signs -/
namespace Hr
open PySem PySem.Spec PyProof.Rows L2
/-- a blank between signs that differ -/
def sep : List Bool → List Nat
  | [] => []
  | [c] => [code c]
  | c :: d :: r => if c = d then code c :: sep (d :: r) else code c :: 32 :: sep (d :: r)
/-- a blank into each ud -/
def rep1 : List Bool → List Nat
  | [] => []
  | [c] => [code c]
  | true :: false :: r => 117 :: 32 :: 100 :: rep1 r
  | true :: true :: r => 117 :: rep1 (true :: r)
  | false :: c :: r => 100 :: rep1 (c :: r)
theorem rep1_down (r : List Bool) : rep1 (false :: r) = 100 :: rep1 r := by
  cases r with
  | nil => rfl
  | cons c r => cases c <;> rfl
theorem rep1_upup (r : List Bool) : rep1 (true :: true :: r) = 117 :: rep1 (true :: r) := rfl
theorem repl_1 : ∀ (n : Nat) (l : List Bool), l.length ≤ n → StrLaws.replL [117, 100] [117, 32, 100] (l.map code) = rep1 l
  | _, [], _ => StrLaws.replL_nil
  | 0, _ :: _, h => absurd h (by simp)
  | n + 1, [c], _ => by
    have h : ¬ ((code c :: []).take ([117, 100] : List Nat).length = [117, 100]) := by cases c <;> decide
    show StrLaws.replL [117, 100] [117, 32, 100] (code c :: []) = _
    rw [StrLaws.replL_miss h, StrLaws.replL_nil]
    rfl
  | n + 1, true :: false :: r, h => by
    show StrLaws.replL [117, 100] [117, 32, 100] (117 :: 100 :: r.map code) = _
    rw [StrLaws.replL_hit (by simp) rfl]
    show [117, 32, 100] ++ StrLaws.replL [117, 100] [117, 32, 100] (r.map code) = _
    rw [repl_1 n r (by simp only [List.length_cons] at h; omega)]
    rfl
  | n + 1, true :: true :: r, h => by
    show StrLaws.replL [117, 100] [117, 32, 100] (117 :: 117 :: r.map code) = _
    have hm : ¬ (((117 : Nat) :: 117 :: r.map code).take ([117, 100] : List Nat).length = [117, 100]) := by
      show ¬ ([117, 117] = [117, 100])
      decide
    rw [StrLaws.replL_miss hm]
    have := repl_1 n (true :: r) (by simp only [List.length_cons] at h ⊢; omega)
    rw [rep1_upup, ← this]
    rfl
  | n + 1, false :: c :: r, h => by
    show StrLaws.replL [117, 100] [117, 32, 100] (100 :: (c :: r).map code) = _
    have hm : ¬ (((100 : Nat) :: (c :: r).map code).take ([117, 100] : List Nat).length = [117, 100]) := by
      intro e
      have := (List.cons.inj e).1
      cases this
    rw [StrLaws.replL_miss hm, repl_1 n (c :: r) (by simp only [List.length_cons] at h ⊢; omega), rep1_down]
abbrev rp2 (l : List Nat) : List Nat := StrLaws.replL [100, 117] [100, 32, 117] l
theorem rp2_117 (l : List Nat) : rp2 (117 :: l) = 117 :: rp2 l := StrLaws.replL_miss fun e => by
  have := (List.cons.inj e).1
  cases this
theorem rp2_32 (l : List Nat) : rp2 (32 :: l) = 32 :: rp2 l := StrLaws.replL_miss fun e => by
  have := (List.cons.inj e).1
  cases this
theorem rp2_100 (l : List Nat) : rp2 (100 :: 100 :: l) = 100 :: rp2 (100 :: l) := StrLaws.replL_miss fun e => by
  have e : [100, 100] = [100, 117] := e
  cases e
theorem rp2_hit (l : List Nat) : rp2 (100 :: 117 :: l) = 100 :: 32 :: 117 :: rp2 l := StrLaws.replL_hit (by simp) rfl
theorem repl_2 : ∀ (n : Nat) (l : List Bool), l.length ≤ n → rp2 (rep1 l) = sep l ∧ rp2 (100 :: rep1 l) = sep (false :: l)
  | _, [], _ => ⟨StrLaws.replL_nil, by decide⟩
  | 0, _ :: _, h => absurd h (by simp)
  | n + 1, [true], _ => ⟨by decide, by decide⟩
  | n + 1, true :: false :: r, h => by
    have ih := (repl_2 n r (by simp only [List.length_cons] at h; omega)).2
    constructor
    · show rp2 (117 :: 32 :: 100 :: rep1 r) = _
      rw [rp2_117, rp2_32, ih]
      rfl
    · show rp2 (100 :: 117 :: 32 :: 100 :: rep1 r) = _
      rw [rp2_hit, rp2_32, ih]
      rfl
  | n + 1, true :: true :: r, h => by
    have ih := (repl_2 n (true :: r) (by simp only [List.length_cons] at h ⊢; omega)).1
    constructor
    · show rp2 (117 :: rep1 (true :: r)) = _
      rw [rp2_117, ih]
      rfl
    · show rp2 (100 :: 117 :: rep1 (true :: r)) = _
      rw [rp2_hit, ih]
      rfl
  | n + 1, false :: r, h => by
    have ih := (repl_2 n r (by simp only [List.length_cons] at h; omega)).2
    constructor
    · rw [rep1_down]
      exact ih
    · rw [rep1_down, rp2_100, ih]
      rfl
/-- the runs of a row: sign and length -/
def grp : List Bool → List (Bool × Nat)
  | [] => []
  | c :: r => match grp r with
    | [] => [(c, 1)]
    | (d, n) :: g => if c = d then (d, n + 1) :: g else (c, 1) :: (d, n) :: g
def expd (g : List (Bool × Nat)) : List Bool := g.flatMap fun p => List.replicate p.2 p.1
theorem grp_ne (c : Bool) (r : List Bool) : ∃ n g, grp (c :: r) = (c, n + 1) :: g := by
  show ∃ n g, (match grp r with
    | [] => [(c, 1)]
    | (d, n) :: g => if c = d then (d, n + 1) :: g else (c, 1) :: (d, n) :: g) = _
  cases grp r with
  | nil => exact ⟨0, [], rfl⟩
  | cons p g =>
    obtain ⟨d, n⟩ := p
    by_cases e : c = d
    · subst e
      exact ⟨n, g, if_pos rfl⟩
    · exact ⟨0, (d, n) :: g, if_neg e⟩
theorem grp_same (c : Bool) (r : List Bool) {n : Nat} {g : List (Bool × Nat)} (h : grp (c :: r) = (c, n) :: g) : grp (c :: c :: r) = (c, n + 1) :: g := by
  show (match grp (c :: r) with
    | [] => [(c, 1)]
    | (d, n) :: g => if c = d then (d, n + 1) :: g else (c, 1) :: (d, n) :: g) = _
  rw [h]
  exact if_pos rfl
theorem grp_other {c d : Bool} (r : List Bool) (h : c ≠ d) : grp (c :: d :: r) = (c, 1) :: grp (d :: r) := by
  obtain ⟨n, g, e⟩ := grp_ne d r
  show (match grp (d :: r) with
    | [] => [(c, 1)]
    | (d, n) :: g => if c = d then (d, n + 1) :: g else (c, 1) :: (d, n) :: g) = _
  rw [e]
  exact if_neg h
theorem expd_grp : ∀ l : List Bool, expd (grp l) = l
  | [] => rfl
  | [c] => by cases c <;> rfl
  | c :: d :: r => by
    have ih := expd_grp (d :: r)
    by_cases e : c = d
    · subst e
      obtain ⟨n, g, e⟩ := grp_ne c r
      rw [grp_same c r e]
      rw [e] at ih
      show List.replicate (n + 1 + 1) c ++ expd g = _
      have ih : List.replicate (n + 1) c ++ expd g = c :: r := ih
      rw [List.replicate_succ, List.cons_append, ih]
    · rw [grp_other r e]
      show [c] ++ expd (grp (d :: r)) = _
      rw [ih]
      rfl
/-- neighbours differ, none is empty -/
def Alt : List (Bool × Nat) → Prop
  | [] => True
  | [p] => 1 ≤ p.2
  | p :: q :: r => 1 ≤ p.2 ∧ p.1 ≠ q.1 ∧ Alt (q :: r)
theorem alt_grp : ∀ l : List Bool, Alt (grp l)
  | [] => trivial
  | [c] => Nat.le_refl 1
  | c :: d :: r => by
    have ih := alt_grp (d :: r)
    obtain ⟨n, g, e⟩ := grp_ne d r
    by_cases h : c = d
    · subst h
      rw [grp_same c r e]
      rw [e] at ih
      cases g with
      | nil => exact (by omega : 1 ≤ n + 1 + 1)
      | cons q g => exact ⟨by show 1 ≤ n + 1 + 1; omega, ih.2.1, ih.2.2⟩
    · rw [grp_other r h]
      rw [e] at ih ⊢
      exact ⟨Nat.le_refl 1, h, ih⟩
def gtx (p : Bool × Nat) : Str := txt (List.replicate p.2 p.1)
theorem tl_txt (l : List Bool) : TL.tl (txt l) = l.map code := rfl
theorem sep_grp : ∀ l : List Bool, TL.joinL [32] ((grp l).map fun p => (List.replicate p.2 p.1).map code) = sep l
  | [] => rfl
  | [c] => by cases c <;> rfl
  | c :: d :: r => by
    have ih := sep_grp (d :: r)
    obtain ⟨n, g, e⟩ := grp_ne d r
    by_cases h : c = d
    · subst h
      rw [grp_same c r e]
      rw [e] at ih
      have es : sep (c :: c :: r) = code c :: sep (c :: r) := if_pos rfl
      rw [es, ← ih]
      cases g with
      | nil => rfl
      | cons q g => rfl
    · rw [grp_other r h]
      rw [e] at ih ⊢
      have es : sep (c :: d :: r) = code c :: 32 :: sep (d :: r) := if_neg h
      rw [es, ← ih]
      cases g with
      | nil => rfl
      | cons q g => rfl
/-- what equal_signs makes of a row -/
theorem equal_txt (l : List Bool) (h : l ≠ []) : Txt.split (Txt.replace (Txt.replace (txt l) ("u" ++ "d") ("u" ++ " " ++ "d")) ("d" ++ "u") ("d" ++ " " ++ "u")) " " = (grp l).map gtx := by
  have hb : TL.tl (" " : Str) = [32] := by decide +kernel
  have e1 : (Txt.replace (txt l) ("u" ++ "d") ("u" ++ " " ++ "d")).cps.toList = rep1 l := by
    rw [StrLaws.replace_list (by decide +kernel)]
    exact repl_1 l.length l (Nat.le_refl _)
  have e2 : (Txt.replace (Txt.replace (txt l) ("u" ++ "d") ("u" ++ " " ++ "d")) ("d" ++ "u") ("d" ++ " " ++ "u")).cps.toList = sep l := by
    rw [StrLaws.replace_list (by decide +kernel), e1]
    exact (repl_2 l.length l (Nat.le_refl _)).1
  have e3 : Txt.replace (Txt.replace (txt l) ("u" ++ "d") ("u" ++ " " ++ "d")) ("d" ++ "u") ("d" ++ " " ++ "u") = Txt.join " " ((grp l).map gtx) := by
    refine TL.ext_tl ?_
    rw [TL.join_eq, TL.tl_join, hb, List.map_map]
    exact e2.trans (sep_grp l).symm
  rw [e3]
  refine TL.split_join (s := 32) (S := []) hb (by decide +kernel) ?_ ?_
  · cases l with
    | nil => exact absurd rfl h
    | cons c r =>
      obtain ⟨n, g, e⟩ := grp_ne c r
      rw [e]
      simp
  · intro p hp hm
    obtain ⟨q, _, rfl⟩ := List.mem_map.mp hp
    have hm : 32 ∈ (List.replicate q.2 q.1).map code := hm
    obtain ⟨b, _, hb⟩ := List.mem_map.mp hm
    cases b <;> cases hb
end Hr
/-! ### equal_signs, runs -/
namespace Hr
open PySem PySem.Spec PyProof.Rows L2
theorem scEq : FnScope ["row", "parted"] ["row"] (defScope s_equal_signs) := ⟨rfl, rfl, rfl, by decide +kernel, rfl, by decide +kernel, by decide +kernel⟩
theorem scRuns : FnScope ["row", "part"] ["row"] (defScope s_runs) := ⟨rfl, rfl, rfl, by decide +kernel, rfl, by decide +kernel, by decide +kernel⟩
/-- a run's word -/
def dec (n : Nat) : Str := Str.ofString (toString ((n : Nat) : Int))
def wordOf (p : Bool × Nat) : Str := sgn p.1 ++ dec p.2
def runsT (l : List Bool) : Str := if l = [] then "-" else Txt.join " " ((grp l).map wordOf)
theorem dec_len {n : Nat} (h : n < 10000) : (dec n).length ≤ 4 := by
  show (Str.ofString (toString ((n : Nat) : Int))).length ≤ 4
  rw [TL.len_tl, TL.tl_num]
  exact TL.numL_len (k := 4) (by decide) (by omega)
def tJ (ts : List TE) : TE := fun σ H Q => tJs ts Str.empty σ H fun out H1 => Q (.str out) H1
theorem pe_joinT {X : Cx} {v1 v2 : Expr} {rest : List Expr} {ts : List TE} {pos : Pos} (h : PJ X (v1 :: v2 :: rest) ts) : PE X (.JoinedStr (v1 :: v2 :: rest) pos) (tJ ts) := pe_joined h
theorem small_log {n : Nat} (h : n ≤ 10000) : ((n : Nat) : Int).natAbs.log2 < 1920 := by
  show n.log2 < 1920
  by_cases h0 : n = 0
  · subst h0
    decide
  · exact (Nat.log2_lt h0).mpr (Nat.lt_of_le_of_lt h (Nat.lt_of_lt_of_le (show 10000 < 2 ^ 14 by decide) (Nat.pow_le_pow_right (by decide) (show 14 ≤ 1920 by decide))))
theorem grp_len : ∀ l : List Bool, (grp l).length ≤ l.length
  | [] => Nat.le_refl _
  | [c] => by cases c <;> decide
  | c :: d :: r => by
    have ih := grp_len (d :: r)
    obtain ⟨n, g, e⟩ := grp_ne d r
    by_cases h : c = d
    · subst h
      rw [grp_same c r e]
      rw [e] at ih
      simp only [List.length_cons] at ih ⊢
      omega
    · rw [grp_other r h]
      simp only [List.length_cons] at ih ⊢
      omega
theorem alt_pos : ∀ {g : List (Bool × Nat)} {i : Nat} {p : Bool × Nat}, Alt g → g[i]? = some p → 1 ≤ p.2
  | [], i, p, _, h => by cases h
  | [q], 0, p, a, h => by
    have : q = p := Option.some.inj h
    subst this
    exact a
  | [q], i + 1, p, a, h => by cases h
  | q :: q2 :: r, 0, p, a, h => by
    have : q = p := Option.some.inj h
    subst this
    exact a.1
  | q :: q2 :: r, i + 1, p, a, h => alt_pos (g := q2 :: r) a.2.2 h
theorem expd_len : ∀ {g : List (Bool × Nat)} {i : Nat} {p : Bool × Nat}, g[i]? = some p → p.2 ≤ (expd g).length
  | [], i, p, h => by cases h
  | q :: r, 0, p, h => by
    have : q = p := Option.some.inj h
    subst this
    show q.2 ≤ (List.replicate q.2 q.1 ++ expd r).length
    rw [List.length_append, List.length_replicate]
    omega
  | q :: r, i + 1, p, h => by
    have := expd_len (g := r) (i := i) h
    show p.2 ≤ (List.replicate q.2 q.1 ++ expd r).length
    rw [List.length_append]
    omega
section
variable {P : Program} {w : World} {K : PySem.W.Frag} {mg : Str → Option Value} {base : Heap} {CN : Addr}
theorem Def.calT {x : Str} {st : Stmt} {N ps : List Str} {k : Nat} {sp : Sp} (D : Def K mg x st ps) (S : FnScope N ps (defScope st)) (hnc : ∀ y ∈ (defScope st).names, y.2 ≠ .cell) (hps : 1 ≤ ps.length) (len : ∀ vs H Q E, sp vs H Q E → vs.length = ps.length)
    (hbody : ∀ (f : Addr) (cdv : Value) (A : Around) (outer : List Env) (s : Shared) (H : Hp) (vs : List V) (Q : VK) (E : XK), Room k (A.deeper (envOfC x (defScope st) s.heap.objs.size f cdv)) → sp vs H Q E →
      ∃ t, PSsT (cxOf CX0 P w K mg base N x (defScope st) f cdv A outer s H E) (defBody st) t ∧ t { nx := fun _ H' => Q .non H', rt := Q } (start N vs) H) : Cal K mg CX0 P w base (k + 1) x [] sp := by
  obtain ⟨f, fd, F, hm, b⟩ := D.ex
  obtain ⟨oc, od, kV, doc, pm, an, cdv, ct, osl, rfl, lk, hcd⟩ := F.ex
  exact ⟨f, _, ps, [], fn_ofT lk hcd S hnc hps len (hbody f cdv), hm, F.kp, b, .nil⟩
def spEq : Sp := fun vs H Q _ => ∃ l : List Bool, vs = [.str (txt l)] ∧ l ≠ [] ∧ l.length ≤ 1000 ∧ ∀ p, H p = none → Q (.ref p) (L2.upd H p (.lst (((grp l).map gtx).map V.str)))
theorem cal_eq (D : Def K mg "equal_signs" s_equal_signs ["row"]) {t1 t2 t3 : Tok} (c_UP : mg "UP" = some (.str "u" t1)) (c_DOWN : mg "DOWN" = some (.str "d" t2)) (c_BLANK : mg "BLANK" = some (.str " " t3)) : Cal K mg CX0 P w base 1 "equal_signs" [] spEq := by
  refine D.calT scEq (by decide +kernel) (by decide) (fun vs H Q E h => ?_) (fun f cdv A outer s H vs Q E hr h => ?_)
  · obtain ⟨l, rfl, _⟩ := h
    rfl
  · obtain ⟨l, rfl, hl, hz, q⟩ := h
    have nd := scEq.nd
    refine ⟨_, psst_cons (pst_set (i := 1) nd rfl (.inl rfl) (pet_replG (pet_replG (CwR.PET.of (pv 0)) (pf_nn (by rfl) c_UP (by rfl) c_DOWN (by decide +kernel) (by decide +kernel) (by decide +kernel)) (pf_fn (pf_nn (by rfl) c_UP (by rfl) c_BLANK (by decide +kernel) (by decide +kernel) (by decide +kernel)) (by rfl) c_DOWN (by decide +kernel) (by decide +kernel) (by decide +kernel)) (by decide +kernel))
        (pf_nn (by rfl) c_DOWN (by rfl) c_UP (by decide +kernel) (by decide +kernel) (by decide +kernel)) (pf_fn (pf_nn (by rfl) c_DOWN (by rfl) c_BLANK (by decide +kernel) (by decide +kernel) (by decide +kernel)) (by rfl) c_UP (by decide +kernel) (by decide +kernel) (by decide +kernel)) (by decide +kernel)))
      (PSsT.of (pss_one (ps_ret (pe_split (pv 1) (pe_glob (v := .str " ") (by rfl) c_BLANK ⟨_, rfl⟩))))), ?_⟩
    have e0 := equal_txt l hl
    have hl1 : (txt l).length ≤ 1000 := by rw [txt_len]; exact hz
    have k3 : (("u" : Str) ++ " " ++ "d").length = 3 := by decide +kernel
    have k4 : (("d" : Str) ++ " " ++ "u").length = 3 := by decide +kernel
    have r1 := TK.replace_len (txt l) ("u" ++ "d") ("u" ++ " " ++ "d")
    rw [k3] at r1
    have r2 := TK.replace_len (Txt.replace (txt l) ("u" ++ "d") ("u" ++ " " ++ "d")) ("d" ++ "u") ("d" ++ " " ++ "u")
    rw [k4] at r2
    refine ⟨_, rfl, txt l, rfl, by rw [k3]; omega, _, rfl, by rw [k4]; omega, ?_⟩
    refine ⟨_, rfl, ⟨_, rfl⟩, _, _, rfl, rfl, by decide +kernel, ?_, ?_⟩
    · have := sz (show (20000 : Nat) ≤ 1000000 by decide)
      omega
    · show rNewStrs _ H Q
      rw [e0]
      exact q
def spRuns (CN : Addr) : Sp := fun vs H Q E => ∃ z : Str, vs = [.str z] ∧ z.length ≤ 1000 ∧ (∀ l, z = txt l → okb none 0 l = true → ∀ H', Same H H' → Q (.str (runsT l)) H') ∧ (hillB none z = false → ∀ H', Same H H' → E (.ref CN) none H')
theorem cal_runs (D : Def K mg "runs" s_runs ["row"]) (C : Cal K mg (L2.CX P w) P w base 4 "check_hill" [.non] (spChHillX CN)) (C2 : Cal K mg CX0 P w base 1 "equal_signs" [] spEq) {t1 : Tok} (c_NO : mg "NO_RUNS" = some (.str "-" t1)) (m_len : mg "len" = none) : Cal K mg (L2.CX P w) P w base 5 "runs" [] (spRuns CN) := by
  refine D.calX scRuns (fun vs H Q E h => ?_) (fun f cdv A outer s H vs Q E hr h => ?_)
  · obtain ⟨z, rfl, _⟩ := h
    rfl
  · obtain ⟨z, rfl, hz, q, qe⟩ := h
    have nd := scRuns.nd
    refine ⟨_, (pss_cons (ps_expr (pe_cX C hr (takes_of rfl rfl rfl rfl) (pa_cons (pv 0) pa_nil)))
    (pss_cons (ps_if (pt_cmpR op_eq (pv 0) pe_str (nomark _)) (pss_one (ps_ret (pe_glob (v := .str "-") (by rfl) c_NO ⟨_, rfl⟩))) pss_nil)
    (pss_one (ps_ret (pe_join pe_str (pe_lc (own := [("part", 1)]) (g := gName 1) (tt := tYes) rfl nd (pi_list (pe_c C2 hr (pa_cons (pv 0) pa_nil))) (blkOk_by (N := ["row", "part"]) (sc := defScope s_runs) (by decide +kernel)) (fun _ _ _ _ _ => (pg_name (i := 1) nd rfl (Or.inl rfl) (Or.inr rfl))) (fun _ _ _ _ _ => pts_nil)
      (fun _ _ _ _ _ => pe_joinT (.cons (pe_fmt (pe_ix ix_str (pv 1) pe_int (fun _ _ => rfl))) (.cons (pe_fmt (pe_callB call_len_str (by rfl) m_len PySem.boot_len (pa_cons (pv 1) pa_nil))) .nil))))))))), ?_⟩
    refine ⟨.str z, rfl, z, none, rfl, hz, fun hh H1 s1 => ?_, fun hh => qe hh⟩
    obtain ⟨h1, h2⟩ := Bool.and_eq_true_iff.mp hh
    obtain ⟨l, rfl⟩ : ∃ l, z = txt l := ⟨signs z, (txt_signs h1).symm⟩
    have q1 := q l rfl (by rw [signs_txt] at h2; exact h2)
    clear q
    have hzl : (txt l).length = l.length := txt_len l
    refine ⟨_, rfl, rfl, _, rfl, ite2 (fun e => ?_) (fun e => ?_)⟩
    · have : l = [] := txt_inj ((V.str.inj (of_decide_eq_true e)).trans enil)
      subst this
      exact q1 H1 s1
    · have hl : l ≠ [] := fun z => e (decide_eq_true (by rw [z]; exact congrArg V.str enil.symm))
      have q2 : ∀ H', Same H H' → Q (.str (Txt.join " " ((grp l).map wordOf))) H' := fun H' s => by
        have := q1 H' s
        rw [show runsT l = Txt.join " " ((grp l).map wordOf) from if_neg hl] at this
        exact this
      clear q1
      rw [hzl] at hz
      have gl := grp_len l
      have s1n : ∀ p, H1 p = none → H p = none := fun p np => s1.free np
      refine ⟨⟨_, rfl⟩, _, rfl, l, rfl, hl, hz, fun p np => ?_⟩
      have n0 := s1n p np
      have s2 := s1.trans (same_upd (o := .lst (((grp l).map gtx).map V.str)) np)
      have ep : (L2.upd H1 p (.lst (((grp l).map gtx).map V.str))) p = some (.lst (((grp l).map gtx).map V.str)) := upd_same
      generalize L2.upd H1 p (.lst (((grp l).map gtx).map V.str)) = H2 at s2 ep ⊢
      have hl0 : (((grp l).map gtx).map V.str).length = (grp l).length := by rw [List.length_map, List.length_map]
      refine ⟨p, rfl, ⟨_, .inl (.inl ep)⟩, fun D nD => ?_⟩
      have pD : p ≠ D := ne_of_none ep nD
      have wl : ∀ (i : Nat) (b : Bool) (n : Nat), (grp l)[i]? = some (b, n) → 1 ≤ n ∧ n ≤ 1000 := fun i b n h => ⟨alt_pos (alt_grp l) h, by
        have := expd_len h
        rw [expd_grp] at this
        exact Nat.le_trans this hz⟩
      refine lc_it (walk_list (K := K) (a := p) (xs := ((grp l).map gtx).map V.str)) (fun i H' => Same H H' ∧ H' p = some (.lst (((grp l).map gtx).map V.str)) ∧ H' D = some (.lst ((((grp l).take i).map wordOf).map V.str))) ?_ ?_ ?_ ?_
      · refine ⟨same_updN s2 (s2.free nD), ?_, upd_same⟩
        rw [upd_ne pD]
        exact ep
      · rintro i H' _ ⟨_, h, _⟩
        exact .inl (.inl h)
      · rintro i x H3 H4 hi ⟨sm, h1, hD⟩ ⟨rfl, ex⟩
        rw [hl0] at hi
        obtain ⟨⟨b, n⟩, hbn⟩ : ∃ q, (grp l)[i]? = some q := ⟨_, List.getElem?_eq_getElem hi⟩
        have ex : x = .str (gtx (b, n)) := by
          rw [List.getElem?_map, List.getElem?_map, hbn] at ex
          exact (Option.some.inj ex).symm
        subst ex
        obtain ⟨n1, n2⟩ := wl i b n hbn
        have gl1 : (gtx (b, n)).length = n := by
          show (txt (List.replicate n b)).length = n
          rw [txt_len, List.length_replicate]
        have g0 : atI (gtx (b, n)).cps.toList 0 = some (code b) := by
          refine atI_nat (j := 0) ?_
          show ((List.replicate n b).map code)[0]? = _
          rw [List.getElem?_map, List.getElem?_replicate, if_pos (by omega)]
          rfl
        have dl := dec_len (n := n) (by omega)
        have eD : (sgn b).length = 1 := rfl
        have e0 : Str.empty ++ sgn b = sgn b := by
          cases b <;> decide +kernel
        refine ⟨rfl, ?_⟩
        unfold tYes
        refine iteT ?_
        refine ⟨_, rfl, gtx (b, n), 0, code b, rfl, rfl, sz (by omega), g0, ?_⟩
        refine .inl ⟨sgn b, rfl, sz (by rw [eD]; decide), sgn b, rfl, sz (by rw [e0, eD]; decide), ?_⟩
        rw [e0]
        refine ⟨_, rfl, gtx (b, n), rfl, sz (by omega), ?_⟩
        rw [gl1]
        refine .inr ⟨(n : Int), rfl, small_log (by omega), dec n, rfl, sz (by rw [PySem.Str.length_append, eD]; omega), ?_⟩
        have hlen : ((((grp l).take i).map wordOf).map V.str).length < sizeLine := szl (by
          rw [List.length_map, List.length_map, List.length_take]
          omega)
        refine ⟨_, hD, hlen, same_updN sm (s2.free nD), ?_, ?_⟩
        · rw [upd_ne pD]
          exact h1
        · rw [upd_same, take_snoc hbn, List.map_append, List.map_append]
          rfl
      · rintro H3 ⟨sm, h1, hD⟩
        rw [hl0, List.take_length] at hD
        refine ⟨" ", D, (grp l).map wordOf, rfl, rfl, .inl (.inl (.inl hD)), ?_, q2 H3 sm⟩
        have hs : (((grp l).map wordOf).map (·.length)).sum ≤ 5 * (grp l).length := by
          have : ∀ g : List (Bool × Nat), (∀ q ∈ g, q.2 ≤ 1000) → ((g.map wordOf).map (·.length)).sum ≤ 5 * g.length := fun g => by
            induction g with
            | nil => intro _; exact Nat.le_refl _
            | cons q g ih =>
              intro h
              have h1 := ih fun z hz => h z (List.mem_cons_of_mem _ hz)
              have h2 := dec_len (n := q.2) (by have := h q (List.mem_cons_self ..); omega)
              have h3 : (wordOf q).length = 1 + (dec q.2).length := PySem.Str.length_append _ _
              simp only [List.map_cons, List.sum_cons, List.length_cons]
              omega
          refine this _ fun q hq => ?_
          obtain ⟨i, hi⟩ := List.mem_iff_getElem?.mp hq
          exact (wl i q.1 q.2 hi).2
        rw [List.length_map, show (" " : Str).length = 1 by decide +kernel]
        omega
end
end Hr
/-! ### lengths and runs of the text -/
namespace Hr
open PySem PySem.Spec PyProof.Rows L2
def mkS (l : List Nat) : Str := ⟨l.toArray⟩
theorem mkS_len (l : List Nat) : (mkS l).length = l.length := List.size_toArray
theorem mkS_tl (l : List Nat) : TL.tl (mkS l) = l := rfl
theorem dec_mk (n : Nat) : dec n = mkS (TL.numL n) := TL.ext_tl (TL.tl_num n)
theorem word_mk (p : Bool × Nat) : wordOf p = mkS (code p.1 :: TL.numL p.2) := by
  refine TL.ext_tl ?_
  show TL.tl (sgn p.1 ++ dec p.2) = _
  rw [TL.tl_append, dec_mk]
  rfl
theorem sgn_mk (b : Bool) : sgn b = mkS [code b] := rfl
theorem cut_first (c : Nat) (r : List Nat) : cutS (mkS (c :: r)) none (some 1) = mkS [c] := by
  refine TL.ext_tl ?_
  show ((mkS (c :: r)).cps.toList.drop _).take _ = [c]
  rw [HT.sIx_none, show (1 : Int) = ((1 : Nat) : Int) from rfl, HT.sIx_nat, mkS_len, List.length_cons, Nat.min_eq_left (by omega)]
  rfl
theorem cut_rest (c : Nat) (r : List Nat) : cutS (mkS (c :: r)) (some 1) none = mkS r := by
  refine TL.ext_tl ?_
  show ((mkS (c :: r)).cps.toList.drop _).take _ = r
  rw [HT.sIx_none, show (1 : Int) = ((1 : Nat) : Int) from rfl, HT.sIx_nat, mkS_len, List.length_cons, Nat.min_eq_left (by omega)]
  show (r.take (r.length + 1 - 1)) = r
  rw [Nat.add_sub_cancel, List.take_length]
theorem dig : ∀ c, c < 58 → 48 ≤ c → Unicode.isDigit c = true := by decide +kernel
theorem digs_ok {l : List Nat} (h : NumText.AllDigits l) (hne : l ≠ []) : (Txt.isascii (mkS l) && Txt.isdigit (mkS l)) = true := by
  have h1 : Txt.isascii (mkS l) = true := by
    show l.toArray.all (fun c => decide (c < 128)) = true
    rw [List.all_toArray, List.all_eq_true]
    intro c hc
    have := h c hc
    exact decide_eq_true (by omega)
  have h2 : Txt.isdigit (mkS l) = true := by
    show (decide ((mkS l).length > 0) && l.toArray.all Unicode.isDigit) = true
    rw [mkS_len, List.all_toArray, decide_eq_true (by
      cases l with
      | nil => exact absurd rfl hne
      | cons c r => simp), Bool.true_and, List.all_eq_true]
    intro c hc
    have := h c hc
    exact dig c (by omega) (by omega)
  rw [h1, h2]
  rfl
theorem num_head : ∀ {n : Nat}, 1 ≤ n → ∃ c r, TL.numL n = c :: r ∧ c ≠ 48 := by
  intro n
  induction n using Nat.strongRecOn with
  | _ n ih =>
    intro h1
    by_cases h : n < 10
    · exact ⟨48 + n, [], TL.numL_lt h, by omega⟩
    · obtain ⟨c, r, e, hc⟩ := ih (n / 10) (by omega) (by omega)
      exact ⟨c, r ++ [48 + n % 10], by rw [TL.numL_step (by omega), e]; rfl, hc⟩
theorem is_0 {c : Nat} (h : c ≠ 48) : decide (V.str ⟨#[c]⟩ = V.str ("0" : Str)) = false := by
  refine decide_eq_false fun e => h ?_
  have e := congrArg (fun z : Str => z.cps.toList) (V.str.inj e)
  have e : [c] = ("0" : Str).cps.toList := e
  rw [show ("0" : Str).cps.toList = [48] by decide +kernel] at e
  exact (List.cons.inj e).1
/-- no length -/
inductive LenBad : List Nat → Prop where
  | none {r : List Nat} (h : (Txt.isascii (mkS r) && Txt.isdigit (mkS r)) = false) : LenBad r
  | zero {r : List Nat} (h : NumText.AllDigits r) : LenBad (48 :: r)
  | big {n : Nat} (h : 400 < n) (h2 : n < 10000) : LenBad (TL.numL n)
/-- what a word of a text is -/
inductive RunD : List Nat → Option (Bool × Nat) → Prop where
  | good {b : Bool} {n : Nat} (h : 1 ≤ n) (h2 : n ≤ 400) : RunD (code b :: TL.numL n) (some (b, n))
  | empty : RunD [] none
  | sign {c : Nat} {r : List Nat} (h : c ≠ 117) (h2 : c ≠ 100) : RunD (c :: r) none
  | len {b : Bool} {r : List Nat} (h : LenBad r) : RunD (code b :: r) none
theorem scLen : FnScope ["text"] ["text"] (defScope s_is_length) := ⟨rfl, rfl, rfl, by decide +kernel, rfl, by decide +kernel, by decide +kernel⟩
theorem scIsRun : FnScope ["word"] ["word"] (defScope s_is_run) := ⟨rfl, rfl, rfl, by decide +kernel, rfl, by decide +kernel, by decide +kernel⟩
theorem scRise : FnScope ["run", "many"] ["run"] (defScope s_rise) := ⟨rfl, rfl, rfl, by decide +kernel, rfl, by decide +kernel, by decide +kernel⟩
theorem int_of_num {n : Nat} (h : n < 10000) : intText? (mkS (TL.numL n)) = some (n : Int) := by
  have e := TL.int_num (n := n) (Nat.le_trans (TL.numL_len (k := 4) (by decide) (by omega)) (by decide))
  rw [← dec_mk]
  exact e
section
variable {P : Program} {w : World} {K : PySem.W.Frag} {mg : Str → Option Value} {base : Heap} {CN : Addr}
def spLen : Sp := fun vs H Q _ => ∃ t : List Nat, vs = [.str (mkS t)] ∧ t.length ≤ 1000 ∧ ((∃ n, t = TL.numL n ∧ 1 ≤ n ∧ n ≤ 400 ∧ Q (.bl true) H) ∨ (LenBad t ∧ Q (.bl false) H))
theorem cal_len (D : Def K mg "is_length" s_is_length ["text"]) {t1 : Tok} (c_MOST : mg "MOST_SIGNS" = some (.int 400 t1)) (m_len : mg "len" = none) (m_str : mg "str" = none) (m_int : mg "int" = none) : Cal K mg CX0 P w base 1 "is_length" [] spLen := by
  refine D.cal scLen (fun vs H Q E h => ?_) (fun f cdv A outer s H vs Q E hr h => ?_)
  · obtain ⟨z, rfl, _⟩ := h
    rfl
  · obtain ⟨t, rfl, hz, h⟩ := h
    have nd := scLen.nd
    refine ⟨_, (pss_cons (ps_if (PW.pt (pw_or (pt_not (PW.pt (pw_and (pt_val (pe_m0 PySem.F.slot_str_isascii PySem.F.type_str_isascii mt_isascii (pv 0))) (pw_and1 (pt_val (pe_m0 PySem.F.slot_str_isdigit PySem.F.type_str_isdigit mt_isdigit (pv 0))))))) (pw_or1 (pt_cmpR op_eq (pe_ix ix_str (pv 0) pe_int (fun _ _ => rfl)) pe_str (nomark _))))) (pss_one (ps_ret pe_bl)) pss_nil)
    (pss_one (ps_ret (pe_and (pe_cmpR op_le (pe_callB call_len_str (by rfl) m_len PySem.boot_len (pa_cons (pv 0) pa_nil)) (pe_callB call_len_str (by rfl) m_len PySem.boot_len (pa_cons (pe_callTy call_str_int (by rfl) m_str (by decide +kernel) (pa_cons (pe_glob (v := .int 400) (by rfl) c_MOST ⟨_, rfl⟩) pa_nil)) pa_nil)) (nomark _)) (pe_one (pe_cmpR op_le (pe_callTy call_int_str (by rfl) m_int (by decide +kernel) (pa_cons (pv 0) pa_nil)) (pe_glob (v := .int 400) (by rfl) c_MOST ⟨_, rfl⟩) (nomark _))))))), ?_⟩
    have l3 : (Str.ofString (toString (400 : Int))).length = 3 := by decide +kernel
    have g400 : (400 : Int).natAbs.log2 < 1920 := by decide
    rcases h with ⟨n, rfl, n1, n2, q⟩ | ⟨hb, q⟩
    · have hd := digs_ok (TL.numL_digits n) (TL.numL_ne n)
      obtain ⟨h1, h2⟩ := Bool.and_eq_true_iff.mp hd
      obtain ⟨c, r, e, hc⟩ := num_head n1
      have e0 : atI (mkS (TL.numL n)).cps.toList 0 = some c := by
        refine atI_nat (j := 0) ?_
        show (TL.numL n)[0]? = some c
        rw [e]
        rfl
      refine ⟨_, rfl, ⟨_, rfl⟩, _, rfl, rfl, trivial, _, rfl, ?_⟩
      rw [h1]
      refine iteT ?_
      refine ⟨_, rfl, ⟨_, rfl⟩, _, rfl, rfl, trivial, _, rfl, ?_⟩
      rw [h2]
      refine iteF ?_
      refine ⟨_, rfl, _, 0, c, rfl, rfl, sz (by rw [mkS_len]; omega), e0, rfl, false, congrArg V.bl (is_0 hc), iteF ?_⟩
      refine ⟨_, rfl, _, rfl, sz (by rw [mkS_len]; omega), 400, rfl, g400, _, rfl, sz (by rw [l3]; decide), _, _, rfl, rfl, ?_⟩
      have ll := TL.numL_len (n := n) (k := 3) (by decide) (by omega)
      refine ⟨true, congrArg V.bl (decide_eq_true (by rw [l3, mkS_len]; omega)), iteT ?_⟩
      refine ⟨_, rfl, _, (n : Int), rfl, int_of_num (by omega), by rw [mkS_len]; omega, _, _, rfl, rfl, ?_⟩
      show Q (V.bl (decide ((n : Int) ≤ 400))) H
      rw [decide_eq_true (show (n : Int) ≤ 400 by omega)]
      exact q
    · cases hb with
      | none hb =>
        refine ⟨_, rfl, ⟨_, rfl⟩, _, rfl, rfl, trivial, Txt.isascii (mkS t), rfl, ?_⟩
        cases h1 : Txt.isascii (mkS t) with
        | false =>
          refine iteF (iteT (iteT ?_))
          exact q
        | true =>
          rw [h1] at hb
          have h2 : Txt.isdigit (mkS t) = false := hb
          refine iteT ?_
          refine ⟨_, rfl, ⟨_, rfl⟩, _, rfl, rfl, trivial, _, rfl, ?_⟩
          rw [h2]
          exact iteT (iteT q)
      | @zero r hb =>
        have hd : (Txt.isascii (mkS (48 :: r)) && Txt.isdigit (mkS (48 :: r))) = true := digs_ok (fun c hc => by
          rcases List.mem_cons.mp hc with rfl | hc
          · omega
          · exact hb c hc) (by simp)
        obtain ⟨h1, h2⟩ := Bool.and_eq_true_iff.mp hd
        refine ⟨_, rfl, ⟨_, rfl⟩, _, rfl, rfl, trivial, _, rfl, ?_⟩
        rw [h1]
        refine iteT ?_
        refine ⟨_, rfl, ⟨_, rfl⟩, _, rfl, rfl, trivial, _, rfl, ?_⟩
        rw [h2]
        refine iteF ?_
        refine ⟨_, rfl, _, 0, 48, rfl, rfl, sz (by rw [mkS_len]; omega), atI_nat (j := 0) rfl, rfl, true, congrArg V.bl (decide_eq_true (by decide +kernel)), iteT ?_⟩
        exact q
      | @big n n1 n2 =>
        have hd := digs_ok (TL.numL_digits n) (TL.numL_ne n)
        obtain ⟨h1, h2⟩ := Bool.and_eq_true_iff.mp hd
        obtain ⟨c, r, e, hc⟩ := num_head (n := n) (by omega)
        have e0 : atI (mkS (TL.numL n)).cps.toList 0 = some c := by
          refine atI_nat (j := 0) ?_
          show (TL.numL n)[0]? = some c
          rw [e]
          rfl
        refine ⟨_, rfl, ⟨_, rfl⟩, _, rfl, rfl, trivial, _, rfl, ?_⟩
        rw [h1]
        refine iteT ?_
        refine ⟨_, rfl, ⟨_, rfl⟩, _, rfl, rfl, trivial, _, rfl, ?_⟩
        rw [h2]
        refine iteF ?_
        refine ⟨_, rfl, _, 0, c, rfl, rfl, sz (by rw [mkS_len]; omega), e0, rfl, false, congrArg V.bl (is_0 hc), iteF ?_⟩
        refine ⟨_, rfl, _, rfl, sz (by rw [mkS_len]; omega), 400, rfl, g400, _, rfl, sz (by rw [l3]; decide), _, _, rfl, rfl, ?_⟩
        refine ⟨_, rfl, ite2 (fun e => ?_) (fun e => ?_)⟩
        · refine ⟨_, rfl, _, (n : Int), rfl, int_of_num n2, by rw [mkS_len]; have := TL.numL_len (n := n) (k := 4) (by decide) (by omega); omega, _, _, rfl, rfl, ?_⟩
          show Q (V.bl (decide ((n : Int) ≤ 400))) H
          rw [decide_eq_false (show ¬ (n : Int) ≤ 400 by omega)]
          exact q
        · exact q
def spIsRun : Sp := fun vs H Q _ => ∃ (t : List Nat) (d : Option (Bool × Nat)), vs = [.str (mkS t)] ∧ t.length ≤ 1000 ∧ RunD t d ∧ ∀ H', Same H H' → Q (.bl d.isSome) H'
theorem cal_run (D : Def K mg "is_run" s_is_run ["word"]) (C : Cal K mg CX0 P w base 1 "is_length" [] spLen) {t1 t2 : Tok} (c_UP : mg "UP" = some (.str "u" t1)) (c_DOWN : mg "DOWN" = some (.str "d" t2)) : Cal K mg CX0 P w base 2 "is_run" [] spIsRun := by
  refine D.cal scIsRun (fun vs H Q E h => ?_) (fun f cdv A outer s H vs Q E hr h => ?_)
  · obtain ⟨z, d, rfl, _⟩ := h
    rfl
  · obtain ⟨t, d, rfl, hz, hd, q⟩ := h
    have nd := scIsRun.nd
    refine ⟨_, (pss_one (ps_ret (pe_and (pe_cmpR (r := rIn K false) op_in_seq (pe_slice sl_str (pv 0) po_none (po_some pe_int)) (pe_tup (pa_cons (pe_glob (v := .str "u") (by rfl) c_UP ⟨_, rfl⟩) (pa_cons (pe_glob (v := .str "d") (by rfl) c_DOWN ⟨_, rfl⟩) pa_nil))) (by rfl)) (pe_one (pe_c C hr (pa_cons (pe_slice sl_str (pv 0) (po_some pe_int) po_none) pa_nil)))))), ?_⟩
    refine ⟨_, rfl, 1, rfl, mkS t, rfl, sz (by rw [mkS_len]; omega), ?_⟩
    refine ⟨sz (show 2 ≤ 1000000 by decide), fun p np => ?_⟩
    have s1 := same_upd (o := .tup [.str "u", .str "d"]) np
    refine ⟨p, _, rfl, .inr (.inl (.inl upd_same)), rfl, rfl, ?_⟩
    cases hd with
    | empty =>
      refine ⟨false, congrArg V.bl (by decide +kernel), iteF ?_⟩
      exact q _ s1
    | @sign c r h1 h2 =>
      rw [cut_first]
      refine ⟨false, congrArg V.bl ?_, iteF (q _ s1)⟩
      show inV (.str ⟨#[c]⟩) [.str "u", .str "d"] = false
      rw [in_signs]
      show (decide (c = 117) || decide (c = 100)) = false
      rw [decide_eq_false h1, decide_eq_false h2]
      rfl
    | @good b n h1 h2 =>
      rw [cut_first]
      refine ⟨true, congrArg V.bl ?_, iteT ?_⟩
      · show inV (.str ⟨#[code b]⟩) [.str "u", .str "d"] = true
        rw [in_signs]
        cases b <;> rfl
      · refine ⟨_, rfl, 1, rfl, _, rfl, sz (by rw [mkS_len]; omega), ?_⟩
        rw [cut_rest]
        exact ⟨TL.numL n, rfl, by simp only [List.length_cons] at hz; omega, .inl ⟨n, rfl, h1, h2, q _ s1⟩⟩
    | @len b r hb =>
      rw [cut_first]
      refine ⟨true, congrArg V.bl ?_, iteT ?_⟩
      · show inV (.str ⟨#[code b]⟩) [.str "u", .str "d"] = true
        rw [in_signs]
        cases b <;> rfl
      · refine ⟨_, rfl, 1, rfl, _, rfl, sz (by rw [mkS_len]; omega), ?_⟩
        rw [cut_rest]
        exact ⟨r, rfl, by simp only [List.length_cons] at hz; omega, .inr ⟨hb, q _ s1⟩⟩
/-- by how much a run rises -/
def up (p : Bool × Nat) : Int := if p.1 = true then (p.2 : Int) else -(p.2 : Int)
def spRise : Sp := fun vs H Q _ => ∃ p : Bool × Nat, vs = [.str (mkS (code p.1 :: TL.numL p.2))] ∧ p.2 ≤ 400 ∧ Q (.int (up p)) H
theorem cal_rise (D : Def K mg "rise" s_rise ["run"]) {t1 : Tok} (c_UP : mg "UP" = some (.str "u" t1)) (m_int : mg "int" = none) : Cal K mg CX0 P w base 1 "rise" [] spRise := by
  refine D.cal scRise (fun vs H Q E h => ?_) (fun f cdv A outer s H vs Q E hr h => ?_)
  · obtain ⟨z, rfl, _⟩ := h
    rfl
  · obtain ⟨⟨b, n⟩, rfl, hn, q⟩ := h
    have nd := scRise.nd
    refine ⟨_, (pss_cons (ps_set (i := 1) nd rfl (.inl rfl) (pe_callTy call_int_str (by rfl) m_int (by decide +kernel) (pa_cons (pe_slice sl_str (pv 0) (po_some pe_int) po_none) pa_nil)))
    (pss_one (ps_ret (pe_ifExp (pt_cmpR op_eq (pe_ix ix_str (pv 0) pe_int (fun _ _ => rfl)) (pe_glob (v := .str "u") (by rfl) c_UP ⟨_, rfl⟩) (nomark _)) (pv 1) (pe_un un_neg (pv 1)))))), ?_⟩
    have hn : n ≤ 400 := hn
    have ll := TL.numL_len (n := n) (k := 3) (by decide) (by omega)
    have lw : (mkS (code b :: TL.numL n)).length ≤ 4 := by rw [mkS_len, List.length_cons]; omega
    refine ⟨_, rfl, 1, rfl, mkS (code b :: TL.numL n), rfl, sz (by omega), ?_⟩
    rw [cut_rest]
    refine ⟨_, n, rfl, int_of_num (by omega), by rw [mkS_len]; omega, ?_⟩
    refine ⟨_, rfl, mkS (code b :: TL.numL n), 0, code b, rfl, rfl, sz (by omega), atI_nat (j := 0) rfl, rfl, b, congrArg V.bl ((is_u _).trans (code_u b)), ?_⟩
    cases b with
    | true => exact iteT ⟨_, rfl, q⟩
    | false => exact iteF ⟨_, rfl, _, rfl, q⟩
end
end Hr
/-! ### a kept error with a dict of its own -/
namespace Hr
open PySem PySem.Spec PyProof.Rows L2
theorem isSomeC {K : PySem.W.Frag} {D : Addr} (h : PySem.W.hasDictIn K D = true) : (PySem.W.clsIn K D).isSome = true := by
  obtain ⟨cd, hc, _⟩ := PySem.W.any_some h
  rw [hc]
  rfl
section
variable {X : Cx}
theorem kept_at {pins : List (Addr × Obj)} {σ : L2.St} {H : Hp} {s : Shared} {a C dd : Addr} {fs : List (Str × V)} (I : Inv X pins σ H s) (ea : H a = some (ExT (.ref C) (some dd) a)) (ed : H dd = some (.xd fs)) :
    ∃ (oe od : Obj) (mA : Str → Option Value), PySem.W.InstAt s.heap a oe C (some od) ∧ (∀ f, RelO (fs.lookup f) (mA f)) ∧ s.heap.Ns1 dd mA ∧ s.heap.get? dd = some od := by
  obtain ⟨⟨oe, vs, hget, hz, hv⟩, _⟩ := I.hok a _ ea
  have hx : ObjOk X.prog X.w H s.heap dd (.xd fs) := I.hok dd _ ed
  obtain ⟨mA, hns, hr⟩ := hx
  obtain ⟨od, ho, hl⟩ := lookIn_ns hns
  exact ⟨oe, od, mA, ⟨hget, hz.1, by unfold PySem.W.notCls; rw [hv] <;> rfl, by rw [hz.2]; exact ho⟩, hr, hns, ho⟩
/-- isinstance(e, c), e a kept error with a dict -/
def rIsTd (K : PySem.W.Frag) : List V → Hp → VK → Prop := fun xs H Q => ∃ (a D dd : Addr) (fs : List (Str × V)) (cc : V) (cv : Value) (b : Bool), xs = [.ref a, cc] ∧ H a = some (ExT (.ref D) (some dd) a) ∧ H dd = some (.xd fs) ∧ ExcC K D ∧ (∀ u, RelV cc u → u = cv) ∧ PySem.W.kitOne K (.ref D) cv = some b ∧ Q (.bl b) H
theorem call_isTd : CallR X (.builtin "isinstance") (rIsTd X.K) := by
  intro pins s σ H xs us Q I r h
  obtain ⟨a, D, dd, fs, cc, cv, b, rfl, ea, ed, C, hcv, e, q⟩ := h
  cases r with
  | cons rx rr =>
    cases rr with
    | cons rt rr =>
      cases rr
      cases rx
      have ec := hcv _ rt
      subst ec
      obtain ⟨oe, od, mA, J, hr, hns, ho⟩ := kept_at I ea ed
      exact PySem.W.kia_one (PySem.W.kitx_exc (isSomeC C.hd) C.hg C.hk C.hs C.ha C.hn C.ht C.hm) I.kIn J e (fun z => nomatch z) fun tk => ⟨.bl b, H, I.kept (t' := tk) fun _ _ z => z, rfl, q⟩
/-- e.f, e a kept error -/
def tXtf (K : PySem.W.Frag) (f : Str) (te : TE) : TE := fun σ H Q => te σ H fun x H1 => ∃ (a C dd : Addr) (fs : List (Str × V)) (v : V), x = .ref a ∧ H1 a = some (ExT (.ref C) (some dd) a) ∧ XfC K C ∧ PySem.W.findIn K (.ref C) f = some none ∧ H1 dd = some (.xd fs) ∧ fs.lookup f = some v ∧ Q v H1
theorem pe_xtf {e : Expr} {te : TE} {pos : Pos} {n : Str} (he : PE X e te) (hb : attributeBase e n X.env (eval e X.env) = eval e X.env := by rfl) : PE X (.Attribute e n pos) (tXtf X.K n te) := by
  refine ⟨fun pins s σ H Q I h => ?_⟩
  refine attr_of hb (thn (he.run pins s σ H _ I h) fun u s1 hh => ?_)
  obtain ⟨x, H1, I1, rx, a, C, dd, fs, v, ex, ea, T, hno, ed, l, q⟩ := hh
  subst ex
  obtain rfl : u = Value.ref a := rx
  obtain ⟨⟨oe, vs, hget, hz, hv⟩, _⟩ := I1.hok a _ ea
  have hx : ObjOk X.prog X.w H1 s1.heap dd (.xd fs) := I1.hok dd _ ed
  obtain ⟨mA, hns, hr⟩ := hx
  obtain ⟨od, ho, hl⟩ := lookIn_ns hns
  obtain ⟨u, hu, ru⟩ := RelO.some_of (v := v) (o := mA n) (by rw [← l]; exact hr n)
  have J : PySem.W.InstAt s1.heap a oe C (some od) := ⟨hget, hz.1, by unfold PySem.W.notCls; rw [hv] <;> rfl, by rw [hz.2]; exact ho⟩
  exact HandSPX.exc_get I1.kIn J T.ga T.gg T.exC (PySem.W.findObj_own T.hdC hno rfl (by rw [hl, hu])) (handed_of ru) ⟨v, H1, I1.tok _, ru, q⟩
end
end Hr
/-! ### check_words, row_of -/
namespace Hr
open PySem PySem.Spec PyProof.Rows L2
/-- the place of the first word that is none -/
def fb (h : Int) (a : Option Bool) (k : Nat) : List (Option (Bool × Nat)) → Option Nat
  | [] => if h = 0 then none else some k
  | none :: _ => some k
  | some p :: r => if a = some p.1 then some k else if h + up p < 0 then some k else fb (h + up p) (some p.1) (k + 1) r
def aheadT : Option Bool → Str
  | none => ""
  | some b => sgn b
/-- words and what they are -/
def Desc : List (List Nat) → List (Option (Bool × Nat)) → Prop
  | [], [] => True
  | t :: ts, d :: ds => t.length ≤ 1000 ∧ RunD t d ∧ Desc ts ds
  | _, _ => False
theorem Desc.len : ∀ {ts : List (List Nat)} {ds : List (Option (Bool × Nat))}, Desc ts ds → ts.length = ds.length
  | [], [], _ => rfl
  | t :: ts, d :: ds, h => by
    have := Desc.len h.2.2
    rw [List.length_cons, List.length_cons, this]
theorem Desc.at : ∀ {ts : List (List Nat)} {ds : List (Option (Bool × Nat))} {i : Nat} {t : List Nat}, Desc ts ds → ts[i]? = some t → ∃ d, ds[i]? = some d ∧ t.length ≤ 1000 ∧ RunD t d
  | [], [], i, t, _, h => by cases h
  | u :: ts, d :: ds, 0, t, D, h => by
    have : u = t := Option.some.inj h
    subst this
    exact ⟨d, rfl, D.1, D.2.1⟩
  | u :: ts, d :: ds, i + 1, t, D, h => Desc.at (ts := ts) (ds := ds) (i := i) D.2.2 h
theorem scCheck : FnScope ["words", "height", "ahead", "number", "word"] ["words"] (defScope s_check_words) := ⟨rfl, rfl, rfl, by decide +kernel, rfl, by decide +kernel, by decide +kernel⟩
theorem sgn_is (b c : Bool) : decide (V.str ⟨#[code b]⟩ = V.str (sgn c)) = decide (b = c) := by
  cases b <;> cases c <;> decide
theorem ahead_is (b : Bool) (a : Option Bool) : decide (V.str ⟨#[code b]⟩ = V.str (aheadT a)) = decide (a = some b) := by
  cases a with
  | none => cases b <;> decide +kernel
  | some c => cases b <;> cases c <;> decide
section
variable {P : Program} {w : World} {K : PySem.W.Frag} {mg : Str → Option Value} {base : Heap} {CT : Addr}
/-- NoText(n) -/
def tMkText (C : Addr) (ta : TA) : L2.St → Hp → XK → Prop := fun σ H Q => ta σ H fun vs H1 => ∃ n : Nat, vs = [.int (n : Int)] ∧ n ≤ 10000 ∧ ∀ d, H1 d = none → Q (.ref C) (some d) (L2.upd H1 d (.xd [(("word" : Str), .int (n : Int))]))
def TextMk (P : Program) (K : PySem.W.Frag) (mg : Str → Option Value) (CT : Addr) : Prop := ∀ (X : Cx) (a : Expr) (ta : TA) (p pos : Pos), X.prog = P → X.K = K → X.mg = mg → Room 1 X.A → PA X [a] ta → Gl X "NoText" → starEach [a] X.env = (false, eval a X.env) :: starEach [] X.env →
  (backTo pos (starEach [] X.env)).any (·.1) = false → PMk X (.Call (.Name "NoText" p) [a] [] pos) (tMkText CT ta)
def spCheck (K : PySem.W.Frag) (CT : Addr) : Sp := fun vs H Q E => ∃ (p : Addr) (ts : List (List Nat)) (ds : List (Option (Bool × Nat))), vs = [.ref p] ∧ SqL K H p ((ts.map mkS).map V.str) ∧ Desc ts ds ∧ ts.length ≤ 1000 ∧
  (fb 0 none 0 ds = none → ∀ H', Same H H' → Q .non H') ∧ ∀ k, fb 0 none 0 ds = some k → ∀ H' d, Same H H' → H' d = none → E (.ref CT) (some d) (L2.upd H' d (.xd [(("word" : Str), .int (k : Int))]))
theorem fb_le : ∀ {ds : List (Option (Bool × Nat))} {h : Int} {a : Option Bool} {k j : Nat}, fb h a k ds = some j → j ≤ k + ds.length
  | [], h, a, k, j, e => by
    unfold fb at e
    by_cases c : h = 0
    · rw [if_pos c] at e
      cases e
    · rw [if_neg c] at e
      have := Option.some.inj e
      simp only [List.length_nil]
      omega
  | none :: r, h, a, k, j, e => by
    have : k = j := Option.some.inj e
    omega
  | some p :: r, h, a, k, j, e => by
    unfold fb at e
    simp only [List.length_cons]
    by_cases c1 : a = some p.1
    · rw [if_pos c1] at e
      have := Option.some.inj e
      omega
    · rw [if_neg c1] at e
      by_cases c2 : h + up p < 0
      · rw [if_pos c2] at e
        have := Option.some.inj e
        omega
      · rw [if_neg c2] at e
        have := fb_le e
        omega
set_option maxHeartbeats 1000000 in
theorem cal_check (mk : TextMk P K mg CT) (D : Def K mg "check_words" s_check_words ["words"]) (C : Cal K mg CX0 P w base 2 "is_run" [] spIsRun) (C2 : Cal K mg CX0 P w base 1 "rise" [] spRise) (m_enumerate : mg "enumerate" = none) (m_len : mg "len" = none) : Cal K mg (L2.CX P w) P w base 3 "check_words" [] (spCheck K CT) := by
  refine D.calX scCheck (fun vs H Q E h => ?_) (fun f cdv A outer s H vs Q E hr h => ?_)
  · obtain ⟨p, ts, ds, rfl, _⟩ := h
    rfl
  · obtain ⟨p, ts, ds, rfl, hS, hD, hz, q, qe⟩ := h
    have nd := scCheck.nd
    have hr1 : Room 1 _ := hr.mono (by decide)
    refine ⟨_, (pss_cons (ps_set (i := 1) nd rfl (.inl rfl) pe_int)
    (pss_cons (ps_set (i := 2) nd rfl (.inl rfl) pe_str)
    (pss_cons (ps_for PassesOwn.leaving rfl (pi_enum (by rfl) m_enumerate (pa_cons (pv 0) pa_nil)) (pg_tup rfl (pgs_cons (pg_name (i := 3) nd rfl (.inl rfl)) (pgs_cons (pg_name (i := 4) nd rfl (.inl rfl)) pgs_nil)))
      (pss_cons (ps_if (PW.pt (pw_or (pt_not (pt_val (pe_c C hr (pa_cons (pv 4) pa_nil)))) (pw_or1 (pt_cmpR op_eq (pe_ix ix_str (pv 4) pe_int (fun _ _ => rfl)) (pv 2) (nomark _))))) (pss_one (ps_raise rfl (takes_of rfl rfl rfl rfl) (mk _ _ _ _ _ rfl rfl rfl hr1 (pa_cons (pv 3) pa_nil) (by rfl) (by rfl) (by rfl)))) pss_nil)
      (pss_cons (ps_set (i := 2) nd rfl (.inl rfl) (pe_ix ix_str (pv 4) pe_int (fun _ _ => rfl)))
      (pss_cons (ps_aug (i := 1) nd rfl (.inl rfl) (pe_c C2 hr (pa_cons (pv 4) pa_nil)) ip_add)
      (pss_one (ps_if (pt_cmpR op_lt (pv 1) pe_int (nomark _)) (pss_one (ps_raise rfl (takes_of rfl rfl rfl rfl) (mk _ _ _ _ _ rfl rfl rfl hr1 (pa_cons (pv 3) pa_nil) (by rfl) (by rfl) (by rfl)))) pss_nil))))))
    (pss_one (ps_if (pt_cmpR op_ne (pv 1) pe_int (nomark _)) (pss_one (ps_raise rfl (takes_of rfl rfl rfl rfl) (mk _ _ _ _ _ rfl rfl rfl hr1 (pa_cons (pe_callB call_len_seq (by rfl) m_len PySem.boot_len (pa_cons (pv 0) pa_nil)) pa_nil) (by rfl) (by rfl) (by rfl)))) pss_nil))))), ?_⟩
    have pl : ((ts.map mkS).map V.str).length = ts.length := by rw [List.length_map, List.length_map]
    have dl := hD.len
    have szw : ∀ {n : Nat}, n ≤ 1001 → n ≤ sizeLine := fun h => sz (by omega)
    refine ⟨_, rfl, p, _, rfl, hS, ?_⟩
    refine for_it (walk_enum (K := K) (a := p) (xs := (ts.map mkS).map V.str)) (fun i σ H' => ∃ (h : Int) (a : Option Bool) (y3 y4 : Option V), σ = [some (.ref p), some (.int h), some (.str (aheadT a)), y3, y4] ∧ Same H H' ∧ fb 0 none 0 ds = fb h a i (ds.drop i)) ?_ ?_ ?_ ?_
    · exact ⟨0, none, none, none, rfl, Same.refl _, by rw [List.drop_zero]⟩
    · rintro i σ H' _ ⟨_, _, _, _, rfl, sm, _⟩
      exact sm.seq hS
    · rintro i x σ H1 H2 hi ⟨h, a, y3, y4, rfl, sm, ef⟩ ⟨T, k0, v, rfl, nT, rfl, ek, ev⟩
      have ek : k0 = .int (i : Int) := (Option.some.inj ek).symm
      subst ek
      rw [pl] at hi
      have hti : ts[i]? = some ts[i] := List.getElem?_eq_getElem hi
      generalize ts[i] = t at hti
      have ev : v = .str (mkS t) := by
        have ev : ((ts.map mkS).map V.str)[i]? = some v := ev
        rw [List.getElem?_map, List.getElem?_map, hti] at ev
        exact (Option.some.inj ev).symm
      subst ev
      obtain ⟨d, hd, tl, rd⟩ := hD.at hti
      have ed : ds.drop i = d :: ds.drop (i + 1) := by
        have hl : i < ds.length := (List.getElem?_eq_some_iff.mp hd).1
        rw [List.drop_eq_getElem_cons hl]
        congr 1
        exact (List.getElem?_eq_some_iff.mp hd).2
      rw [ed] at ef
      have sT := sm.trans (same_upd (o := .tup [.int (i : Int), .str (mkS t)]) nT)
      refine ⟨T, _, rfl, .inl (.inl upd_same), rfl, _, _, rfl, _, _, rfl, rfl, ?_⟩
      generalize L2.upd H1 T (.tup [.int (i : Int), .str (mkS t)]) = H3 at sT ⊢
      refine ⟨_, rfl, t, d, rfl, tl, rd, fun H4 s4 => ?_⟩
      have s5 := sT.trans s4
      refine ⟨_, rfl, ?_⟩
      cases rd with
      | empty =>
        refine iteT (iteT ?_)
        exact ⟨_, rfl, i, rfl, by omega, fun d nd' => qe i ef H4 d s5 nd'⟩
      | sign h1 h2 =>
        refine iteT (iteT ?_)
        exact ⟨_, rfl, i, rfl, by omega, fun d nd' => qe i ef H4 d s5 nd'⟩
      | len hb =>
        refine iteT (iteT ?_)
        exact ⟨_, rfl, i, rfl, by omega, fun d nd' => qe i ef H4 d s5 nd'⟩
      | @good b n n1 n2 =>
        refine iteF ?_
        have e0 : atI (mkS (code b :: TL.numL n)).cps.toList 0 = some (code b) := atI_nat (j := 0) rfl
        have mz : (mkS (code b :: TL.numL n)).length ≤ 1001 := by rw [mkS_len]; omega
        refine ⟨_, rfl, mkS (code b :: TL.numL n), 0, code b, rfl, rfl, szw mz, e0, _, rfl, rfl, decide (a = some b), congrArg V.bl (ahead_is b a), ?_⟩
        have ef : fb 0 none 0 ds = (if a = some b then some i else if h + up (b, n) < 0 then some i else fb (h + up (b, n)) (some b) (i + 1) (ds.drop (i + 1))) := ef
        by_cases c1 : a = some b
        · rw [if_pos c1] at ef
          rw [decide_eq_true c1]
          refine iteT ?_
          exact ⟨_, rfl, i, rfl, by omega, fun d nd' => qe i ef H4 d s5 nd'⟩
        · rw [if_neg c1] at ef
          rw [decide_eq_false c1]
          refine iteF ?_
          refine ⟨_, rfl, mkS (code b :: TL.numL n), 0, code b, rfl, rfl, szw mz, e0, ?_⟩
          refine ⟨_, rfl, _, rfl, (b, n), rfl, n2, h, up (b, n), rfl, rfl, ?_⟩
          refine ⟨_, rfl, h + up (b, n), 0, rfl, rfl, decide (h + up (b, n) < 0), rfl, ?_⟩
          by_cases c2 : h + up (b, n) < 0
          · rw [if_pos c2] at ef
            rw [decide_eq_true c2]
            refine iteT ?_
            exact ⟨_, rfl, i, rfl, by omega, fun d nd' => qe i ef H4 d s5 nd'⟩
          · rw [if_neg c2] at ef
            rw [decide_eq_false c2]
            refine iteF ?_
            exact ⟨h + up (b, n), some b, _, _, rfl, s5, ef⟩
    · rintro σ H1 ⟨h, a, y3, y4, rfl, sm, ef⟩
      rw [pl, dl, List.drop_length] at ef
      have ef : fb 0 none 0 ds = if h = 0 then none else some ds.length := ef
      refine ⟨_, rfl, rfl, !decide (V.int h = V.int 0), rfl, ?_⟩
      by_cases c : h = 0
      · rw [if_pos c] at ef
        rw [show (!decide (V.int h = V.int 0)) = false by rw [c, decide_eq_true rfl]; rfl]
        refine iteF ?_
        exact q ef H1 sm
      · rw [if_neg c] at ef
        rw [show (!decide (V.int h = V.int 0)) = true by rw [decide_eq_false (fun z => c (V.int.inj z))]; rfl]
        refine iteT ?_
        refine ⟨_, rfl, p, _, rfl, sm.seq hS |> .inl, ts.length, by rw [pl], by omega, fun d nd' => ?_⟩
        rw [dl]
        exact qe ds.length ef H1 d sm nd'
end
end Hr
/-! ### joined texts -/
namespace Hr
open PySem PySem.Spec PyProof.Rows L2
theorem join_txts (ls : List (List Bool)) : Txt.join ("" : Str) (ls.map txt) = txt ls.flatten := by
  have h := SX.join_S [] (ls.map fun l => l.map code)
  have e1 : (ls.map fun l => l.map code).map SX.S = ls.map txt := by
    rw [List.map_map]
    rfl
  rw [e1] at h
  have e2 : ∀ ls : List (List Bool), TL.joinL [] (ls.map fun l => l.map code) = ls.flatten.map code := by
    intro ls
    induction ls with
    | nil => rfl
    | cons l ls ih =>
      cases ls with
      | nil =>
        show l.map code = (l ++ []).map code
        rw [List.append_nil]
      | cons l2 ls =>
        show l.map code ++ ([] ++ TL.joinL [] ((l2 :: ls).map fun l => l.map code)) = _
        rw [ih, List.nil_append, ← List.map_append]
        rfl
  rw [e2] at h
  rw [eE]
  exact h
theorem sum_lens (ls : List (List Bool)) : ((ls.map txt).map (·.length)).sum = ls.flatten.length := by
  induction ls with
  | nil => rfl
  | cons l ls ih =>
    rw [List.map_cons, List.map_cons, List.sum_cons, ih, List.flatten_cons, List.length_append, txt_len]
theorem lens_le : ∀ (zs : List Str), (∀ z ∈ zs, z.length ≤ 1000) → (zs.map (·.length)).sum ≤ 1000 * zs.length
  | [], _ => Nat.le_refl _
  | z :: zs, h => by
    have := lens_le zs fun x hx => h x (List.mem_cons_of_mem _ hx)
    have := h z (List.mem_cons_self ..)
    rw [List.map_cons, List.sum_cons, List.length_cons]
    omega
theorem len_E : ("" : Str).length = 0 := by decide +kernel
end Hr
/-! ### row_of -/
namespace Hr
open PySem PySem.Spec PyProof.Rows L2
theorem fb_none : ∀ {ds : List (Option (Bool × Nat))} {h : Int} {a : Option Bool} {k : Nat}, fb h a k ds = none → ∃ g : List (Bool × Nat), ds = g.map some
  | [], _, _, _, _ => ⟨[], rfl⟩
  | none :: r, h, a, k, e => by cases e
  | some p :: r, h, a, k, e => by
    unfold fb at e
    by_cases c1 : a = some p.1
    · rw [if_pos c1] at e
      cases e
    · rw [if_neg c1] at e
      by_cases c2 : h + up p < 0
      · rw [if_pos c2] at e
        cases e
      · rw [if_neg c2] at e
        obtain ⟨g, rfl⟩ := fb_none e
        exact ⟨p :: g, rfl⟩
theorem Desc.good {ts : List (List Nat)} {g : List (Bool × Nat)} {i : Nat} {t : List Nat} (D : Desc ts (g.map some)) (h : ts[i]? = some t) : ∃ b n, g[i]? = some (b, n) ∧ t = code b :: TL.numL n ∧ n ≤ 400 := by
  obtain ⟨d, hd, _, rd⟩ := D.at h
  rw [List.getElem?_map] at hd
  obtain ⟨⟨b, n⟩, hb, rfl⟩ := Option.map_eq_some_iff.mp hd
  generalize e : some (b, n) = d at rd
  cases rd with
  | good n1 n2 =>
    cases e
    exact ⟨_, _, hb, rfl, n2⟩
  | empty => cases e
  | sign _ _ => cases e
  | len _ => cases e
theorem scRowOf : FnScope ["text", "words", "word"] ["text"] (defScope s_row_of) := ⟨rfl, rfl, rfl, by decide +kernel, rfl, by decide +kernel, by decide +kernel⟩
theorem expd_flat (g : List (Bool × Nat)) : expd g = (g.map fun p => List.replicate p.2 p.1).flatten := by
  unfold expd
  rw [List.flatMap_def]
section
variable {P : Program} {w : World} {K : PySem.W.Frag} {mg : Str → Option Value} {base : Heap} {CT : Addr}
def spRowOf (CT : Addr) : Sp := fun vs H Q E => ∃ z : Str, vs = [.str z] ∧ ((z = "-" ∧ ∀ H', Same H H' → Q (.str "") H') ∨ ∃ (ts : List (List Nat)) (ds : List (Option (Bool × Nat))), z = Txt.join " " (ts.map mkS) ∧ z ≠ "-" ∧ ts ≠ [] ∧ (∀ t ∈ ts, 32 ∉ t) ∧ Desc ts ds ∧ ts.length ≤ 1000 ∧ z.length ≤ 100000 ∧
  (∀ g, ds = g.map some → fb 0 none 0 ds = none → ∀ H', Same H H' → Q (.str (txt (expd g))) H') ∧ ∀ k, fb 0 none 0 ds = some k → ∀ H' d, Same H H' → H' d = none → E (.ref CT) (some d) (L2.upd H' d (.xd [(("word" : Str), .int (k : Int))])))
set_option maxHeartbeats 1000000 in
theorem cal_rowOf (D : Def K mg "row_of" s_row_of ["text"]) (C : Cal K mg (L2.CX P w) P w base 3 "check_words" [] (spCheck K CT)) {t1 t2 : Tok} (c_NO : mg "NO_RUNS" = some (.str "-" t1)) (c_BLANK : mg "BLANK" = some (.str " " t2)) (m_int : mg "int" = none) : Cal K mg (L2.CX P w) P w base 4 "row_of" [] (spRowOf CT) := by
  refine D.calX scRowOf (fun vs H Q E h => ?_) (fun f cdv A outer s H vs Q E hr h => ?_)
  · obtain ⟨z, rfl, _⟩ := h
    rfl
  · obtain ⟨z, rfl, h⟩ := h
    have nd := scRowOf.nd
    refine ⟨_, (pss_cons (ps_if (pt_cmpR op_eq (pv 0) (pe_glob (v := .str "-") (by rfl) c_NO ⟨_, rfl⟩) (nomark _)) (pss_one (ps_ret pe_str)) pss_nil)
    (pss_cons (ps_set (i := 1) nd rfl (.inl rfl) (pe_split (pv 0) (pe_glob (v := .str " ") (by rfl) c_BLANK ⟨_, rfl⟩)))
    (pss_cons (ps_expr (pe_cX C hr (takes_of rfl rfl rfl rfl) (pa_cons (pv 1) pa_nil)))
    (pss_one (ps_ret (pe_join pe_str (pe_lc (own := [("word", 2)]) (g := gName 2) (tt := tYes) rfl nd (pi_list (pv 1)) (blkOk_by (N := ["text", "words", "word"]) (sc := defScope s_row_of) (by decide +kernel)) (fun _ _ _ _ _ => (pg_name (i := 2) nd rfl (Or.inl rfl) (Or.inr rfl))) (fun _ _ _ _ _ => pts_nil)
      (fun _ _ _ _ _ => (pe_op op_mul_sgn (pe_ix ix_str (pv 2) pe_int (fun _ _ => rfl)) (pe_callTy call_int_str (by rfl) m_int (by decide +kernel) (pa_cons (pe_slice sl_str (pv 2) (po_some pe_int) po_none) pa_nil))))))))))), ?_⟩
    rcases h with ⟨rfl, q⟩ | ⟨ts, ds, ez, hne, hts, hb, hD, hz, hzl, q, qe⟩
    · refine ⟨_, rfl, rfl, true, congrArg V.bl (decide_eq_true rfl), iteT ?_⟩
      exact q H (Same.refl H)
    · refine ⟨_, rfl, rfl, false, congrArg V.bl (decide_eq_false fun e => hne (V.str.inj e)), iteF ?_⟩
      have esp : Txt.split z " " = ts.map mkS := by
        rw [ez]
        refine TL.split_join (s := 32) (S := []) (by decide +kernel) (by decide +kernel) (fun e => hts (List.map_eq_nil_iff.mp e)) fun p hp => ?_
        obtain ⟨t, ht, rfl⟩ := List.mem_map.mp hp
        exact hb t ht
      refine ⟨_, rfl, ⟨_, rfl⟩, z, " ", rfl, rfl, by decide +kernel, ?_, ?_⟩
      · have := sz (show (200000 : Nat) ≤ 1000000 by decide)
        omega
      rw [esp]
      intro p np
      have s1 := same_upd (o := .lst ((ts.map mkS).map V.str)) np
      have ep : (L2.upd H p (.lst ((ts.map mkS).map V.str))) p = some (.lst ((ts.map mkS).map V.str)) := upd_same
      generalize L2.upd H p (.lst ((ts.map mkS).map V.str)) = H1 at s1 ep ⊢
      refine ⟨_, rfl, p, ts, ds, rfl, .inl (.inl ep), hD, hz, fun ef H2 s2 => ?_, fun k ef H2 d s2 nd' => qe k ef H2 d (s1.trans s2) nd'⟩
      obtain ⟨g, rfl⟩ := fb_none ef
      have q1 := q g rfl ef
      have s3 := s1.trans s2
      have ep2 := s2 _ _ ep
      have pl : ((ts.map mkS).map V.str).length = ts.length := by rw [List.length_map, List.length_map]
      have gl : ts.length = g.length := hD.len.trans (List.length_map ..)
      refine ⟨⟨_, rfl⟩, _, rfl, p, rfl, ⟨_, .inl (.inl ep2)⟩, fun D nD => ?_⟩
      have pD : p ≠ D := ne_of_none ep2 nD
      refine lc_it (walk_list (K := K) (a := p) (xs := (ts.map mkS).map V.str)) (fun i H' => Same H H' ∧ H' p = some (.lst ((ts.map mkS).map V.str)) ∧ H' D = some (.lst (((g.take i).map gtx).map V.str))) ?_ ?_ ?_ ?_
      · refine ⟨same_updN s3 (s3.free nD), ?_, upd_same⟩
        rw [upd_ne pD]
        exact ep2
      · rintro i H' _ ⟨_, h, _⟩
        exact .inl (.inl h)
      · rintro i x H3 H4 hi ⟨sm, h1, hDD⟩ ⟨rfl, ex⟩
        rw [pl] at hi
        have hti : ts[i]? = some ts[i] := List.getElem?_eq_getElem hi
        generalize ts[i] = t at hti
        have ex : x = .str (mkS t) := by
          rw [List.getElem?_map, List.getElem?_map, hti] at ex
          exact (Option.some.inj ex).symm
        subst ex
        obtain ⟨b, n, hg, rfl, hn⟩ := hD.good hti
        have ll := TL.numL_len (n := n) (k := 3) (by decide) (by omega)
        have lw : (mkS (code b :: TL.numL n)).length ≤ 4 := by rw [mkS_len, List.length_cons]; omega
        refine ⟨rfl, ?_⟩
        unfold tYes
        refine iteT ?_
        refine ⟨_, rfl, mkS (code b :: TL.numL n), 0, code b, rfl, rfl, sz (by omega), atI_nat (j := 0) rfl, ?_⟩
        refine ⟨_, rfl, 1, rfl, mkS (code b :: TL.numL n), rfl, sz (by omega), ?_⟩
        rw [cut_rest]
        refine ⟨_, n, rfl, int_of_num (by omega), by rw [mkS_len]; omega, b, n, rfl, rfl, by omega, ?_⟩
        have hlen : (((g.take i).map gtx).map V.str).length < sizeLine := szl (by
          rw [List.length_map, List.length_map, List.length_take]
          omega)
        refine ⟨_, hDD, hlen, same_updN sm (s3.free nD), ?_, ?_⟩
        · rw [upd_ne pD]
          exact h1
        · rw [upd_same, take_snoc hg, List.map_append, List.map_append]
          rfl
      · rintro H3 ⟨sm, h1, hDD⟩
        rw [pl, gl, List.take_length] at hDD
        refine ⟨"", D, g.map gtx, rfl, rfl, .inl (.inl (.inl hDD)), ?_, ?_⟩
        · have hs : ∀ (ts : List (List Nat)) (g : List (Bool × Nat)), Desc ts (g.map some) → ((g.map gtx).map (·.length)).sum ≤ 400 * g.length := fun ts g => by
            induction g generalizing ts with
            | nil => intro _; exact Nat.le_refl _
            | cons r g ih =>
              intro h
              cases ts with
              | nil => exact h.elim
              | cons t ts =>
                have h1 := ih ts h.2.2
                obtain ⟨b, n, e1, _, hn⟩ := Desc.good (ts := t :: ts) (g := r :: g) (i := 0) h rfl
                have e1 : r = (b, n) := Option.some.inj e1
                have h3 : (gtx r).length = r.2 := by
                  show (txt (List.replicate r.2 r.1)).length = _
                  rw [txt_len, List.length_replicate]
                rw [e1] at h3 ⊢
                simp only [List.map_cons, List.sum_cons, List.length_cons]
                have h3 : (gtx (b, n)).length = n := h3
                omega
          have := hs ts g hD
          rw [show ("" : Str).length = 0 by decide +kernel]
          omega
        · have ej : Txt.join "" (g.map gtx) = txt (expd g) := by
            rw [expd_flat, ← join_txts, List.map_map]
            rfl
          rw [ej]
          exact q1 H3 sm
end
end Hr
/-! ### NoText: the error that names a word -/
namespace PySem
namespace NTX
open PySem.W PySem.Calls PyProof.Rows PySem.HandSPX
def ntA : Arguments := { posonlyargs := [], args := [{ arg := "self", annotation := none, pos := ⟨20, 17, 20, 21⟩ }, { arg := "word", annotation := none, pos := ⟨20, 23, 20, 27⟩ }], vararg := none, kwonlyargs := [], kw_defaults := [], kwarg := none, defaults := [] }
def ntSay : Expr := .JoinedStr [.Constant (.str "no runs of a hill row, seen at word ") 0 ⟨21, 27, 21, 63⟩, .FormattedValue (.Name "word" ⟨21, 64, 21, 68⟩) (-1) none ⟨21, 63, 21, 69⟩] ⟨21, 25, 21, 70⟩
def ntB : List Stmt := [.Expr (.Call (.Attribute (.Call (.Name "super" ⟨21, 8, 21, 13⟩) [] [] ⟨21, 8, 21, 15⟩) "__init__" ⟨21, 8, 21, 24⟩) [ntSay] [] ⟨21, 8, 21, 71⟩) ⟨21, 8, 21, 71⟩,
  .Assign [.Attribute (.Name "self" ⟨22, 8, 22, 12⟩) "word" ⟨22, 8, 22, 17⟩] (.Name "word" ⟨22, 20, 22, 24⟩) ⟨22, 8, 22, 24⟩]
def ntS : Scope := { kind := .function, names := [(PySem.Str.ofString "self", .local), (PySem.Str.ofString "word", .local), (PySem.Str.ofString "__class__", .free), (PySem.Str.ofString "super", .globalImplicit)], isGenerator := false, isCoroutine := false, more := [] }
/-- what the written part says of the class and of its __init__ -/
structure NTxt (prog : Program) (K : Frag) (mg : Str → Option Value) (C fI : Addr) : Prop where
  gC : mg "NoText" = some (.ref C)
  ox : L2.OexC K C
  noN : findIn K (.ref C) "word" = some none
  iC : findIn K (.ref C) "__init__" = some (some (.ref fI))
  tI : typeIn K (.ref fI) = some (.type "function")
  sup : ks_superIn K C C "__init__" = some (some (.builtin "ValueError.__init__"))
  own : mroIn K C (.ref C) = some true
  ve : subIn K (.ref C) (.type "ValueError") = some true
  opq : nsIn K cStatics "thirdparty.any" = some none
  msup : mg "super" = none
  fn : ∃ (oc : Value) (od : Option Addr) (doc pm : Value) (an : Option Addr) (cda : Addr) (ct : Value) (osl : Array (Option Value)) (cc : Addr) (ccl : Value) (cdd : Option Addr) (vs : Array Value) (ccs : Array (Option Value)) (file : Str) (tf : Tok) (cl : Value) (cld : Option Addr) (csl : Array (Option Value)),
    K.lookup fI = some ⟨oc, od, .func (ksFn "__init__" "NoText.__init__" ntA ntB ntS .none .none doc pm an (.ref cda) ct cc), osl⟩ ∧ codeIn K (.ref cda) "NoText.__init__" = true ∧ K.lookup cda = some ⟨ccl, cdd, .fields vs, ccs⟩ ∧ vs[2]? = some (.str file tf) ∧ ((prog.main.file : Str) == file) = true ∧
      K.lookup cc = some ⟨cl, cld, .cell (some (.ref C)), csl⟩
  htop : (prog.main.scope.names.lookup ("super" : Str)).isSome = false
/-- what __init__ leaves of a fresh exception at x -/
structure Left (h h' : Heap) (x C dx t1 : Addr) (v : Value) : Prop where
  keep : ∀ b o, b ≠ x → h.get? b = some o → h'.get? b = some o
  obj : h'.get? x = some { cls := .ref C, dict := some dx, data := .fields #[.ref t1, .none, .none, .none, .bool false, .none] }
  dbig : h.objs.size ≤ dx
  dne : dx ≠ x
  ns : h'.Ns1 dx (fun y => if y = "word" then some v else none)
section
variable {prog : Program} {w : World} {A : Around} {E : Value → Shared → Prop} {R : Result → Shared → Prop} {s : Shared} {K : Frag} {mg mb : Str → Option Value} {C fI : Addr}
/-- the bound __init__ of ValueError, called -/
theorem call_mw {h : Heap} {g : Array GenState} {d : Drawn} {t : Nat} {os : OsState} {u e t0 : Addr} {rest : List Value} {Q : Value → Shared → Prop} (T : L2.OexC K C) (X : K.In h)
    (he : h.get? e = some (excO C t0)) (hu : h.get? u = some (kxs_mw "ValueError.__init__" e)) (hrest : rest.length ≤ sizeLine)
    (hq : ∀ h' t1, (∀ b o, b ≠ e → h.get? b = some o → h'.get? b = some o) → h'.get? e = some (excO C t1) → Q .none ⟨h', g, d, t, os⟩) :
    wpAny (model prog w) A (call (.ref u) rest) Q E ⟨h, g, d, t, os⟩ := by
  obtain ⟨nm, q, N, bs, bm, sn, sub, ab, col, dd, k0, k1, k2, k3, k5, hC, hbm⟩ := T.cls
  refine wpAny_call (codeAny_of_tree ?_)
  show wpAny _ A.in1 (callAny (.ref u) ⟨rest, []⟩) _ _ _
  simp only [callAny]
  refine wpAny_bind (wpAny_load hu ?_)
  simp only [kxs_mw, show (Value.type "method-wrapper" == Value.type "method" || Value.type "method-wrapper" == Value.type "builtin_function_or_method" || Value.type "method-wrapper" == Value.type "method-wrapper") = true by decide, if_true]
  refine W.KFB.if_so (by decide) ?_
  refine wpAny_bind (check_bound_init F.excBase_ValueError.toExcCallFacts (X _ _ hC) he rfl ?_)
  refine wpAny_bind (wpAny_pure (wpAny_pure ?_))
  refine ⟨Code.quiet_builtin _ (by decide +kernel), codeAny_builtin F.excBase_ValueError.initEntry ?_⟩
  rw [Around.under_plainId F.excBase_ValueError.init.plain _]
  wp_walk
  refine hq _ h.objs.size (fun b o hb ho => ?_) ?_
  · rw [Heap.get?_update_other _ _ (Ne.symm hb)]
    exact Heap.get?_push_of_some _ ho
  · rw [Heap.get?_update_self _ (Heap.get?_push_of_some _ he) rfl]
    rfl
end
end NTX
end PySem
/-! ### NoText.__init__ -/
namespace PySem
namespace NTX
open PySem.W PySem.Calls PyProof.Rows PySem.HandSPX
section
variable {prog : Program} {w : World} {A : Around} {E : Value → Shared → Prop} {R : Result → Shared → Prop} {s : Shared} {K : Frag} {mg mb : Str → Option Value} {C fI : Addr}
def msg (n : Nat) : Str := Str.empty ++ "no runs of a hill row, seen at word " ++ Str.ofString (toString ((n : Nat) : Int))
theorem msg_len {n : Nat} (h : n ≤ 10000) : (msg n).length ≤ 100 := by
  have h1 : (Str.ofString (toString ((n : Nat) : Int))).length ≤ 5 := by
    rw [TL.len_tl, TL.tl_num]
    exact TL.numL_len (k := 5) (by decide) (by omega)
  have h2 : (Str.empty ++ ("no runs of a hill row, seen at word " : Str)).length = 36 := by decide +kernel
  unfold msg
  rw [Str.length_append, h2]
  omega
theorem nt_init (T : NTxt prog K mg C fI) {x t0 : Addr} {n : Nat} {tn : Tok} (X : K.In s.heap) (G : s.heap.Ns mainGlobals mg) (BN : s.heap.Ns builtinsNs mb) (hsb : mb "super" = some (.type "super")) (hlim : s.heap.NoLimit)
    (hx : s.heap.get? x = some (excO C t0)) (hnx : K.lookup x = none) (hroom : A.depth < recursionLimit) (hn : n ≤ 10000)
    (hq : ∀ h' tk dx t1, Left s.heap h' x C dx t1 (.int (n : Int) tn) → R (.ok (.ret .none)) { s with heap := h', toks := tk }) :
    codeAny (model prog w) A (.call (.ref fI) ⟨[.ref x, .int (n : Int) tn], []⟩) R s := by
  obtain ⟨oc, od, doc, pm, an, cda, ct, osl, cc, ccl, cdd, vs, ccs, file, tf, cl, cld, csl, ho, hcd, hcode, hvs, hfile, hcell⟩ := T.fn
  obtain ⟨nm, q, N, bs, bm, sn, sub, ab, col, dd, k0, k1, k2, k3, k5, hC, hbm⟩ := T.ox.cls
  have hcl : clsIn K C = some { name := nm, bases := bs, mro := .ref C :: bm, ns := N, qualname := q, hasDict := true, slotNames := sn, subclasses := sub, abstract := ab, collection := col, hasDel := false } := by unfold clsIn; rw [hC] <;> rfl
  refine ks_codeAny_call_defAt (fd := ksFn "__init__" "NoText.__init__" ntA ntB ntS .none .none doc pm an (.ref cda) ct cc) (body := ntB) (binds := [("self", .ref x), ("word", .int (n : Int) tn)]) hroom (X _ _ ho) rfl hlim (codeRec_of X hcd) rfl (BindsTo.of_eq (by first | rfl | with_unfolding_all rfl)) (show ∀ y ∈ ntS.names, y.2 ≠ .cell by decide) (fun y hy => ?loc) (fun h₁ hns k => ?_) rfl rfl rfl
  case loc =>
    rcases List.mem_cons.mp hy with rfl | hy
    · show List.lookup ("self" : Str) ntS.names = _
      decide +kernel
    · rw [List.mem_singleton.mp hy]
      show List.lookup ("word" : Str) ntS.names = _
      decide +kernel
  show wpAt (model prog w) (A.deeper (ksEnv "NoText.__init__" ntS s.heap.objs.size fI (.ref cda) cc)) (.func ntB (ksEnv "NoText.__init__" ntS s.heap.objs.size fI (.ref cda) cc)) (execs ntB (ksEnv "NoText.__init__" ntS s.heap.objs.size fI (.ref cda) cc)) _ _ _
  generalize hL : s.heap.objs.size = L at *
  have X₁ : K.In h₁ := X.keeps k
  have hx₁ := k _ _ hx
  have hxL : L ≠ x := by
    rw [← hL]
    exact Nat.ne_of_gt (Heap.lt_size hx)
  have G₁ := G.keeps k
  have B₁ := BN.keeps k
  have hms : (fun y => List.lookup y ([("self", .ref x), ("word", .int (n : Int) tn)] : List (Str × Value)).reverse) "self" = some (.ref x) := by first | rfl | with_unfolding_all rfl | kernel_rfl
  have hmw : (fun y => List.lookup y ([("self", .ref x), ("word", .int (n : Int) tn)] : List (Str × Value)).reverse) "word" = some (.int (n : Int) tn) := by first | rfl | with_unfolding_all rfl | kernel_rfl
  generalize (fun y => List.lookup y ([("self", .ref x), ("word", .int (n : Int) tn)] : List (Str × Value)).reverse) = m at hns hms hmw
  unfold ntB
  refine ks_wpAt_execs_cons (ks_wpAt_Expr_any (ks_wpAt_MethodCall ?_))
  refine ks_wpAt_super_base (by rfl) (by rfl) (by decide) rfl (X₁ _ _ ho) rfl rfl rfl (X₁ _ _ hcode) rfl hvs hfile T.htop ?_
  refine ks_loadName_global rfl (by rfl) (loadGlobal_builtin G₁ T.msup B₁ hsb ⟨rfl, ?_⟩)
  refine wpAny_loadName_free rfl (by rfl) (by rfl) ⟨_, X₁ _ _ hcell, rfl⟩ ?_
  refine wpAny_loadName_local rfl (by rfl) hns hms ?_
  refine ks_wpAny_isType_cls (X₁ _ _ hC) rfl ⟨rfl, ?_⟩
  refine ks_wpAny_call_super (X₁ _ _ hC) rfl hx₁ rfl (fun c e => nomatch e) (looks_mroIn X₁ T.own) (fun h₂ e₂ kk₂ => ?_)
  have X₂ := X₁.keeps kk₂
  have hx₂ := kk₂ _ _ hx₁
  have I₂ : InstAt h₂ x (excO C t0) C none := ⟨hx₂, rfl, rfl, trivial⟩
  have hsup : alongIn K "__init__" (((Value.ref C :: bm).dropWhile (· != .ref C)).drop 1) = some (some (.builtin "ValueError.__init__")) := by
    have z := T.sup
    unfold ks_superIn at z
    rw [hcl] at z
    exact z
  refine kxs_getMethod kxs_ValueError e₂ (looks_opaque X₂ T.opq) (l₀ := .ref C :: bm) (fun A Q E s k q => wpAny_bind ((looks_clsIn X₂ hcl) A _ E s k (wpAny_pure q))) rfl X₂ hsup (I₂.type.andThen (looks_subIn X₂ T.ve)) (ks_ne X₂ I₂ hcl) (by decide) ?_
  have kk₃ : ∀ b o, h₂.get? b = some o → (h₂.push (kxs_mw "ValueError.__init__" x)).get? b = some o := fun b o e => Heap.get?_push_of_some _ e
  have hu₃ : (h₂.push (kxs_mw "ValueError.__init__" x)).get? h₂.objs.size = some (kxs_mw "ValueError.__init__" x) := Heap.get?_push_at rfl rfl
  generalize h₂.push (kxs_mw "ValueError.__init__" x) = h₃ at kk₃ hu₃ ⊢
  generalize h₂.objs.size = u at hu₃ ⊢
  have X₃ := X₂.keeps kk₃
  have hx₃ := kk₃ _ _ hx₂
  have k₀₃ : ∀ b o, h₁.get? b = some o → h₃.get? b = some o := fun b o e => kk₃ b o (kk₂ b o e)
  have hns₃ := hns.keeps k₀₃
  have he : ∀ env, starEach [ntSay] env = (false, eval ntSay env) :: starEach [] env := fun _ => rfl
  dsimp only
  rw [he]
  refine kxs_callWith (i := "ValueError.__init__") (x := x) (by rfl) (evalArgs_plain (spliced_cons ?_))
  unfold ntSay
  refine wpAny_JoinedStr (pos := ⟨21, 25, 21, 70⟩) ?_
  have ev : ∀ (a b : Expr) env, evalEach [a, b] env = [eval a env, eval b env] := fun _ _ _ => by first | rfl | simp [evalEach]
  rw [ev]
  have l1 : (Str.empty ++ ("no runs of a hill row, seen at word " : Str)).length ≤ sizeLine := by rw [show (Str.empty ++ ("no runs of a hill row, seen at word " : Str)).length = 36 by decide +kernel]; decide
  have l2 := msg_len hn
  have l3 : (msg n).length ≤ sizeLine := by rw [sizeLine_eq]; omega
  refine Calls.Constant_str ⟨_, _, rfl, l1, ?_⟩
  refine wpAny_FormattedValue_plain (wpAny_Name (wpAny_loadName_local rfl (by rfl) hns₃ hmw (wpAny_formatField_int (Hr.small_log hn) ⟨_, _, rfl, l3, l3, ?_⟩)) (by decide))
  refine Calls.spliced_nil ⟨hu₃, ?_⟩
  refine call_mw T.ox X₃ hx₃ hu₃ (by show 1 ≤ sizeLine; decide) (fun h₄ t1 k₄ hx₄ => ?_)
  have X₄ : K.In h₄ := fun a o e => k₄ a o (fun z => by rw [z, hnx] at e; cases e) (X₃ a o e)
  have hns₄ : h₄.Ns L m := by
    obtain ⟨oL, es, ep, e, r⟩ := hns₃
    exact ⟨oL, es, ep, k₄ _ _ hxL e, r⟩
  refine wpAt_of_wpAny (wpAny_execs_cons (plainObj_wpAny_Assign_Attribute ?_))
  refine wpAny_Name (wpAny_loadName_local rfl (by rfl) hns₄ hmw (wpAny_Name (wpAny_loadName_local rfl (by rfl) hns₄ hms ?_) (by decide))) (by decide)
  refine set_plain X₄ (ox := excO C t1) (od := none) ⟨hx₄, rfl, rfl, trivial⟩ T.ox.sa ?_
  refine exc_osa X₄ hx₄ hcl (show refsVE (.ref C :: bm) = true from hbm) rfl T.noN (fun h₅ tk₅ dx k₅ dn dne hx₅ hn₅ => ?_)
  show wpAny _ _ (execs _ _) _ _ _
  refine wpAny_execs_nil (hq h₅ tk₅ dx t1 ⟨fun b o hb e => k₅ b o hb (k₄ b o hb (k₀₃ b o (k b o e))), hx₅, by rw [hL]; exact Nat.le_of_lt (Nat.lt_of_lt_of_le hns₄.lt dn), dne, hn₅⟩)
/-- NoText(n), made -/
structure Made (h h' : Heap) (e C d : Addr) (v : Value) : Prop where
  keep : ∀ b o, h.get? b = some o → h'.get? b = some o
  new : h.objs.size ≤ e
  obj : ∃ oe vs, h'.get? e = some oe ∧ oe.cls = .ref C ∧ oe.dict = some d ∧ oe.data = .fields vs ∧ vs[1]? = some .none
  dbig : h.objs.size ≤ d
  dne : d ≠ e
  ns : h'.Ns1 d (fun y => if y = "word" then some v else none)
theorem nt_made (T : NTxt prog K mg C fI) {n : Nat} {tn : Tok} (X : K.In s.heap) (G : s.heap.Ns mainGlobals mg) (BN : s.heap.Ns builtinsNs mb) (hsb : mb "super" = some (.type "super")) (hlim : s.heap.NoLimit) (hroom : A.depth + 1 < recursionLimit) (hn : n ≤ 10000)
    (hq : ∀ h' tk e d, Made s.heap h' e C d (.int (n : Int) tn) → R (.ok (.ret (.ref e))) { s with heap := h', toks := tk }) :
    codeAny (model prog w) A (.call (.ref C) ⟨[.int (n : Int) tn], []⟩) R s := by
  obtain ⟨nm, q, N, bs, bm, sn, sub, ab, col, dd, k0, k1, k2, k3, k5, hC, hbm⟩ := T.ox.cls
  obtain ⟨hp, g, dr, tk, os⟩ := s
  have k : ∀ b o, hp.get? b = some o → ((hp.push (kdv_tup [.int (n : Int) tn])).push (excO C hp.objs.size)).get? b = some o := fun b o e => Heap.get?_push_of_some _ (Heap.get?_push_of_some _ e)
  have hget : ((hp.push (kdv_tup [.int (n : Int) tn])).push (excO C hp.objs.size)).get? (hp.objs.size + 1) = some (excO C hp.objs.size) := by heap_get
  have hnx : K.lookup (hp.objs.size + 1) = none := by
    cases e : K.lookup (hp.objs.size + 1) with
    | none => rfl
    | some o =>
      have z : hp.get? (hp.objs.size + 1) = some o := X _ _ e
      exact absurd (Nat.lt_of_succ_lt (Heap.lt_size z)) (Nat.lt_irrefl _)
  refine call_own F.excBase_ValueError (fun X => refsVE_contains X bm hbm) (X _ _ hC) (looks_findIn X T.iC) (fun self => bind_fn X self T.tI) (by show 1 ≤ sizeLine; decide) ?_
  refine nt_init (s := ⟨(hp.push (kdv_tup [.int (n : Int) tn])).push (excO C hp.objs.size), g, dr, tk, os⟩) T (X.keeps k) (G.keeps k) (BN.keeps k) hsb (hlim.keeps k) hget hnx ?_ hn fun h' tk' dx t1 M => ?_
  · show A.depth + 1 < recursionLimit
    exact hroom
  · obtain ⟨k', hx, dn, dne, hns⟩ := M
    have old : ∀ b o, hp.get? b = some o → h'.get? b = some o := fun b o e => k' b o (Nat.ne_of_lt (Nat.lt_succ_of_lt (Heap.lt_size e))) (k b o e)
    have z : hp.objs.size ≤ dx := by
      have q := dn
      rw [Heap.size_push, Heap.size_push] at q
      omega
    exact ⟨rfl, hq h' tk' (hp.objs.size + 1) dx ⟨old, Nat.le_succ _, ⟨_, _, hx, rfl, rfl, rfl, rfl⟩, z, dne, hns⟩⟩
end
end NTX
end PySem
namespace Hr
open PySem PySem.Spec PyProof.Rows L2
theorem relO_word {v : V} {v' : Value} (r : RelV v v') (f : Str) : RelO (List.lookup f [(("word" : Str), v)]) (if f = "word" then some v' else none) := by
  by_cases hw : f = "word"
  · subst hw
    rw [if_pos rfl]
    have q : List.lookup ("word" : Str) [(("word" : Str), v)] = some v := by simp [List.lookup]
    rw [q]
    exact r
  · rw [if_neg hw]
    have qw : (f == ("word" : Str)) = false := by simpa using hw
    have q2 : List.lookup f [(("word" : Str), v)] = none := by simp [List.lookup, qw]
    rw [q2]
    trivial
/-- NoText is made as its text says -/
theorem text_mk {P : Program} {K : PySem.W.Frag} {mg : Str → Option Value} {C fI : Addr} (T : PySem.NTX.NTxt P K mg C fI) : TextMk P K mg C := by
  intro X a ta p pos eP eK eM hr ha hg he hpl pins s σ H Q I h
  subst eK eM eP
  refine wpAny_Call_Name_kw (ld_glob I hg T.gC ?_)
  refine PySem.W.callWith_K (h₀ := X.base) I.ok.mod.kin T.ox.kC (thn (ha.run pos pins s σ H _ I h) fun us s1 hh => ?_) he hpl
  obtain ⟨vs, H1, I1, r1, n, ev, hn, q1⟩ := hh
  subst ev
  refine ⟨I1.kIn, ?_⟩
  cases r1 with
  | cons rv rn =>
    rename_i v' us'
    cases rn
    obtain ⟨tn, rfl⟩ := rv
    show wpAny _ _ (call (.ref C) [.int (n : Int) tn]) _ _ _
    have hlim := I1.nolimit
    obtain ⟨mb, hb1, hb2⟩ := I1.mod.blt
    have G1 := I1.mod.glob.keeps I1.bk
    have B1 := hb1.keeps I1.bk
    obtain ⟨hp, g, dr, tk, os⟩ := s1
    refine wpAny_call (PySem.NTX.nt_made T I1.kIn G1 B1 ((hb2 "super" (by decide)).trans (by decide +kernel)) hlim (by have := hr.dp; omega) hn fun h' tk' e d M => ?_)
    show MkP X pins σ Q (.ref e) ⟨h', g, dr, tk', os⟩
    obtain ⟨oe, fv, hoe, hc, hd, hdat, h1⟩ := M.obj
    have hns := M.ns
    obtain ⟨G', g1, g2⟩ := restrict h' fun b => decide (b ≠ e)
    have gk : ∀ b, b ≠ e → G'.get? b = h'.get? b := fun b hb => g1 b (decide_eq_true hb)
    have ge : G'.get? e = none := g2 e (by simp)
    have old : ∀ b o, hp.get? b = some o → G'.get? b = some o := fun b o q => (gk b (Nat.ne_of_lt (Nat.lt_of_lt_of_le (Heap.lt_size q) M.new))).trans (M.keep b o q)
    have ob : ObjOk X.prog X.w (L2.upd H1 d (.xd [(("word" : Str), .int (n : Int))])) G' d (.xd [(("word" : Str), .int (n : Int))]) :=
      ⟨_, hns.at (fun o q => (gk d M.dne).trans q), fun f => relO_word (v := .int (n : Int)) (v' := .int (n : Int) tn) ⟨tn, rfl⟩ f⟩
    have J : Inv X pins σ (L2.upd H1 d (.xd [(("word" : Str), .int (n : Int))])) ⟨G', g, dr, tk', os⟩ := I1.laid (t' := tk') old M.dbig ob
    refine ⟨e, oe, fv, ⟨G', g, dr, tk', os⟩, _, .ref C, some d, rfl, J, fun b o q => ?_, ge, hoe, ⟨hc, hd⟩, hdat, h1, ?_, rfl, I1.bare, raises_own T.ox.exC T.ox.tyC, q1 d (I1.hok.fresh M.dbig)⟩
    · by_cases hb : b = e
      · have q' : G'.get? b = some o := q
        rw [hb, ge] at q'
        cases q'
      · exact (gk b hb).symm.trans q
    · rw [upd_ne (Ne.symm M.dne)]
      exact I1.hok.fresh M.new
end Hr
/-! ### which error it is -/
namespace Hr
open PySem PySem.Spec PyProof.Rows L2
section
variable {X : Cx}
/-- a call in a try's body -/
theorem pe_cT {k j : Nat} {x : Str} {sp : Sp} {W : WX} {e : Expr} {es : List Expr} {t : TA} {p pos : Pos} (c : Cal X.K X.mg (L2.CX X.prog X.w) X.prog X.w X.base k x [] sp) (hr : Room j X.A) (tk : Takes X W) (ha : PA X (e :: es) t) (hk : k ≤ j := by decide) (hg : Gl X x := by rfl)
    (hdb : (x == ("__debug__" : Str)) = false := by decide) (he : starEach (e :: es) X.env = (false, eval e X.env) :: starEach es X.env := by rfl) (hpl : (backTo pos (starEach es X.env)).any (·.1) = false := by rfl) :
    PE X (.Call (.Name x p) (e :: es) [] pos) (tCallS sp (WE W) t) := by
  obtain ⟨f, fd, ps, ds, F, hm, kp, b, d⟩ := c.ex
  cases d
  exact pe_callS F (hr.mono hk) hg hm kp b (fun σ => passAt tk σ) ha hdb he hpl
end
def errWords : List Str := ["row", "count", "rank", "place", "tree", "pairs", "turn", "text"]
def wordAt (k : Nat) : Str := errWords.getD k ""
theorem errWords_at {i : Nat} (h : i < 8) : (errWords.map V.str)[i]? = some (.str (wordAt i)) := by
  have h' : i < errWords.length := h
  unfold wordAt
  rw [List.getElem?_map, List.getElem?_eq_getElem h', List.getD_eq_getElem?_getD, List.getElem?_eq_getElem h']
  rfl
def flagsOf (k : Nat) : List V := (List.range 8).map fun j => V.bl (decide (j = k))
theorem flags_at {i k : Nat} (h : i < 8) : (flagsOf k)[i]? = some (.bl (decide (i = k))) := by
  unfold flagsOf
  rw [List.getElem?_map, List.getElem?_range h]
  rfl
theorem join_one (y w : Str) : Txt.join y [w] = w := by
  rw [TL.join_eq]
  rfl
/-- an error of the k-th class among the eight at cs -/
structure IsErr (K : PySem.W.Frag) (cs : Nat → Addr) (k : Nat) : Prop where
  lt : k < 8
  c : ExcC K (cs k)
  kit : ∀ j, j < 8 → PySem.W.kitOne K (.ref (cs k)) (.ref (cs j)) = some (decide (j = k))
  ve : PySem.W.kitOne K (.ref (cs k)) (.type "ValueError") = some true
theorem ref_only {C : Addr} : ∀ u, RelV (.ref C) u → u = Value.ref C := fun _ h => h
theorem scWord : FnScope ["_law_error", "_law_words_here", "_law_one", "_law_other", "_law_flags", "_law_word_here", "_law_flag"] ["_law_error"] (defScope sWord) := ⟨rfl, rfl, rfl, by decide +kernel, rfl, by decide +kernel, by decide +kernel⟩
section
variable {P : Program} {w : World} {K : PySem.W.Frag} {mg : Str → Option Value} {base : Heap} {cs : Nat → Addr}
def spWord (K : PySem.W.Frag) (cs : Nat → Addr) : Sp := fun vs H Q _ => ∃ (a : Addr) (k : Nat), vs = [.ref a] ∧ H a = some (ExT (.ref (cs k)) none a) ∧ IsErr K cs k ∧ ∀ H', Same H H' → Q (.str (wordAt k)) H'
theorem word_ok {f : Addr} {fd : FuncData} (F : Fun K "_law_word" "_law_word" sWord f fd) (g0 : mg "NoRow" = some (.ref (cs 0))) (g1 : mg "NoCount" = some (.ref (cs 1))) (g2 : mg "NoRank" = some (.ref (cs 2))) (g3 : mg "NoPlace" = some (.ref (cs 3)))
    (g4 : mg "NoTree" = some (.ref (cs 4))) (g5 : mg "NoPairs" = some (.ref (cs 5))) (g6 : mg "NoTurn" = some (.ref (cs 6))) (g7 : mg "NoText" = some (.ref (cs 7))) (misi : mg "isinstance" = none) (mzip : mg "zip" = none) : FnOk P w K mg base CX0 1 f fd ["_law_error"] (spWord K cs) := by
  refine F.ok scWord (fun vs H Q E h => ?_) (fun cdv A outer s H vs Q E hr h => ?_)
  · obtain ⟨a, k, rfl, _⟩ := h
    rfl
  · obtain ⟨a, k, rfl, ea, er, q⟩ := h
    have nd := scWord.nd
    refine ⟨_, (pss_cons (ps_set (i := 1) nd rfl (.inl rfl) (pe_lst (pa_cons pe_str (pa_cons pe_str (pa_cons pe_str (pa_cons pe_str (pa_cons pe_str (pa_cons pe_str (pa_cons pe_str (pa_cons pe_str pa_nil))))))))))
    (pss_cons (ps_set (i := 2) nd rfl (.inl rfl) (pe_lst (pa_cons (pe_callB call_isT (by rfl) misi (by decide +kernel) (pa_cons (pv 0) (pa_cons (pe_glob (v := .ref (cs 0)) (by rfl) g0 rfl) pa_nil)))
      (pa_cons (pe_callB call_isT (by rfl) misi (by decide +kernel) (pa_cons (pv 0) (pa_cons (pe_glob (v := .ref (cs 1)) (by rfl) g1 rfl) pa_nil)))
      (pa_cons (pe_callB call_isT (by rfl) misi (by decide +kernel) (pa_cons (pv 0) (pa_cons (pe_glob (v := .ref (cs 2)) (by rfl) g2 rfl) pa_nil)))
      (pa_cons (pe_callB call_isT (by rfl) misi (by decide +kernel) (pa_cons (pv 0) (pa_cons (pe_glob (v := .ref (cs 3)) (by rfl) g3 rfl) pa_nil))) pa_nil))))))
    (pss_cons (ps_set (i := 3) nd rfl (.inl rfl) (pe_lst (pa_cons (pe_callB call_isT (by rfl) misi (by decide +kernel) (pa_cons (pv 0) (pa_cons (pe_glob (v := .ref (cs 4)) (by rfl) g4 rfl) pa_nil)))
      (pa_cons (pe_callB call_isT (by rfl) misi (by decide +kernel) (pa_cons (pv 0) (pa_cons (pe_glob (v := .ref (cs 5)) (by rfl) g5 rfl) pa_nil)))
      (pa_cons (pe_callB call_isT (by rfl) misi (by decide +kernel) (pa_cons (pv 0) (pa_cons (pe_glob (v := .ref (cs 6)) (by rfl) g6 rfl) pa_nil))) pa_nil)))))
    (pss_cons (ps_set (i := 4) nd rfl (.inl rfl) (pe_op op_cat (pe_op op_cat (pv 2) (pv 3)) (pe_lst (pa_cons (pe_callB call_isT (by rfl) misi (by decide +kernel) (pa_cons (pv 0) (pa_cons (pe_glob (v := .ref (cs 7)) (by rfl) g7 rfl) pa_nil))) pa_nil))))
    (pss_one (ps_ret (pe_join pe_str (pe_lc (own := [("_law_word_here", 5), ("_law_flag", 6)]) (g := gTup K 2 (gCons (gName 5) (gCons (gName 6) gNil))) rfl nd (pi_zip (by rfl) mzip (pa_cons (pv 1) (pa_cons (pv 4) pa_nil)))
      (blkOk_by (N := ["_law_error", "_law_words_here", "_law_one", "_law_other", "_law_flags", "_law_word_here", "_law_flag"]) (sc := defScope sWord) (by decide +kernel))
      (fun _ _ _ _ _ => (pg_tup rfl (pgs_cons (pg_name (i := 5) nd rfl (Or.inl rfl) (Or.inr rfl)) (pgs_cons (pg_name (i := 6) nd rfl (Or.inl rfl) (Or.inr rfl)) pgs_nil)))) (fun _ _ _ _ _ => pts_one (pt_val (pv 6))) (fun _ _ _ _ _ => (pv 5)))))))))), ?_⟩
    have S8 : ∀ {n : Nat}, n ≤ 100 → n ≤ sizeLine := fun h => sz (by omega)
    refine ⟨S8 (show 8 ≤ 100 by decide), fun p1 n1 => ?_⟩
    have s1 := same_upd (o := .lst (errWords.map V.str)) n1
    refine ⟨.ref a, rfl, a, cs k, _, _, _, rfl, s1 _ _ ea, er.c, ref_only, er.kit 0 (by decide), .ref a, rfl, a, cs k, _, _, _, rfl, s1 _ _ ea, er.c, ref_only, er.kit 1 (by decide), .ref a, rfl, a, cs k, _, _, _, rfl, s1 _ _ ea, er.c, ref_only, er.kit 2 (by decide), .ref a, rfl, a, cs k, _, _, _, rfl, s1 _ _ ea, er.c, ref_only, er.kit 3 (by decide), S8 (show 4 ≤ 100 by decide), fun p2 n2 => ?_⟩
    have e12 : p1 ≠ p2 := ne_of_none upd_same n2
    have s2 := s1.trans (same_upd (o := .lst [.bl (decide (0 = k)), .bl (decide (1 = k)), .bl (decide (2 = k)), .bl (decide (3 = k))]) n2)
    refine ⟨.ref a, rfl, a, cs k, _, _, _, rfl, s2 _ _ ea, er.c, ref_only, er.kit 4 (by decide), .ref a, rfl, a, cs k, _, _, _, rfl, s2 _ _ ea, er.c, ref_only, er.kit 5 (by decide), .ref a, rfl, a, cs k, _, _, _, rfl, s2 _ _ ea, er.c, ref_only, er.kit 6 (by decide), S8 (show 3 ≤ 100 by decide), fun p3 n3 => ?_⟩
    have e23 : p2 ≠ p3 := ne_of_none upd_same n3
    have e13 : p1 ≠ p3 := ne_of_none (by rw [upd_ne e12]; exact upd_same) n3
    have s3 := s2.trans (same_upd (o := .lst [.bl (decide (4 = k)), .bl (decide (5 = k)), .bl (decide (6 = k))]) n3)
    refine ⟨.ref p2, rfl, .ref p3, rfl, p2, p3, _, _, rfl, rfl, (upd_ne e23).trans upd_same, upd_same, S8 (show 7 ≤ 100 by decide), fun p4 n4 => ?_⟩
    have e14 : p1 ≠ p4 := ne_of_none (by rw [upd_ne e13, upd_ne e12]; exact upd_same) n4
    have s4 := s3.trans (same_upd (o := .lst ([.bl (decide (0 = k)), .bl (decide (1 = k)), .bl (decide (2 = k)), .bl (decide (3 = k))] ++ [.bl (decide (4 = k)), .bl (decide (5 = k)), .bl (decide (6 = k))])) n4)
    refine ⟨.ref a, rfl, a, cs k, _, _, _, rfl, s4 _ _ ea, er.c, ref_only, er.kit 7 (by decide), S8 (show 1 ≤ 100 by decide), fun p5 n5 => ?_⟩
    have e15 : p1 ≠ p5 := ne_of_none (by rw [upd_ne e14, upd_ne e13, upd_ne e12]; exact upd_same) n5
    have e45 : p4 ≠ p5 := ne_of_none upd_same n5
    have s5 := s4.trans (same_upd (o := .lst [.bl (decide (7 = k))]) n5)
    refine ⟨p4, p5, _, _, rfl, rfl, (upd_ne e45).trans upd_same, upd_same, S8 (show 8 ≤ 100 by decide), fun p6 n6 => ?_⟩
    have s6 := s5.trans (same_upd (o := .lst (flagsOf k)) n6)
    have e16 : p1 ≠ p6 := ne_of_none (by rw [upd_ne e15, upd_ne e14, upd_ne e13, upd_ne e12]; exact upd_same) n6
    have w6 : ∀ o, upd (upd (upd (upd (upd (upd H p1 (.lst (errWords.map V.str))) p2 (.lst [.bl (decide (0 = k)), .bl (decide (1 = k)), .bl (decide (2 = k)), .bl (decide (3 = k))])) p3 (.lst [.bl (decide (4 = k)), .bl (decide (5 = k)), .bl (decide (6 = k))]))
        p4 (.lst ([.bl (decide (0 = k)), .bl (decide (1 = k)), .bl (decide (2 = k)), .bl (decide (3 = k))] ++ [.bl (decide (4 = k)), .bl (decide (5 = k)), .bl (decide (6 = k))]))) p5 (.lst [.bl (decide (7 = k))])) p6 o p1 = some (.lst (errWords.map V.str)) := fun o => by
      rw [upd_ne e16, upd_ne e15, upd_ne e14, upd_ne e13, upd_ne e12]
      exact upd_same
    refine ⟨⟨_, rfl⟩, .ref p1, rfl, .ref p6, rfl, p1, p6, errWords.map V.str, flagsOf k, rfl, .inl (.inl (w6 _)), .inl (.inl upd_same), fun D nD => ?_⟩
    have w6 := w6 (.lst (flagsOf k))
    have s6 : Same H (upd (upd (upd (upd (upd (upd H p1 (.lst (errWords.map V.str))) p2 (.lst [.bl (decide (0 = k)), .bl (decide (1 = k)), .bl (decide (2 = k)), .bl (decide (3 = k))])) p3 (.lst [.bl (decide (4 = k)), .bl (decide (5 = k)), .bl (decide (6 = k))]))
        p4 (.lst ([.bl (decide (0 = k)), .bl (decide (1 = k)), .bl (decide (2 = k)), .bl (decide (3 = k))] ++ [.bl (decide (4 = k)), .bl (decide (5 = k)), .bl (decide (6 = k))]))) p5 (.lst [.bl (decide (7 = k))])) p6 (.lst (flagsOf k))) := s6
    have f6 : upd (upd (upd (upd (upd (upd H p1 (.lst (errWords.map V.str))) p2 (.lst [.bl (decide (0 = k)), .bl (decide (1 = k)), .bl (decide (2 = k)), .bl (decide (3 = k))])) p3 (.lst [.bl (decide (4 = k)), .bl (decide (5 = k)), .bl (decide (6 = k))]))
        p4 (.lst ([.bl (decide (0 = k)), .bl (decide (1 = k)), .bl (decide (2 = k)), .bl (decide (3 = k))] ++ [.bl (decide (4 = k)), .bl (decide (5 = k)), .bl (decide (6 = k))]))) p5 (.lst [.bl (decide (7 = k))])) p6 (.lst (flagsOf k)) p6 = some (.lst (flagsOf k)) := upd_same
    refine lc_it (walk_zip (K := K) (a := p1) (b := p6) (xs := errWords.map V.str) (ys := flagsOf k) (n := 8) rfl) (fun i H' => Same H H' ∧ H' p1 = some (.lst (errWords.map V.str)) ∧ H' p6 = some (.lst (flagsOf k)) ∧ H' D = some (.lst (if k < i then [V.str (wordAt k)] else []))) ?_ ?_ ?_ ?_
    · have nD' := nD
      refine ⟨same_updN s6 (s6.free nD), ?_, ?_, ?_⟩
      · rw [upd_ne (ne_of_none w6 nD)]
        exact w6
      · rw [upd_ne (ne_of_none f6 nD)]
        exact f6
      · rw [upd_same, if_neg (Nat.not_lt_zero _)]
    · rintro i H' _ ⟨_, h1, h2, _⟩
      exact ⟨.inl (.inl h1), .inl (.inl h2)⟩
    · rintro i x H1 H2 hi ⟨sm, h1, h2, hD⟩ ⟨T, u, v, rfl, nT, rfl, eu, ev⟩
      have eu : u = .str (wordAt i) := by
        have : (errWords.map V.str)[i]? = some u := eu
        rw [errWords_at hi] at this
        exact (Option.some.inj this).symm
      have ev : v = .bl (decide (i = k)) := by
        have : (flagsOf k)[i]? = some v := ev
        rw [flags_at hi] at this
        exact (Option.some.inj this).symm
      subst eu ev
      have st := same_upd (o := .tup [.str (wordAt i), .bl (decide (i = k))]) nT
      refine ⟨T, _, rfl, .inl (.inl upd_same), rfl, _, _, rfl, _, _, rfl, rfl, rfl, ?_⟩
      refine ⟨_, rfl, decide (i = k), rfl, ?_⟩
      have g1 := st _ _ h1
      have g2 := st _ _ h2
      have gD := st _ _ hD
      have sT := sm.trans st
      generalize upd H1 T (.tup [.str (wordAt i), .bl (decide (i = k))]) = H3 at g1 g2 gD sT ⊢
      have nD0 : H D = none := s6.free nD
      have d1 : p1 ≠ D := ne_of_none w6 nD
      have d6 : p6 ≠ D := ne_of_none f6 nD
      by_cases hk : i = k
      · rw [decide_eq_true hk]
        refine iteT ?_
        rw [if_neg (by omega)] at gD
        refine ⟨_, rfl, [], gD, szl (show 0 < 1000000 by decide), same_updN sT nD0, by rw [upd_ne d1]; exact g1, by rw [upd_ne d6]; exact g2, ?_⟩
        rw [upd_same, if_pos (by omega), hk]
        rfl
      · rw [decide_eq_false hk]
        refine iteF ?_
        refine ⟨sT, g1, g2, ?_⟩
        rw [gD]
        by_cases h : k < i
        · rw [if_pos h, if_pos (by omega)]
        · rw [if_neg h, if_neg (by omega)]
    · rintro H1 ⟨sm, h1, h2, hD⟩
      rw [if_pos er.lt] at hD
      refine ⟨_, D, [wordAt k], rfl, rfl, .inl (.inl (.inl hD)), ?_, ?_⟩
      · show ((wordAt k).length + 0) + 1 * _ ≤ 16777216
        have : (wordAt k).length ≤ 5 := by
          have hk := er.lt
          have : ∀ k, k < 8 → (wordAt k).length ≤ 5 := by decide +kernel
          exact this k hk
        have e1 : (" " : Str).length = 1 := by decide +kernel
        rw [e1]
        omega
      · rw [join_one]
        exact q H1 sm
def spWordT (K : PySem.W.Frag) (cs : Nat → Addr) : Sp := fun vs H Q _ => ∃ (a : Addr) (k : Nat) (dd : Addr) (fs : List (Str × V)), vs = [.ref a] ∧ H a = some (ExT (.ref (cs k)) (some dd) a) ∧ H dd = some (.xd fs) ∧ IsErr K cs k ∧ ∀ H', Same H H' → Q (.str (wordAt k)) H'
theorem word_okT {f : Addr} {fd : FuncData} (F : Fun K "_law_word" "_law_word" sWord f fd) (g0 : mg "NoRow" = some (.ref (cs 0))) (g1 : mg "NoCount" = some (.ref (cs 1))) (g2 : mg "NoRank" = some (.ref (cs 2))) (g3 : mg "NoPlace" = some (.ref (cs 3)))
    (g4 : mg "NoTree" = some (.ref (cs 4))) (g5 : mg "NoPairs" = some (.ref (cs 5))) (g6 : mg "NoTurn" = some (.ref (cs 6))) (g7 : mg "NoText" = some (.ref (cs 7))) (misi : mg "isinstance" = none) (mzip : mg "zip" = none) : FnOk P w K mg base CX0 1 f fd ["_law_error"] (spWordT K cs) := by
  refine F.ok scWord (fun vs H Q E h => ?_) (fun cdv A outer s H vs Q E hr h => ?_)
  · obtain ⟨a, k, dd, fs, rfl, _⟩ := h
    rfl
  · obtain ⟨a, k, dd, fs, rfl, ea, ed, er, q⟩ := h
    have nd := scWord.nd
    refine ⟨_, (pss_cons (ps_set (i := 1) nd rfl (.inl rfl) (pe_lst (pa_cons pe_str (pa_cons pe_str (pa_cons pe_str (pa_cons pe_str (pa_cons pe_str (pa_cons pe_str (pa_cons pe_str (pa_cons pe_str pa_nil))))))))))
    (pss_cons (ps_set (i := 2) nd rfl (.inl rfl) (pe_lst (pa_cons (pe_callB call_isTd (by rfl) misi (by decide +kernel) (pa_cons (pv 0) (pa_cons (pe_glob (v := .ref (cs 0)) (by rfl) g0 rfl) pa_nil)))
      (pa_cons (pe_callB call_isTd (by rfl) misi (by decide +kernel) (pa_cons (pv 0) (pa_cons (pe_glob (v := .ref (cs 1)) (by rfl) g1 rfl) pa_nil)))
      (pa_cons (pe_callB call_isTd (by rfl) misi (by decide +kernel) (pa_cons (pv 0) (pa_cons (pe_glob (v := .ref (cs 2)) (by rfl) g2 rfl) pa_nil)))
      (pa_cons (pe_callB call_isTd (by rfl) misi (by decide +kernel) (pa_cons (pv 0) (pa_cons (pe_glob (v := .ref (cs 3)) (by rfl) g3 rfl) pa_nil))) pa_nil))))))
    (pss_cons (ps_set (i := 3) nd rfl (.inl rfl) (pe_lst (pa_cons (pe_callB call_isTd (by rfl) misi (by decide +kernel) (pa_cons (pv 0) (pa_cons (pe_glob (v := .ref (cs 4)) (by rfl) g4 rfl) pa_nil)))
      (pa_cons (pe_callB call_isTd (by rfl) misi (by decide +kernel) (pa_cons (pv 0) (pa_cons (pe_glob (v := .ref (cs 5)) (by rfl) g5 rfl) pa_nil)))
      (pa_cons (pe_callB call_isTd (by rfl) misi (by decide +kernel) (pa_cons (pv 0) (pa_cons (pe_glob (v := .ref (cs 6)) (by rfl) g6 rfl) pa_nil))) pa_nil)))))
    (pss_cons (ps_set (i := 4) nd rfl (.inl rfl) (pe_op op_cat (pe_op op_cat (pv 2) (pv 3)) (pe_lst (pa_cons (pe_callB call_isTd (by rfl) misi (by decide +kernel) (pa_cons (pv 0) (pa_cons (pe_glob (v := .ref (cs 7)) (by rfl) g7 rfl) pa_nil))) pa_nil))))
    (pss_one (ps_ret (pe_join pe_str (pe_lc (own := [("_law_word_here", 5), ("_law_flag", 6)]) (g := gTup K 2 (gCons (gName 5) (gCons (gName 6) gNil))) rfl nd (pi_zip (by rfl) mzip (pa_cons (pv 1) (pa_cons (pv 4) pa_nil)))
      (blkOk_by (N := ["_law_error", "_law_words_here", "_law_one", "_law_other", "_law_flags", "_law_word_here", "_law_flag"]) (sc := defScope sWord) (by decide +kernel))
      (fun _ _ _ _ _ => (pg_tup rfl (pgs_cons (pg_name (i := 5) nd rfl (Or.inl rfl) (Or.inr rfl)) (pgs_cons (pg_name (i := 6) nd rfl (Or.inl rfl) (Or.inr rfl)) pgs_nil)))) (fun _ _ _ _ _ => pts_one (pt_val (pv 6))) (fun _ _ _ _ _ => (pv 5)))))))))), ?_⟩
    have S8 : ∀ {n : Nat}, n ≤ 100 → n ≤ sizeLine := fun h => sz (by omega)
    refine ⟨S8 (show 8 ≤ 100 by decide), fun p1 n1 => ?_⟩
    have s1 := same_upd (o := .lst (errWords.map V.str)) n1
    refine ⟨.ref a, rfl, a, cs k, dd, fs, _, _, _, rfl, s1 _ _ ea, s1 _ _ ed, er.c, ref_only, er.kit 0 (by decide), .ref a, rfl, a, cs k, dd, fs, _, _, _, rfl, s1 _ _ ea, s1 _ _ ed, er.c, ref_only, er.kit 1 (by decide), .ref a, rfl, a, cs k, dd, fs, _, _, _, rfl, s1 _ _ ea, s1 _ _ ed, er.c, ref_only, er.kit 2 (by decide), .ref a, rfl, a, cs k, dd, fs, _, _, _, rfl, s1 _ _ ea, s1 _ _ ed, er.c, ref_only, er.kit 3 (by decide), S8 (show 4 ≤ 100 by decide), fun p2 n2 => ?_⟩
    have e12 : p1 ≠ p2 := ne_of_none upd_same n2
    have s2 := s1.trans (same_upd (o := .lst [.bl (decide (0 = k)), .bl (decide (1 = k)), .bl (decide (2 = k)), .bl (decide (3 = k))]) n2)
    refine ⟨.ref a, rfl, a, cs k, dd, fs, _, _, _, rfl, s2 _ _ ea, s2 _ _ ed, er.c, ref_only, er.kit 4 (by decide), .ref a, rfl, a, cs k, dd, fs, _, _, _, rfl, s2 _ _ ea, s2 _ _ ed, er.c, ref_only, er.kit 5 (by decide), .ref a, rfl, a, cs k, dd, fs, _, _, _, rfl, s2 _ _ ea, s2 _ _ ed, er.c, ref_only, er.kit 6 (by decide), S8 (show 3 ≤ 100 by decide), fun p3 n3 => ?_⟩
    have e23 : p2 ≠ p3 := ne_of_none upd_same n3
    have e13 : p1 ≠ p3 := ne_of_none (by rw [upd_ne e12]; exact upd_same) n3
    have s3 := s2.trans (same_upd (o := .lst [.bl (decide (4 = k)), .bl (decide (5 = k)), .bl (decide (6 = k))]) n3)
    refine ⟨.ref p2, rfl, .ref p3, rfl, p2, p3, _, _, rfl, rfl, (upd_ne e23).trans upd_same, upd_same, S8 (show 7 ≤ 100 by decide), fun p4 n4 => ?_⟩
    have e14 : p1 ≠ p4 := ne_of_none (by rw [upd_ne e13, upd_ne e12]; exact upd_same) n4
    have s4 := s3.trans (same_upd (o := .lst ([.bl (decide (0 = k)), .bl (decide (1 = k)), .bl (decide (2 = k)), .bl (decide (3 = k))] ++ [.bl (decide (4 = k)), .bl (decide (5 = k)), .bl (decide (6 = k))])) n4)
    refine ⟨.ref a, rfl, a, cs k, dd, fs, _, _, _, rfl, s4 _ _ ea, s4 _ _ ed, er.c, ref_only, er.kit 7 (by decide), S8 (show 1 ≤ 100 by decide), fun p5 n5 => ?_⟩
    have e15 : p1 ≠ p5 := ne_of_none (by rw [upd_ne e14, upd_ne e13, upd_ne e12]; exact upd_same) n5
    have e45 : p4 ≠ p5 := ne_of_none upd_same n5
    have s5 := s4.trans (same_upd (o := .lst [.bl (decide (7 = k))]) n5)
    refine ⟨p4, p5, _, _, rfl, rfl, (upd_ne e45).trans upd_same, upd_same, S8 (show 8 ≤ 100 by decide), fun p6 n6 => ?_⟩
    have s6 := s5.trans (same_upd (o := .lst (flagsOf k)) n6)
    have e16 : p1 ≠ p6 := ne_of_none (by rw [upd_ne e15, upd_ne e14, upd_ne e13, upd_ne e12]; exact upd_same) n6
    have w6 : ∀ o, upd (upd (upd (upd (upd (upd H p1 (.lst (errWords.map V.str))) p2 (.lst [.bl (decide (0 = k)), .bl (decide (1 = k)), .bl (decide (2 = k)), .bl (decide (3 = k))])) p3 (.lst [.bl (decide (4 = k)), .bl (decide (5 = k)), .bl (decide (6 = k))]))
        p4 (.lst ([.bl (decide (0 = k)), .bl (decide (1 = k)), .bl (decide (2 = k)), .bl (decide (3 = k))] ++ [.bl (decide (4 = k)), .bl (decide (5 = k)), .bl (decide (6 = k))]))) p5 (.lst [.bl (decide (7 = k))])) p6 o p1 = some (.lst (errWords.map V.str)) := fun o => by
      rw [upd_ne e16, upd_ne e15, upd_ne e14, upd_ne e13, upd_ne e12]
      exact upd_same
    refine ⟨⟨_, rfl⟩, .ref p1, rfl, .ref p6, rfl, p1, p6, errWords.map V.str, flagsOf k, rfl, .inl (.inl (w6 _)), .inl (.inl upd_same), fun D nD => ?_⟩
    have w6 := w6 (.lst (flagsOf k))
    have s6 : Same H (upd (upd (upd (upd (upd (upd H p1 (.lst (errWords.map V.str))) p2 (.lst [.bl (decide (0 = k)), .bl (decide (1 = k)), .bl (decide (2 = k)), .bl (decide (3 = k))])) p3 (.lst [.bl (decide (4 = k)), .bl (decide (5 = k)), .bl (decide (6 = k))]))
        p4 (.lst ([.bl (decide (0 = k)), .bl (decide (1 = k)), .bl (decide (2 = k)), .bl (decide (3 = k))] ++ [.bl (decide (4 = k)), .bl (decide (5 = k)), .bl (decide (6 = k))]))) p5 (.lst [.bl (decide (7 = k))])) p6 (.lst (flagsOf k))) := s6
    have f6 : upd (upd (upd (upd (upd (upd H p1 (.lst (errWords.map V.str))) p2 (.lst [.bl (decide (0 = k)), .bl (decide (1 = k)), .bl (decide (2 = k)), .bl (decide (3 = k))])) p3 (.lst [.bl (decide (4 = k)), .bl (decide (5 = k)), .bl (decide (6 = k))]))
        p4 (.lst ([.bl (decide (0 = k)), .bl (decide (1 = k)), .bl (decide (2 = k)), .bl (decide (3 = k))] ++ [.bl (decide (4 = k)), .bl (decide (5 = k)), .bl (decide (6 = k))]))) p5 (.lst [.bl (decide (7 = k))])) p6 (.lst (flagsOf k)) p6 = some (.lst (flagsOf k)) := upd_same
    refine lc_it (walk_zip (K := K) (a := p1) (b := p6) (xs := errWords.map V.str) (ys := flagsOf k) (n := 8) rfl) (fun i H' => Same H H' ∧ H' p1 = some (.lst (errWords.map V.str)) ∧ H' p6 = some (.lst (flagsOf k)) ∧ H' D = some (.lst (if k < i then [V.str (wordAt k)] else []))) ?_ ?_ ?_ ?_
    · have nD' := nD
      refine ⟨same_updN s6 (s6.free nD), ?_, ?_, ?_⟩
      · rw [upd_ne (ne_of_none w6 nD)]
        exact w6
      · rw [upd_ne (ne_of_none f6 nD)]
        exact f6
      · rw [upd_same, if_neg (Nat.not_lt_zero _)]
    · rintro i H' _ ⟨_, h1, h2, _⟩
      exact ⟨.inl (.inl h1), .inl (.inl h2)⟩
    · rintro i x H1 H2 hi ⟨sm, h1, h2, hD⟩ ⟨T, u, v, rfl, nT, rfl, eu, ev⟩
      have eu : u = .str (wordAt i) := by
        have : (errWords.map V.str)[i]? = some u := eu
        rw [errWords_at hi] at this
        exact (Option.some.inj this).symm
      have ev : v = .bl (decide (i = k)) := by
        have : (flagsOf k)[i]? = some v := ev
        rw [flags_at hi] at this
        exact (Option.some.inj this).symm
      subst eu ev
      have st := same_upd (o := .tup [.str (wordAt i), .bl (decide (i = k))]) nT
      refine ⟨T, _, rfl, .inl (.inl upd_same), rfl, _, _, rfl, _, _, rfl, rfl, rfl, ?_⟩
      refine ⟨_, rfl, decide (i = k), rfl, ?_⟩
      have g1 := st _ _ h1
      have g2 := st _ _ h2
      have gD := st _ _ hD
      have sT := sm.trans st
      generalize upd H1 T (.tup [.str (wordAt i), .bl (decide (i = k))]) = H3 at g1 g2 gD sT ⊢
      have nD0 : H D = none := s6.free nD
      have d1 : p1 ≠ D := ne_of_none w6 nD
      have d6 : p6 ≠ D := ne_of_none f6 nD
      by_cases hk : i = k
      · rw [decide_eq_true hk]
        refine iteT ?_
        rw [if_neg (by omega)] at gD
        refine ⟨_, rfl, [], gD, szl (show 0 < 1000000 by decide), same_updN sT nD0, by rw [upd_ne d1]; exact g1, by rw [upd_ne d6]; exact g2, ?_⟩
        rw [upd_same, if_pos (by omega), hk]
        rfl
      · rw [decide_eq_false hk]
        refine iteF ?_
        refine ⟨sT, g1, g2, ?_⟩
        rw [gD]
        by_cases h : k < i
        · rw [if_pos h, if_pos (by omega)]
        · rw [if_neg h, if_neg (by omega)]
    · rintro H1 ⟨sm, h1, h2, hD⟩
      rw [if_pos er.lt] at hD
      refine ⟨_, D, [wordAt k], rfl, rfl, .inl (.inl (.inl hD)), ?_, ?_⟩
      · show ((wordAt k).length + 0) + 1 * _ ≤ 16777216
        have : (wordAt k).length ≤ 5 := by
          have hk := er.lt
          have : ∀ k, k < 8 → (wordAt k).length ≤ 5 := by decide +kernel
          exact this k hk
        have e1 : (" " : Str).length = 1 := by decide +kernel
        rw [e1]
        omega
      · rw [join_one]
        exact q H1 sm
theorem FnOk.or {P : Program} {w : World} {K : PySem.W.Frag} {mg : Str → Option Value} {base : Heap} {CX : CXT} {k : Nat} {f : Addr} {fd : FuncData} {ps : List Str} {s1 s2 : Sp} (F : FnOk P w K mg base CX k f fd ps s1) (G : FnOk P w K mg base CX k f fd ps s2) :
    FnOk P w K mg base CX k f fd ps (fun vs H Q E => s1 vs H Q E ∨ s2 vs H Q E) where
  len := fun vs H Q E h => h.elim (F.len vs H Q E) (G.len vs H Q E)
  run := fun A outer s H args us vs Q E hr he hb hv h => h.elim (F.run A outer s H args us vs Q E hr he hb hv) (G.run A outer s H args us vs Q E hr he hb hv)
def spWordD (K : PySem.W.Frag) (cs : Nat → Addr) : Sp := fun vs H Q E => spWord K cs vs H Q E ∨ spWordT K cs vs H Q E
theorem cal_wordD (D : Def K mg "_law_word" sWord ["_law_error"]) (g0 : mg "NoRow" = some (.ref (cs 0))) (g1 : mg "NoCount" = some (.ref (cs 1))) (g2 : mg "NoRank" = some (.ref (cs 2))) (g3 : mg "NoPlace" = some (.ref (cs 3)))
    (g4 : mg "NoTree" = some (.ref (cs 4))) (g5 : mg "NoPairs" = some (.ref (cs 5))) (g6 : mg "NoTurn" = some (.ref (cs 6))) (g7 : mg "NoText" = some (.ref (cs 7))) (misi : mg "isinstance" = none) (mzip : mg "zip" = none) : Cal K mg CX0 P w base 1 "_law_word" [] (spWordD K cs) := by
  obtain ⟨f, fd, F, hm, b⟩ := D.ex
  exact ⟨f, fd, _, [], Hr.FnOk.or (word_ok F g0 g1 g2 g3 g4 g5 g6 g7 misi mzip) (word_okT F g0 g1 g2 g3 g4 g5 g6 g7 misi mzip), hm, F.kp, b, .nil⟩
end
end Hr
/-! ### what row_of tells, or the word of its refusal -/
namespace Hr
open PySem PySem.Spec PyProof.Rows L2
theorem scTold : FnScope ["_law_text", "_law_found", "_law_told_here", "_law_error"] ["_law_text"] (defScope sTold) := ⟨rfl, rfl, rfl, by decide +kernel, rfl, by decide +kernel, by decide +kernel⟩
theorem scRefused : FnScope ["_law_row_here", "_law_found", "_law_error"] ["_law_row_here"] (defScope sRefused) := ⟨rfl, rfl, rfl, by decide +kernel, rfl, by decide +kernel, by decide +kernel⟩
section
variable {P : Program} {w : World} {K : PySem.W.Frag} {mg : Str → Option Value} {base : Heap} {cs : Nat → Addr}
def spTold : Sp := fun vs H Q _ => ∃ z : Str, vs = [.str z] ∧ ((z = "-" ∧ ∀ H', Same H H' → Q (.str "") H') ∨ ∃ (ts : List (List Nat)) (ds : List (Option (Bool × Nat))), z = Txt.join " " (ts.map mkS) ∧ z ≠ "-" ∧ ts ≠ [] ∧ (∀ t ∈ ts, 32 ∉ t) ∧ Desc ts ds ∧ ts.length ≤ 1000 ∧ z.length ≤ 100000 ∧
  (∀ g, ds = g.map some → fb 0 none 0 ds = none → ∀ H', Same H H' → Q (.str (txt (expd g))) H') ∧ ∀ k, fb 0 none 0 ds = some k → ∀ H', Same H H' → Q (.int (k : Int)) H')
theorem cal_told {CH : Addr} (D : Def K mg "_law_told" sTold ["_law_text"]) (gH : mg "HillError" = some (.ref CH)) (er : IsErr K cs 7) (ex : PySem.W.exmOne K (.ref (cs 7)) (.ref CH) = some true) (xf : XfC K (cs 7)) (noN : PySem.W.findIn K (.ref (cs 7)) "word" = some none)
    (c_row_of : Cal K mg (L2.CX P w) P w base 4 "row_of" [] (spRowOf (cs 7))) (c_word : Cal K mg CX0 P w base 1 "_law_word" [] (spWordD K cs)) (m_isinstance : mg "isinstance" = none) (mve : mg "ValueError" = none) (m_bool : mg "bool" = none) : Cal K mg CX0 P w base 5 "_law_told" [] spTold := by
  refine D.cal scTold (fun vs H Q E h => ?_) (fun f cdv A outer s H vs Q E hr h => ?_)
  · obtain ⟨z, rfl, _⟩ := h
    rfl
  · obtain ⟨z, rfl, h⟩ := h
    have nd := scTold.nd
    refine ⟨_, pss_cons (ps_set (i := 1) nd rfl (.inl rfl) pe_non) (pss_cons (ps_set (i := 2) nd rfl (.inl rfl) pe_str)
      (pss_cons (kept_try (i := 3) (c := .ref CH) (tb := fun W => tAsg (tCallS (spRowOf (cs 7)) (WE W) (tCons (tVar 0) tNil)) (gName 2)) (ts := fun _ => tAsg (tVar 3) (gName 1)) rfl rfl rfl nd rfl rfl ⟨rfl, by decide, .inl gH⟩
          (fun W pn xe tk po => pss_one (ps_set (i := 2) nd rfl (.inl rfl) (by exact (pe_cT c_row_of hr tk (pa_cons (pv 0) pa_nil)))))
          (fun a q => pss_one (ps_set (i := 1) nd rfl (.inl rfl) (pv 3))))
      (pss_cons (ps_if (pt_cmp (pc_isN (pv 1))) (pss_one (ps_ret (pv 2))) pss_nil)
      (pss_cons (ps_if (PW.pt (pw_or (pt_cmpR op_ne (pe_c c_word hr (pa_cons (pv 1) pa_nil)) pe_str (nomark _)) (pw_or (pt_not (pt_val (pe_callB call_isTd (by rfl) m_isinstance (by decide +kernel) (pa_cons (pv 1) (pa_cons (pe_bltn (v := .ty "ValueError") (u := .type "ValueError") (by rfl) mve (by decide +kernel) rfl) pa_nil))))) (pw_or1 (pt_val (pe_callB call_isi (by rfl) m_isinstance (by decide +kernel) (pa_cons (pe_xtf (pv 1)) (pa_cons (pe_bltn (v := .ty "bool") (u := .type "bool") (by rfl) m_bool (by decide +kernel) rfl) pa_nil)))))))) (pss_one (ps_ret (pe_un un_neg pe_int))) pss_nil)
      (pss_one (ps_ret (pe_xtf (pv 1)))))))), ?_⟩
    rcases h with ⟨ez, q⟩ | ⟨ts, ds, ez, hne, hts, hb, hD, hz, hzl, q, qe⟩
    · refine ⟨_, rfl, z, rfl, .inl ⟨ez, fun H1 s1 => ?_⟩⟩
      refine ⟨_, rfl, true, rfl, iteT ?_⟩
      exact ⟨_, rfl, q H1 s1⟩
    · refine ⟨_, rfl, z, rfl, .inr ⟨ts, ds, ez, hne, hts, hb, hD, hz, hzl, fun g eg ef H1 s1 => ?_, fun k ef H1 d s1 nd' => ⟨ex, fun a na => ?_⟩⟩⟩
      · refine ⟨_, rfl, true, rfl, iteT ?_⟩
        exact ⟨_, rfl, q g eg ef H1 s1⟩
      · have da : d ≠ a := ne_of_none upd_same na
        have s2 := (s1.trans (same_upd (o := .xd [(("word" : Str), .int (k : Int))]) nd')).trans (same_upd (o := ExT (.ref (cs 7)) (some d) a) na)
        have ea : (L2.upd (L2.upd H1 d (.xd [(("word" : Str), .int (k : Int))])) a (ExT (.ref (cs 7)) (some d) a)) a = some (ExT (.ref (cs 7)) (some d) a) := upd_same
        have ed : (L2.upd (L2.upd H1 d (.xd [(("word" : Str), .int (k : Int))])) a (ExT (.ref (cs 7)) (some d) a)) d = some (.xd [(("word" : Str), .int (k : Int))]) := by
          rw [upd_ne da]
          exact upd_same
        refine ⟨_, rfl, ?_⟩
        refine ⟨_, rfl, false, rfl, iteF ?_⟩
        refine ⟨_, rfl, .inr ⟨a, 7, d, _, rfl, ea, ed, er, fun H3 s3 => ?_⟩⟩
        have s4 := s2.trans s3
        have ea3 := s3 _ _ ea
        have ed3 := s3 _ _ ed
        have hl : List.lookup ("word" : Str) [(("word" : Str), V.int (k : Int))] = some (.int (k : Int)) := by simp [List.lookup]
        refine ⟨rfl, false, congrArg V.bl (show (!decide (V.str (wordAt 7) = V.str "text")) = false by rw [show wordAt 7 = "text" from rfl, decide_eq_true rfl]; rfl), iteF ?_⟩
        refine ⟨_, rfl, a, cs 7, d, _, _, _, true, rfl, ea3, ed3, er.c, fun u hu => hu, er.ve, true, rfl, iteF ?_⟩
        refine ⟨_, rfl, a, cs 7, d, _, _, rfl, ea3, xf, noN, ed3, hl, ?_⟩
        refine ⟨.int (k : Int), .ty "bool", _, _, false, rfl, .ty "bool", .base (.int _), kit_ty (by decide +kernel), false, rfl, iteF ?_⟩
        exact ⟨_, rfl, a, cs 7, d, _, _, rfl, ea3, xf, noN, ed3, hl, qe k ef H3 s4⟩
def spRefused : Sp := fun vs H Q _ => ∃ z : Str, vs = [.str z] ∧ z.length ≤ 1000 ∧ hillB none z = false ∧ ∀ H', Same H H' → Q (.str "row") H'
theorem cal_refused {CH : Addr} (D : Def K mg "_law_refused" sRefused ["_law_row_here"]) (gH : mg "HillError" = some (.ref CH)) (er : IsErr K cs 0) (ex : PySem.W.exmOne K (.ref (cs 0)) (.ref CH) = some true)
    (c_runs : Cal K mg (L2.CX P w) P w base 5 "runs" [] (spRuns (cs 0))) (c_word : Cal K mg CX0 P w base 1 "_law_word" [] (spWordD K cs)) : Cal K mg CX0 P w base 6 "_law_refused" [] spRefused := by
  refine D.cal scRefused (fun vs H Q E h => ?_) (fun f cdv A outer s H vs Q E hr h => ?_)
  · obtain ⟨v, rfl, _⟩ := h
    rfl
  · obtain ⟨z, rfl, hz, hbad, q⟩ := h
    have nd := scRefused.nd
    refine ⟨_, pss_cons (ps_set (i := 1) nd rfl (.inl rfl) pe_non)
      (pss_cons (kept_try (i := 2) (c := .ref CH) (tb := fun W => tDrop (tCallS (spRuns (cs 0)) (WE W) (tCons (tVar 0) tNil))) (ts := fun _ => tAsg (tVar 2) (gName 1)) rfl rfl rfl nd rfl rfl ⟨rfl, by decide, .inl gH⟩
          (fun W pn xe tk po => pss_one (ps_expr (by exact (pe_cT c_runs hr tk (pa_cons (pv 0) pa_nil)))))
          (fun a q => pss_one (ps_set (i := 1) nd rfl (.inl rfl) (pv 2))))
      (pss_one (ps_ret (pe_c c_word hr (pa_cons (pv 1) pa_nil))))), ?_⟩
    refine ⟨_, rfl, z, rfl, hz, fun l el ok => ?_, fun _ H1 s1 => ⟨ex, fun a na => ?_⟩⟩
    · rw [el, row_hillB ok] at hbad
      cases hbad
    · refine ⟨_, rfl, ?_⟩
      exact ⟨_, rfl, .inl ⟨a, 0, rfl, upd_same, er, fun H2 s2 => q H2 ((s1.trans (same_upd na)).trans s2)⟩⟩
end
end Hr
/-! ### the law's own words of a row -/
namespace Hr
open PySem PySem.Spec PyProof.Rows L2
theorem grp_rep {b : Bool} {t : List Bool} (h : ∀ p, (grp t)[0]? = some p → p.1 ≠ b) : ∀ n : Nat, grp (List.replicate (n + 1) b ++ t) = (b, n + 1) :: grp t
  | 0 => by
    show (match grp t with
      | [] => [(b, 1)]
      | (d, n) :: g => if b = d then (d, n + 1) :: g else (b, 1) :: (d, n) :: g) = _
    cases e : grp t with
    | nil => rfl
    | cons p g =>
      obtain ⟨d, m⟩ := p
      have := h (d, m) (by rw [e]; rfl)
      exact if_neg (fun z => this z.symm)
  | n + 1 => by
    have ih := grp_rep h n
    show (match grp (List.replicate (n + 1) b ++ t) with
      | [] => [(b, 1)]
      | (d, n) :: g => if b = d then (d, n + 1) :: g else (b, 1) :: (d, n) :: g) = _
    rw [ih]
    exact if_pos rfl
theorem grp_expd : ∀ {g : List (Bool × Nat)}, Alt g → grp (expd g) = g
  | [], _ => rfl
  | [(b, n)], h => by
    have h : 1 ≤ n := h
    obtain ⟨m, rfl⟩ : ∃ m, n = m + 1 := ⟨n - 1, by omega⟩
    have := grp_rep (b := b) (t := []) (fun p e => by cases e) m
    show grp (List.replicate (m + 1) b ++ []) = _
    rw [this]
    rfl
  | (b, n) :: (c, k) :: r, h => by
    obtain ⟨h1, h2, h3⟩ := h
    have h1 : 1 ≤ n := h1
    obtain ⟨m, rfl⟩ : ∃ m, n = m + 1 := ⟨n - 1, by omega⟩
    have ih := grp_expd h3
    have := grp_rep (b := b) (t := expd ((c, k) :: r)) (fun p e => by
      rw [ih] at e
      have e : (c, k) = p := Option.some.inj e
      rw [← e]
      exact fun z => h2 z.symm) m
    show grp (List.replicate (m + 1) b ++ expd ((c, k) :: r)) = _
    rw [this, ih]
/-- the same, place by place -/
def Pt (g : List (Bool × Nat)) : Prop := (∀ (i : Nat) (p : Bool × Nat), g[i]? = some p → 1 ≤ p.2) ∧ ∀ (i : Nat) (p q : Bool × Nat), g[i]? = some p → g[i + 1]? = some q → p.1 ≠ q.1
theorem Pt.alt : ∀ {g : List (Bool × Nat)}, Pt g → Alt g
  | [], _ => trivial
  | [p], h => h.1 0 p rfl
  | p :: q :: r, h => ⟨h.1 0 p rfl, h.2 0 p q rfl rfl, Pt.alt ⟨fun i x e => h.1 (i + 1) x e, fun i x y e1 e2 => h.2 (i + 1) x y e1 e2⟩⟩
theorem alt_pt : ∀ {g : List (Bool × Nat)}, Alt g → ∀ i p q, g[i]? = some p → g[i + 1]? = some q → p.1 ≠ q.1
  | [], _, i, p, q, e, _ => by cases e
  | [x], _, i, p, q, _, e => by cases i <;> cases e
  | x :: y :: r, h, 0, p, q, e1, e2 => by
    have e1 : x = p := Option.some.inj e1
    have e2 : y = q := Option.some.inj e2
    rw [← e1, ← e2]
    exact h.2.1
  | x :: y :: r, h, i + 1, p, q, e1, e2 => alt_pt (g := y :: r) h.2.2 i p q e1 e2
theorem alt_sign {g : List (Bool × Nat)} (h : Alt g) {p0 : Bool × Nat} (h0 : g[0]? = some p0) : ∀ i p, g[i]? = some p → p.1 = (if i % 2 = 0 then p0.1 else !p0.1)
  | 0, p, e => by
    rw [h0] at e
    cases e
    rfl
  | i + 1, p, e => by
    have hl : i < g.length := by
      have := (List.getElem?_eq_some_iff.mp e).1
      omega
    have e' : g[i]? = some g[i] := List.getElem?_eq_getElem hl
    have ih := alt_sign h h0 i _ e'
    have d := alt_pt h i _ _ e' e
    rw [ih] at d
    rcases Nat.mod_two_eq_zero_or_one i with m | m
    · have m2 : (i + 1) % 2 ≠ 0 := by omega
      rw [if_pos m] at d
      rw [if_neg m2]
      cases hp : p.1 <;> cases hq : p0.1 <;> rw [hp, hq] at d <;> first | rfl | exact absurd rfl d
    · have m2 : (i + 1) % 2 = 0 := by omega
      rw [if_neg (by omega)] at d
      rw [if_pos m2]
      cases hp : p.1 <;> cases hq : p0.1 <;> rw [hp, hq] at d <;> first | rfl | exact absurd rfl d
theorem expd_app (g r : List (Bool × Nat)) : expd (g ++ r) = expd g ++ expd r := by
  unfold expd
  rw [List.flatMap_append]
theorem pt_more {g : List (Bool × Nat)} {c : Bool} {n : Nat} (h : Pt (g ++ [(c, n)])) : Pt (g ++ [(c, n + 1)]) := by
  have at_ : ∀ (i : Nat) (p : Bool × Nat), (g ++ [(c, n + 1)])[i]? = some p → ∃ m, (g ++ [(c, n)])[i]? = some (p.1, m) ∧ m ≤ p.2 := fun i p e => by
    rcases Nat.lt_or_ge i g.length with hl | hl
    · rw [List.getElem?_append_left hl] at e ⊢
      exact ⟨p.2, e, Nat.le_refl _⟩
    · rw [List.getElem?_append_right hl] at e ⊢
      cases hd : i - g.length with
      | zero =>
        rw [hd] at e
        have e : (c, n + 1) = p := Option.some.inj e
        rw [← e]
        exact ⟨n, rfl, by show n ≤ n + 1; omega⟩
      | succ k =>
        rw [hd] at e
        cases e
  refine ⟨fun i p e => ?_, fun i p q e1 e2 => ?_⟩
  · obtain ⟨m, e', hm⟩ := at_ i p e
    have := h.1 i _ e'
    exact Nat.le_trans this hm
  · obtain ⟨m1, e1', _⟩ := at_ i p e1
    obtain ⟨m2, e2', _⟩ := at_ _ q e2
    exact h.2 i (p.1, m1) (q.1, m2) e1' e2'
theorem pt_snoc {g : List (Bool × Nat)} {b : Bool} (h : Pt g) (hl : ∀ p, g[g.length - 1]? = some p → p.1 ≠ b) : Pt (g ++ [(b, 1)]) := by
  have at_ : ∀ (i : Nat) (p : Bool × Nat), (g ++ [(b, 1)])[i]? = some p → g[i]? = some p ∨ (i = g.length ∧ p = (b, 1)) := fun i p e => by
    rcases Nat.lt_or_ge i g.length with hl | hl
    · rw [List.getElem?_append_left hl] at e
      exact .inl e
    · rw [List.getElem?_append_right hl] at e
      cases hd : i - g.length with
      | zero =>
        rw [hd] at e
        exact .inr ⟨by omega, (Option.some.inj e).symm⟩
      | succ k =>
        rw [hd] at e
        cases e
  refine ⟨fun i p e => ?_, fun i p q e1 e2 => ?_⟩
  · rcases at_ i p e with e | ⟨_, rfl⟩
    · exact h.1 i p e
    · exact Nat.le_refl 1
  · rcases at_ i p e1 with e1 | ⟨i1, rfl⟩
    · rcases at_ _ q e2 with e2 | ⟨i2, rfl⟩
      · exact h.2 i p q e1 e2
      · exact hl p (by rw [← i2]; exact e1)
    · rcases at_ _ q e2 with e2 | ⟨i2, _⟩
      · have := (List.getElem?_eq_some_iff.mp e2).1
        omega
      · omega
end Hr
namespace Hr
open PySem PySem.Spec PyProof.Rows L2
theorem scWords : FnScope ["_law_row_here", "_law_words_here", "_law_place", "_law_sign", "_law_k"] ["_law_row_here"] (defScope sWords) := ⟨rfl, rfl, rfl, by decide +kernel, rfl, by decide +kernel, by decide +kernel⟩
theorem set_last {α : Type} (l : List α) (a b : α) : (l ++ [a]).set l.length b = l ++ [b] := by
  induction l with
  | nil => rfl
  | cons x l ih =>
    show x :: (l ++ [a]).set l.length b = x :: (l ++ [b])
    rw [ih]
theorem ixN_last {α : Type} (l : List α) (a : α) : ixN (l ++ [a]).length (-1) = some l.length := by
  unfold ixN
  rw [List.length_append]
  show (if (0 : Int) ≤ -1 then _ else if -((l.length + 1 : Nat) : Int) ≤ -1 then some ((-1 : Int) + ((l.length + 1 : Nat) : Int)).toNat else none) = _
  rw [if_neg (by decide), if_pos (by omega)]
  congr 1
  omega
theorem last_run {g : List (Bool × Nat)} {l : List Bool} {i : Nat} (hp : Pt g) (he : expd g = l.take (i + 1)) (hi : i < l.length) : ∃ g' c n, g = g' ++ [(c, n)] ∧ l[i]? = some c := by
  rcases List.eq_nil_or_concat g with rfl | ⟨g', ⟨c, n⟩, e⟩
  · have := congrArg List.length he
    rw [List.length_take] at this
    have h0 : (expd []).length = 0 := rfl
    omega
  · rw [List.concat_eq_append] at e
    subst e
    refine ⟨g', c, n, rfl, ?_⟩
    have hn := hp.1 g'.length (c, n) (by rw [List.getElem?_append_right (Nat.le_refl _), Nat.sub_self]; rfl)
    have hn : 1 ≤ n := hn
    rw [expd_app] at he
    have he : expd g' ++ (List.replicate n c ++ []) = l.take (i + 1) := he
    rw [List.append_nil] at he
    have hlen := congrArg List.length he
    rw [List.length_append, List.length_replicate, List.length_take] at hlen
    have h1 : (l.take (i + 1))[i]? = l[i]? := by
      rw [List.getElem?_take, if_pos (by omega)]
    rw [← h1, ← he, List.getElem?_append_right (by omega), List.getElem?_replicate, if_pos (by omega)]
theorem expd_more (g : List (Bool × Nat)) (c : Bool) (n : Nat) : expd (g ++ [(c, n + 1)]) = expd (g ++ [(c, n)]) ++ [c] := by
  rw [expd_app, expd_app]
  show expd g ++ (List.replicate (n + 1) c ++ []) = expd g ++ (List.replicate n c ++ []) ++ [c]
  rw [List.append_nil, List.append_nil, List.replicate_succ', List.append_assoc]
section
variable {P : Program} {w : World} {K : PySem.W.Frag} {mg : Str → Option Value} {base : Heap}
def cntV (g : List (Bool × Nat)) : List V := g.map fun p => V.int (p.2 : Int)
def spWords : Sp := fun vs H Q _ => ∃ l : List Bool, vs = [.str (txt l)] ∧ l.length ≤ 1000 ∧ (l = [] ∨ l[0]? = some true) ∧ ∀ H' p, Same H H' → H p = none → H' p = some (.lst (((grp l).map wordOf).map V.str)) → Q (.ref p) H'
set_option maxHeartbeats 1000000 in
theorem cal_words (D : Def K mg "_law_words" sWords ["_law_row_here"]) (m_enumerate : mg "enumerate" = none) (m_range : mg "range" = none) (m_len : mg "len" = none) (m_str : mg "str" = none) : Cal K mg CX0 P w base 1 "_law_words" [] spWords := by
  refine D.cal scWords (fun vs H Q E h => ?_) (fun f cdv A outer s H vs Q E hr h => ?_)
  · obtain ⟨l, rfl, _⟩ := h
    rfl
  · obtain ⟨l, rfl, hl, hf, q⟩ := h
    have nd := scWords.nd
    refine ⟨_, (pss_cons (ps_set (i := 1) nd rfl (.inr rfl) (pe_lst pa_nil))
    (pss_cons (ps_for PassesOwn.never rfl (pi_es (by rfl) m_enumerate (pa_cons (pv 0) pa_nil)) (pg_tup rfl (pgs_cons (pg_name (i := 2) nd rfl (.inl rfl)) (pgs_cons (pg_name (i := 3) nd rfl (.inl rfl)) pgs_nil))) (pss_one (ps_if (PW.pt (pw_and (pt_cmpR op_gt (pv 2) pe_int (nomark _)) (pw_and1 (pt_cmpR op_eq (pe_ix ix_str (pv 0) (pe_op op_sub (pv 2) pe_int) (fun _ _ => rfl)) (pv 3) (nomark _)))))
        (pss_one (ps_asg (pe_op op_add (pe_ix ix_list (pv 1) (pe_un un_neg pe_int) (fun _ _ => rfl)) pe_int) (pg_sub (pv 1) (pe_un un_neg pe_int) set_list)))
        (pss_one (ps_expr (pe_bm PySem.F.plainAttrs_list PySem.F.slot_list_append PySem.F.type_list_append mt_append (pv 1) (pa_cons pe_int pa_nil)))))))
    (pss_one (ps_ret (pe_lc (own := [("_law_k", 4)]) (g := gName 4) (tt := tYes) rfl nd (pi_range1 (by rfl) m_range (pa_cons (pe_callB call_len_seq (by rfl) m_len PySem.boot_len (pa_cons (pv 1) pa_nil)) pa_nil)) (blkOk_by (N := ["_law_row_here", "_law_words_here", "_law_place", "_law_sign", "_law_k"]) (sc := defScope sWords) (by decide +kernel)) (fun _ _ _ _ _ => (pg_name (i := 4) nd rfl (Or.inl rfl) (Or.inr rfl))) (fun _ _ _ _ _ => pts_nil)
      (fun _ _ _ _ _ => (pe_op op_add_str (pe_ix (r := rIxS) ix_str pe_str (pe_op op_mod (pv 4) pe_int) (fun _ _ => rfl)) (pe_callTy call_str_int (by rfl) m_str (by decide +kernel) (pa_cons (pe_ix (r := rIxL K) ix_list (pv 1) (pv 4) (fun _ _ => rfl)) pa_nil))))))))), ?_⟩
    refine ⟨sz (by decide), fun b nb => ?_⟩
    have sb := same_upd (o := .lst []) nb
    refine ⟨.str (txt l), rfl, txt l, rfl, ?_⟩
    refine for_it walk_es (fun i σ H' => ∃ (y2 y3 : Option V) (g : List (Bool × Nat)), σ = [some (.str (txt l)), some (.ref b), y2, y3, none] ∧ Same H H' ∧ Pt g ∧ expd g = l.take i ∧ H' b = some (.lst (cntV g))) ?_ (fun _ _ _ _ _ => trivial) ?_ ?_
    · exact ⟨none, none, [], rfl, sb, ⟨(fun i p e => by cases e), (fun i p q e => by cases e)⟩, rfl, upd_same⟩
    · rintro i x σ H3 H4 hi ⟨y2, y3, g, rfl, sm, pt, ex, eb⟩ ⟨T, k0, v, rfl, nT, rfl, ek, ev⟩
      have ek : k0 = .int (i : Int) := (Option.some.inj ek).symm
      subst ek
      rw [txt_size] at hi
      obtain ⟨c, hb⟩ : ∃ c, l[i]? = some c := ⟨_, List.getElem?_eq_getElem hi⟩
      have ev : v = .str ⟨#[code c]⟩ := by
        have ev : ((txt l).cps[i]?).map (fun c => V.str ⟨#[c]⟩) = some v := ev
        rw [txt_at, hb] at ev
        exact (Option.some.inj ev).symm
      subst ev
      have ei : l.take (i + 1) = l.take i ++ [c] := by
        rw [List.take_succ, hb]
        rfl
      refine ⟨T, _, rfl, .inl (.inl upd_same), rfl, _, _, rfl, _, _, rfl, rfl, ?_⟩
      have st1 := same_upd (o := .tup [.int (i : Int), .str ⟨#[code c]⟩]) nT
      have eb1 := st1 _ _ eb
      have sm1 := sm.trans st1
      clear st1
      generalize L2.upd H3 T (.tup [.int (i : Int), .str ⟨#[code c]⟩]) = H5 at eb1 sm1 ⊢
      have glen : g.length ≤ 1000 := by
        have h1 := grp_len (expd g)
        rw [grp_expd pt.alt] at h1
        have h2 := congrArg List.length ex
        rw [List.length_take] at h2
        omega
      have clen : (cntV g).length < sizeLine := szl (by unfold cntV; rw [List.length_map]; omega)
      refine ⟨_, rfl, (i : Int), 0, rfl, rfl, decide (0 < (i : Int)), rfl, ?_⟩
      have add : (∀ p, g[g.length - 1]? = some p → p.1 ≠ c) → ∃ (y2 y3 : Option V) (g' : List (Bool × Nat)), [some (.str (txt l)), some (.ref b), some (.int (i : Int)), some (.str ⟨#[code c]⟩), none] = [some (.str (txt l)), some (.ref b), y2, y3, none] ∧ Same H (L2.upd H5 b (.lst (cntV g ++ [.int 1]))) ∧ Pt g' ∧ expd g' = l.take (i + 1) ∧ (L2.upd H5 b (.lst (cntV g ++ [.int 1]))) b = some (.lst (cntV g')) := fun hne => by
        refine ⟨_, _, g ++ [(c, 1)], rfl, same_updN sm1 nb, pt_snoc pt hne, ?_, ?_⟩
        · rw [expd_app, ex, ei]
          rfl
        · rw [upd_same]
          unfold cntV
          rw [List.map_append]
          rfl
      cases i with
      | zero =>
        refine iteF (iteF ?_)
        refine ⟨_, rfl, .inl ⟨rfl, _, .inl (.inl eb1)⟩, b, _, _, rfl, rfl, eb1, clen, ?_⟩
        refine add fun p e => ?_
        have := expd_len e
        have hp := pt.1 _ _ e
        rw [ex] at this
        exact absurd (Nat.le_trans hp this) (by rw [List.take_zero]; decide)
      | succ i =>
        obtain ⟨g', c', n, eg, hc'⟩ := last_run pt ex (by omega)
        have ez : atI (txt l).cps.toList (((i + 1 : Nat) : Int) - 1) = some (code c') := by
          rw [show ((i + 1 : Nat) : Int) - 1 = (i : Int) by omega]
          refine atI_nat ?_
          show (l.map code)[i]? = _
          rw [List.getElem?_map, hc']
          rfl
        rw [decide_eq_true (show (0 : Int) < ((i + 1 : Nat) : Int) by omega)]
        refine iteT ?_
        refine ⟨_, rfl, _, rfl, ((i + 1 : Nat) : Int), 1, rfl, rfl, txt l, _, code c', rfl, rfl, sz (by rw [txt_len]; omega), ez, _, rfl, rfl, decide (c' = c), congrArg V.bl (by cases c' <;> cases c <;> decide), ?_⟩
        by_cases e : c' = c
        · rw [decide_eq_true e]
          subst e eg
          refine iteT ?_
          have ec : cntV (g' ++ [(c', n)]) = cntV g' ++ [.int (n : Int)] := by
            unfold cntV
            rw [List.map_append]
            rfl
          rw [ec] at eb1
          refine ⟨_, rfl, 1, rfl, b, _, -1, .int (n : Int), rfl, rfl, .inl (.inl eb1), atI_last _ _, (n : Int), 1, rfl, rfl, _, rfl, 1, rfl, b, _, _, (cntV g').length, rfl, rfl, eb1, ixN_last _ _, ?_⟩
          rw [set_last]
          refine ⟨_, _, g' ++ [(c', n + 1)], rfl, same_updN sm1 nb, pt_more pt, ?_, ?_⟩
          · rw [expd_more, ex, ei]
          · rw [upd_same]
            unfold cntV
            rw [List.map_append]
            rfl
        · rw [decide_eq_false e]
          refine iteF ?_
          refine ⟨_, rfl, .inl ⟨rfl, _, .inl (.inl eb1)⟩, b, _, _, rfl, rfl, eb1, clen, ?_⟩
          refine add fun p hp => ?_
          rw [eg, List.length_append] at hp
          have hp : (g' ++ [(c', n)])[g'.length + 1 - 1]? = some p := hp
          rw [Nat.add_sub_cancel, List.getElem?_append_right (Nat.le_refl _), Nat.sub_self] at hp
          have hp : (c', n) = p := Option.some.inj hp
          rw [← hp]
          exact e
    · rintro σ H3 ⟨y2, y3, g, rfl, sm, pt, ex, eb⟩
      rw [txt_size, List.take_length] at ex
      have eg : g = grp l := by rw [← ex, grp_expd pt.alt]
      subst eg
      have gl := grp_len l
      have cl : (cntV (grp l)).length = (grp l).length := List.length_map ..
      have par := fun (p0 : Bool × Nat) (h0 : (grp l)[0]? = some p0) => alt_sign (alt_grp l) h0
      refine ⟨_, rfl, b, _, rfl, .inl (.inl (.inl eb)), (((grp l).length : Nat) : Int), by rw [cl], by omega, by omega, fun D nD => ?_⟩
      have bD : b ≠ D := ne_of_none eb nD
      refine lc_range (lo := 0) (n := (grp l).length) (fun i H' => Same H H' ∧ H' b = some (.lst (cntV (grp l))) ∧ H' D = some (.lst ((((grp l).take i).map wordOf).map V.str))) ?_ ?_ ?_
      · refine ⟨same_updN sm (sm.free nD), ?_, upd_same⟩
        rw [upd_ne bD]
        exact eb
      · intro i H4 hi ⟨s4, e4, eD⟩
        obtain ⟨⟨c, n⟩, hg⟩ : ∃ q, (grp l)[i]? = some q := ⟨_, List.getElem?_eq_getElem hi⟩
        have hn : n ≤ 1000 := by
          have := expd_len hg
          rw [expd_grp] at this
          exact Nat.le_trans this hl
        have hc : c = (if i % 2 = 0 then true else false) := by
          obtain ⟨p0, h0⟩ : ∃ p0, (grp l)[0]? = some p0 := ⟨_, List.getElem?_eq_getElem (by omega)⟩
          have h1 := par p0 h0 i _ hg
          have h2 : p0.1 = true := by
            cases l with
            | nil => cases h0
            | cons x r =>
              obtain ⟨m, g', e⟩ := grp_ne x r
              rw [e] at h0
              have h0 : (x, m + 1) = p0 := Option.some.inj h0
              rw [← h0]
              rcases hf with hf | hf
              · cases hf
              · exact Option.some.inj hf
          rw [h2] at h1
          exact h1
        have e0 : atI ("ud" : Str).cps.toList ((0 + (i : Int)) % 2) = some (code c) := by
          rw [eud]
          rcases Nat.mod_two_eq_zero_or_one i with m | m
          · rw [show (0 + (i : Int)) % 2 = ((0 : Nat) : Int) by omega]
            rw [if_pos m] at hc
            rw [hc]
            exact atI_nat rfl
          · rw [show (0 + (i : Int)) % 2 = ((1 : Nat) : Int) by omega]
            rw [if_neg (by omega)] at hc
            rw [hc]
            exact atI_nat rfl
        refine ⟨rfl, ?_⟩
        unfold tYes
        refine iteT ?_
        refine ⟨_, rfl, 0 + (i : Int), 2, rfl, rfl, (by show (0 : Int) < 2; decide), "ud", _, code c, rfl, rfl, sz (by decide +kernel), e0, ?_⟩
        refine ⟨_, rfl, _, rfl, b, _, _, .int (n : Int), rfl, rfl, .inl (.inl e4), at_of (j := i) (by omega) (by unfold cntV; rw [List.getElem?_map, hg]; rfl), (n : Int), rfl, small_log (by omega), ?_⟩
        have dl := dec_len (n := n) (by omega)
        refine ⟨sgn c, dec n, rfl, rfl, sz (by rw [show (sgn c).length = 1 from rfl]; omega), ?_⟩
        refine ⟨_, eD, szl (by rw [List.length_map, List.length_map, List.length_take]; omega), same_updN s4 (sm.free nD), ?_, ?_⟩
        · rw [upd_ne bD]
          exact e4
        · rw [upd_same, take_snoc hg, List.map_append, List.map_append]
          rfl
      · intro H4 ⟨s4, e4, eD⟩
        rw [List.take_length] at eD
        exact q H4 D s4 (sm.free nD) eD
end
end Hr
/-! ### spoilt words, as descriptions -/
namespace Hr
open PySem PySem.Spec PyProof.Rows L2
/-- good words all the way -/
def Walk (h : Int) (a : Option Bool) : List (Bool × Nat) → Prop
  | [] => True
  | p :: r => a ≠ some p.1 ∧ 0 ≤ h + up p ∧ Walk (h + up p) (some p.1) r
def endH (h : Int) : List (Bool × Nat) → Int
  | [] => h
  | p :: r => endH (h + up p) r
def endA (a : Option Bool) : List (Bool × Nat) → Option Bool
  | [] => a
  | p :: r => endA (some p.1) r
theorem fb_walk : ∀ {g : List (Bool × Nat)} {h : Int} {a : Option Bool} {k : Nat} {r : List (Option (Bool × Nat))}, Walk h a g → fb h a k (g.map some ++ r) = fb (endH h g) (endA a g) (k + g.length) r
  | [], h, a, k, r, _ => rfl
  | p :: g, h, a, k, r, w => by
    obtain ⟨w1, w2, w3⟩ := w
    have ih := fb_walk (k := k + 1) (r := r) w3
    show (if a = some p.1 then some k else if h + up p < 0 then some k else fb (h + up p) (some p.1) (k + 1) (g.map some ++ r)) = _
    rw [if_neg w1, if_neg (by omega), ih, List.length_cons]
    show fb _ _ (k + 1 + g.length) r = fb (endH (h + up p) g) (endA (some p.1) g) (k + (g.length + 1)) r
    rw [show k + 1 + g.length = k + (g.length + 1) by omega]
theorem Walk.take : ∀ {g : List (Bool × Nat)} {h : Int} {a : Option Bool} (n : Nat), Walk h a g → Walk h a (g.take n)
  | [], h, a, n, _ => by
    rw [List.take_nil]
    trivial
  | p :: g, h, a, 0, _ => trivial
  | p :: g, h, a, n + 1, w => ⟨w.1, w.2.1, Walk.take n w.2.2⟩
theorem endA_snoc : ∀ (g : List (Bool × Nat)) (a : Option Bool) (p : Bool × Nat), endA a (g ++ [p]) = some p.1
  | [], a, p => rfl
  | q :: g, a, p => endA_snoc g (some q.1) p
theorem endH_snoc : ∀ (g : List (Bool × Nat)) (h : Int) (p : Bool × Nat), endH h (g ++ [p]) = endH h g + up p
  | [], h, p => rfl
  | q :: g, h, p => endH_snoc g (h + up q) p
theorem walk_end : ∀ {g : List (Bool × Nat)} {h : Int} {a : Option Bool}, 0 ≤ h → Walk h a g → 0 ≤ endH h g
  | [], h, a, h0, _ => h0
  | p :: g, h, a, h0, w => walk_end (g := g) w.2.1 w.2.2
theorem okb_reps (b : Bool) : ∀ (n : Nat) (h : Nat) (r : List Bool), okb none h (List.replicate n b ++ r) = true → ∃ h' : Nat, (h' : Int) = (h : Int) + up (b, n) ∧ okb none h' r = true
  | 0, h, r, e => ⟨h, by cases b <;> (show (h : Int) = _; simp [up]), e⟩
  | n + 1, h, r, e => by
    have e : okb none h (b :: (List.replicate n b ++ r)) = true := e
    cases b with
    | true =>
      obtain ⟨_, e2⟩ := okb_up e
      obtain ⟨h', e3, e4⟩ := okb_reps true n (h + 1) r e2
      refine ⟨h', ?_, e4⟩
      rw [e3]
      show ((h + 1 : Nat) : Int) + (n : Int) = (h : Int) + ((n + 1 : Nat) : Int)
      omega
    | false =>
      obtain ⟨e1, e2⟩ := okb_down e
      obtain ⟨h', e3, e4⟩ := okb_reps false n (h - 1) r e2
      refine ⟨h', ?_, e4⟩
      rw [e3]
      show ((h - 1 : Nat) : Int) + -(n : Int) = (h : Int) + -((n + 1 : Nat) : Int)
      omega
theorem walk_of : ∀ {g : List (Bool × Nat)} {h : Nat} {a : Option Bool}, Alt g → (∀ p, g[0]? = some p → a ≠ some p.1) → okb none h (expd g) = true → Walk h a g ∧ endH h g = 0
  | [], h, a, _, _, ok => by
    refine ⟨trivial, ?_⟩
    have := okb_len ok
    have h0 : (expd []).length = 0 := rfl
    show (h : Int) = 0
    omega
  | p :: g, h, a, al, ha, ok => by
    have ok : okb none h (List.replicate p.2 p.1 ++ expd g) = true := ok
    obtain ⟨h', e1, e2⟩ := okb_reps p.1 p.2 h (expd g) ok
    have e1 : (h' : Int) = (h : Int) + up p := e1
    have al' : Alt g ∧ ∀ q, g[0]? = some q → some p.1 ≠ some q.1 := by
      cases g with
      | nil => exact ⟨trivial, fun q e => by cases e⟩
      | cons x r =>
        refine ⟨al.2.2, fun q e => ?_⟩
        have e : x = q := Option.some.inj e
        rw [← e]
        exact fun z => al.2.1 (Option.some.inj z)
    obtain ⟨w, en⟩ := walk_of (h := h') (a := some p.1) al'.1 al'.2 e2
    refine ⟨⟨ha p rfl, by omega, ?_⟩, ?_⟩
    · rw [← e1]
      exact w
    · show endH ((h : Int) + up p) g = 0
      rw [← e1]
      exact en
/-- the runs of a hill row: good words -/
theorem walk_grp {l : List Bool} (ok : okb none 0 l = true) : Walk 0 none (grp l) ∧ endH 0 (grp l) = 0 := by
  have := walk_of (g := grp l) (h := 0) (a := none) (alt_grp l) (fun p _ => by simp) (by rw [expd_grp]; exact ok)
  exact this
/-- and so they lead to no error -/
theorem fb_grp {l : List Bool} (ok : okb none 0 l = true) : fb 0 none 0 ((grp l).map some) = none := by
  obtain ⟨w, e⟩ := walk_grp ok
  have := fb_walk (k := 0) (r := []) w
  rw [List.append_nil] at this
  rw [this, e]
  rfl
/-- an error behind n good words -/
theorem fb_at {g : List (Bool × Nat)} (w : Walk 0 none g) {n : Nat} (hn : n ≤ g.length) (r : List (Option (Bool × Nat))) : fb 0 none 0 ((g.take n).map some ++ r) = fb (endH 0 (g.take n)) (endA none (g.take n)) n r := by
  rw [fb_walk (w.take n), List.length_take, Nat.min_eq_left hn, Nat.zero_add]
theorem fb_none_at {g : List (Bool × Nat)} (w : Walk 0 none g) {n : Nat} (hn : n ≤ g.length) (r : List (Option (Bool × Nat))) : fb 0 none 0 ((g.take n).map some ++ none :: r) = some n := by
  rw [fb_at w hn]
  rfl
theorem fb_twice {g : List (Bool × Nat)} (w : Walk 0 none g) {n : Nat} {p : Bool × Nat} (hp : g[n]? = some p) (r : List (Option (Bool × Nat))) : fb 0 none 0 ((g.take n).map some ++ some p :: some p :: r) = some (n + 1) := by
  have hl := (List.getElem?_eq_some_iff.mp hp).1
  have e : g.take (n + 1) = g.take n ++ [p] := take_snoc hp
  have := fb_at w (n := n + 1) (by omega) (some p :: r)
  rw [e, endA_snoc] at this
  have e2 : (g.take n ++ [p]).map some ++ some p :: r = (g.take n).map some ++ some p :: some p :: r := by simp
  rw [← e2, this]
  exact if_pos rfl
theorem last_down {g : List (Bool × Nat)} (w : Walk 0 none g) (e : endH 0 g = 0) (al : Alt g) (hne : g ≠ []) : ∃ g' n, g = g' ++ [(false, n)] ∧ 0 < endH 0 g' ∧ 1 ≤ n := by
  rcases List.eq_nil_or_concat g with rfl | ⟨g', ⟨c, n⟩, eg⟩
  · exact absurd rfl hne
  · rw [List.concat_eq_append] at eg
    have hn : 1 ≤ n := alt_pos al (i := g'.length) (p := (c, n)) (by rw [eg, List.getElem?_append_right (Nat.le_refl _), Nat.sub_self]; rfl)
    have w' := w.take g'.length
    rw [eg, List.take_left'] at w'
    · have h0 := walk_end (Int.le_refl 0) w'
      rw [eg, endH_snoc] at e
      cases c with
      | true =>
        have e : endH 0 g' + (n : Int) = 0 := e
        omega
      | false =>
        have e : endH 0 g' + -(n : Int) = 0 := e
        exact ⟨g', n, eg, by omega, hn⟩
    · rfl
theorem fb_short {g : List (Bool × Nat)} (w : Walk 0 none g) (e : endH 0 g = 0) (al : Alt g) (hne : g ≠ []) : fb 0 none 0 (g.dropLast.map some) = some (g.length - 1) := by
  obtain ⟨g', n, eg, h1, _⟩ := last_down w e al hne
  have ed : g.dropLast = g.take (g.length - 1) := List.dropLast_eq_take
  have := fb_at w (n := g.length - 1) (by omega) []
  rw [List.append_nil] at this
  rw [ed, this]
  have et : g.take (g.length - 1) = g' := by
    rw [← ed, eg, List.dropLast_concat]
  rw [et]
  exact if_neg (by omega)
theorem fb_more {g : List (Bool × Nat)} (w : Walk 0 none g) (e : endH 0 g = 0) (al : Alt g) (hne : g ≠ []) : fb 0 none 0 (g.map some ++ [some (true, 1)]) = some (g.length + 1) ∧ fb 0 none 0 (g.map some ++ [some (true, 1), some (false, 2)]) = some (g.length + 1) := by
  obtain ⟨g', n, eg, h1, _⟩ := last_down w e al hne
  have ea : endA none g = some false := by rw [eg, endA_snoc]
  constructor
  · rw [fb_walk w, e, ea, Nat.zero_add]
    rfl
  · rw [fb_walk w, e, ea, Nat.zero_add]
    rfl
theorem fb_less {g : List (Bool × Nat)} (w : Walk 0 none g) (e : endH 0 g = 0) (al : Alt g) (hne : g ≠ []) : fb 0 none 0 ((g.drop 1).map some) = some 0 := by
  cases g with
  | nil => exact absurd rfl hne
  | cons p r =>
    have h0 : 0 ≤ (0 : Int) + up p := w.2.1
    have hp : p.1 = true := by
      cases hb : p.1 with
      | true => rfl
      | false =>
        have h1 : 1 ≤ p.2 := alt_pos al (i := 0) rfl
        have : up p = -(p.2 : Int) := by
          unfold up
          rw [hb]
          rfl
        omega
    cases r with
    | nil =>
      have e : (0 : Int) + up p = 0 := e
      have h1 : 1 ≤ p.2 := alt_pos al (i := 0) rfl
      have : up p = (p.2 : Int) := by
        unfold up
        rw [hp]
        rfl
      omega
    | cons q r =>
      have hq : q.1 = false := by
        have := al.2.1
        rw [hp] at this
        cases hb : q.1 with
        | false => rfl
        | true => exact absurd hb.symm this
      have h1 : 1 ≤ q.2 := alt_pos al (i := 1) rfl
      have hu : up q = -(q.2 : Int) := by
        unfold up
        rw [hq]
        rfl
      show (if none = some q.1 then some 0 else if (0 : Int) + up q < 0 then some 0 else fb (0 + up q) (some q.1) (0 + 1) (r.map some)) = some 0
      rw [if_neg (by simp), if_pos (by omega)]
end Hr
namespace Hr
open PySem PySem.Spec PyProof.Rows L2
theorem scSpoilt : FnScope ["_law_words_here", "_law_at", "_law_way", "_law_word_here", "_law_changed"] ["_law_words_here", "_law_at", "_law_way"] (defScope sSpoilt) := ⟨rfl, rfl, rfl, by decide +kernel, rfl, by decide +kernel, by decide +kernel⟩
def wl (p : Bool × Nat) : List Nat := code p.1 :: TL.numL p.2
def Clean (x : List Nat) : Prop := (∀ c ∈ x, c ≠ 32 ∧ c ≠ 45) ∧ x.length ≤ 10
theorem word_wl (p : Bool × Nat) : wordOf p = mkS (wl p) := word_mk p
theorem words_wl (g : List (Bool × Nat)) : (g.map wordOf).map V.str = ((g.map wl).map mkS).map V.str := by
  have : g.map wordOf = (g.map wl).map mkS := by
    rw [List.map_map]
    exact List.map_congr_left fun p _ => word_wl p
  rw [this]
theorem Desc.app : ∀ {ts us : List (List Nat)} {ds es : List (Option (Bool × Nat))}, Desc ts ds → Desc us es → Desc (ts ++ us) (ds ++ es)
  | [], us, [], es, _, h => h
  | t :: ts, us, d :: ds, es, h, h' => ⟨h.1, h.2.1, Desc.app h.2.2 h'⟩
  | [], us, _ :: _, es, h, _ => h.elim
  | _ :: _, us, [], es, h, _ => h.elim
theorem num_small {n : Nat} (h : n ≤ 401) : (TL.numL n).length ≤ 3 := TL.numL_len (k := 3) (by decide) (by omega)
theorem desc_good : ∀ {g : List (Bool × Nat)}, (∀ p ∈ g, 1 ≤ p.2 ∧ p.2 ≤ 400) → Desc (g.map wl) (g.map some)
  | [], _ => trivial
  | (b, n) :: g, h => by
    obtain ⟨h1, h2⟩ := h (b, n) (List.mem_cons_self ..)
    have := num_small (n := n) (Nat.le_trans h2 (by decide))
    exact ⟨by show (TL.numL n).length + 1 ≤ 1000; omega, RunD.good h1 h2, desc_good fun p hp => h p (List.mem_cons_of_mem _ hp)⟩
theorem code_clean (b : Bool) : code b ≠ 32 ∧ code b ≠ 45 := by cases b <;> decide
theorem num_clean (n : Nat) : ∀ c ∈ TL.numL n, c ≠ 32 ∧ c ≠ 45 := fun c hc => by
  have := TL.numL_digits n c hc
  omega
theorem clean_wl {p : Bool × Nat} (h : p.2 ≤ 401) : Clean (wl p) := by
  refine ⟨fun c hc => ?_, ?_⟩
  · rcases List.mem_cons.mp hc with rfl | hc
    · exact code_clean _
    · exact num_clean _ c hc
  · have := num_small h
    show (TL.numL p.2).length + 1 ≤ 10
    omega
/-- words that row_of refuses at k -/
structure Bad13 (ts : List (List Nat)) (k : Nat) : Prop where
  ex : ∃ ds, Desc ts ds ∧ fb 0 none 0 ds = some k
  ne : ts ≠ []
  cl : ∀ x ∈ ts, Clean x
  len : ts.length ≤ 403
/-- good words of a row -/
structure Good13 (g : List (Bool × Nat)) : Prop where
  al : Alt g
  w : Walk 0 none g
  e : endH 0 g = 0
  ne : g ≠ []
  b : ∀ p ∈ g, 1 ≤ p.2 ∧ p.2 ≤ 400
  len : g.length ≤ 400
theorem good_part {g : List (Bool × Nat)} (G : Good13 g) {h : List (Bool × Nat)} (s : ∀ p ∈ h, p ∈ g) : Desc (h.map wl) (h.map some) ∧ ∀ x ∈ h.map wl, Clean x := by
  refine ⟨desc_good fun p hp => G.b p (s p hp), fun x hx => ?_⟩
  obtain ⟨p, hp, rfl⟩ := List.mem_map.mp hx
  exact clean_wl (Nat.le_trans (G.b p (s p hp)).2 (by decide))
theorem bad_in {g : List (Bool × Nat)} (G : Good13 g) {n m : Nat} (hn : n < g.length) (hm : n ≤ m) {t : List Nat} (hr : RunD t none) (hc : Clean t) : Bad13 ((g.map wl).take n ++ [t] ++ (g.map wl).drop m) n := by
  obtain ⟨d1, c1⟩ := good_part G (h := g.take n) fun p hp => List.mem_of_mem_take hp
  obtain ⟨d2, c2⟩ := good_part G (h := g.drop m) fun p hp => List.mem_of_mem_drop hp
  rw [← List.map_take, ← List.map_drop]
  have hl : (g.take n).length = n := by rw [List.length_take]; omega
  refine ⟨⟨(g.take n).map some ++ [none] ++ (g.drop m).map some, (d1.app (us := [t]) (es := [none]) ⟨Nat.le_trans hc.2 (by decide), hr, trivial⟩).app d2, ?_⟩, by simp, fun x hx => ?_, ?_⟩
  · rw [List.append_assoc]
    exact fb_none_at G.w (Nat.le_of_lt hn) _
  · rcases List.mem_append.mp hx with hx | hx
    · rcases List.mem_append.mp hx with hx | hx
      · exact c1 x hx
      · rw [List.mem_singleton.mp hx]
        exact hc
    · exact c2 x hx
  · have := G.len
    rw [List.length_append, List.length_append, List.length_map, List.length_map, hl, List.length_drop]
    show n + 1 + (g.length - m) ≤ 403
    omega
theorem bad_twice {g : List (Bool × Nat)} (G : Good13 g) {n : Nat} {p : Bool × Nat} (hp : g[n]? = some p) : Bad13 ((g.map wl).take n ++ [wl p] ++ (g.map wl).drop n) (n + 1) := by
  have hn := (List.getElem?_eq_some_iff.mp hp).1
  have hm := List.mem_of_getElem? hp
  obtain ⟨d1, c1⟩ := good_part G (h := g.take n) fun p hp => List.mem_of_mem_take hp
  obtain ⟨d2, c2⟩ := good_part G (h := g.drop n) fun p hp => List.mem_of_mem_drop hp
  obtain ⟨d0, c0⟩ := good_part G (h := [p]) fun q hq => by rw [List.mem_singleton.mp hq]; exact hm
  rw [← List.map_take, ← List.map_drop]
  have hl : (g.take n).length = n := by rw [List.length_take]; omega
  have ed : g.drop n = p :: g.drop (n + 1) := by
    rw [List.drop_eq_getElem_cons hn]
    congr 1
    exact (List.getElem?_eq_some_iff.mp hp).2
  refine ⟨⟨(g.take n).map some ++ [some p] ++ (g.drop n).map some, (d1.app d0).app d2, ?_⟩, by simp, fun x hx => ?_, ?_⟩
  · rw [List.append_assoc, ed]
    exact fb_twice G.w hp _
  · rcases List.mem_append.mp hx with hx | hx
    · rcases List.mem_append.mp hx with hx | hx
      · exact c1 x hx
      · exact c0 x hx
    · exact c2 x hx
  · have := G.len
    rw [List.length_append, List.length_append, List.length_map, List.length_map, hl, List.length_drop]
    show n + 1 + (g.length - n) ≤ 403
    omega
theorem bad_short {g : List (Bool × Nat)} (G : Good13 g) (h2 : 2 ≤ g.length) : Bad13 ((g.map wl).dropLast) (g.length - 1) := by
  obtain ⟨d1, c1⟩ := good_part G (h := g.dropLast) fun p hp => by rw [List.dropLast_eq_take] at hp; exact List.mem_of_mem_take hp
  rw [← List.map_dropLast]
  refine ⟨⟨_, d1, fb_short G.w G.e G.al G.ne⟩, fun e => ?_, c1, ?_⟩
  · have := congrArg List.length e
    rw [List.length_map, List.length_dropLast] at this
    have h0 : ([] : List (List Nat)).length = 0 := rfl
    omega
  · have := G.len
    rw [List.length_map, List.length_dropLast]
    omega
theorem bad_more {g : List (Bool × Nat)} (G : Good13 g) : Bad13 (g.map wl ++ [wl (true, 1)]) (g.length + 1) ∧ Bad13 (g.map wl ++ [wl (true, 1), wl (false, 2)]) (g.length + 1) := by
  obtain ⟨d1, c1⟩ := good_part G (h := g) fun p hp => hp
  have dA : Desc [wl (true, 1)] [some (true, 1)] := desc_good (g := [(true, 1)]) (by decide)
  have dB : Desc [wl (true, 1), wl (false, 2)] [some (true, 1), some (false, 2)] := desc_good (g := [(true, 1), (false, 2)]) (by decide)
  obtain ⟨f1, f2⟩ := fb_more G.w G.e G.al G.ne
  have := G.len
  refine ⟨⟨⟨_, d1.app dA, f1⟩, by simp, fun x hx => ?_, ?_⟩, ⟨⟨_, d1.app dB, f2⟩, by simp, fun x hx => ?_, ?_⟩⟩
  · rcases List.mem_append.mp hx with hx | hx
    · exact c1 x hx
    · rw [List.mem_singleton.mp hx]
      exact clean_wl (by decide)
  · rw [List.length_append, List.length_map]
    show g.length + 1 ≤ 403
    omega
  · rcases List.mem_append.mp hx with hx | hx
    · exact c1 x hx
    · rcases List.mem_cons.mp hx with rfl | hx
      · exact clean_wl (by decide)
      · rw [List.mem_singleton.mp hx]
        exact clean_wl (by decide)
  · rw [List.length_append, List.length_map]
    show g.length + 2 ≤ 403
    omega
theorem good_two {g : List (Bool × Nat)} (G : Good13 g) : 2 ≤ g.length := by
  obtain ⟨g', n, eg, h1, _⟩ := last_down G.w G.e G.al G.ne
  have : g' ≠ [] := fun z => by
    rw [z] at h1
    exact absurd h1 (by decide)
  have : 1 ≤ g'.length := List.length_pos_iff.mpr this
  rw [eg, List.length_append]
  show 2 ≤ g'.length + 1
  omega
theorem bad_less {g : List (Bool × Nat)} (G : Good13 g) : Bad13 ((g.map wl).drop 1) 0 := by
  obtain ⟨d1, c1⟩ := good_part G (h := g.drop 1) fun p hp => List.mem_of_mem_drop hp
  rw [← List.map_drop]
  have h2 := good_two G
  refine ⟨⟨_, d1, fb_less G.w G.e G.al G.ne⟩, fun e => ?_, c1, ?_⟩
  · have := congrArg List.length e
    rw [List.length_map, List.length_drop] at this
    have h0 : ([] : List (List Nat)).length = 0 := rfl
    omega
  · have := G.len
    rw [List.length_map, List.length_drop]
    omega
end Hr
namespace Hr
open PySem PySem.Spec PyProof.Rows L2
theorem r1 {b : Bool} {n : Nat} : RunD (code b :: (48 :: TL.numL n)) none := .len (.zero (TL.numL_digits n))
theorem r2 {b : Bool} : RunD [code b] none := .len (.none (by decide +kernel))
theorem r3 {r : List Nat} : RunD (120 :: r) none := .sign (by decide) (by decide)
theorem r4 {b : Bool} {n : Nat} : RunD (code b :: (TL.numL n ++ [120])) none := by
  refine .len (.none ?_)
  have : Txt.isdigit (mkS (TL.numL n ++ [120])) = false := by
    show (decide ((mkS (TL.numL n ++ [120])).length > 0) && (TL.numL n ++ [120]).toArray.all Unicode.isDigit) = false
    have : (TL.numL n ++ [120]).toArray.all Unicode.isDigit = false := by
      rw [List.all_toArray, List.all_append]
      show ((TL.numL n).all Unicode.isDigit && (Unicode.isDigit 120 && true)) = false
      rw [show Unicode.isDigit 120 = false by decide +kernel, Bool.false_and, Bool.and_false]
    rw [this, Bool.and_false]
  rw [this, Bool.and_false]
theorem r5 {b : Bool} : RunD [code b, 48] none := .len (.zero (fun c hc => by cases hc))
theorem r6 {b : Bool} : RunD (code b :: TL.numL 401) none := .len (.big (by decide) (by decide))
theorem r7 {n : Nat} : RunD (TL.numL n) none := by
  cases e : TL.numL n with
  | nil => exact absurd e (TL.numL_ne n)
  | cons c r =>
    have := TL.numL_digits n c (by rw [e]; exact List.mem_cons_self ..)
    exact .sign (by omega) (by omega)
theorem clean_of {x y : List Nat} (hx : ∀ c ∈ x, c ≠ 32 ∧ c ≠ 45) (hy : ∀ c ∈ y, c ≠ 32 ∧ c ≠ 45) (hl : x.length + y.length ≤ 10) : Clean (x ++ y) := by
  refine ⟨fun c hc => ?_, by rw [List.length_append]; exact hl⟩
  rcases List.mem_append.mp hc with hc | hc
  · exact hx c hc
  · exact hy c hc
/-- the seven words that one is changed to -/
def changed (p : Bool × Nat) : List (List Nat) := [code p.1 :: (48 :: TL.numL p.2), [code p.1], 120 :: TL.numL p.2, code p.1 :: (TL.numL p.2 ++ [120]), [code p.1, 48], code p.1 :: TL.numL 401, TL.numL p.2]
theorem changed_bad {p : Bool × Nat} (h : p.2 ≤ 400) : ∀ (j : Nat) (t : List Nat), (changed p)[j]? = some t → RunD t none ∧ Clean t := by
  have hn := num_small (n := p.2) (by omega)
  have h4 := num_small (n := 401) (by omega)
  have c1 : ∀ c ∈ [code p.1], c ≠ 32 ∧ c ≠ 45 := fun c hc => by
    rw [List.mem_singleton.mp hc]
    exact code_clean _
  have cn := num_clean p.2
  intro j t e
  match j, e with
  | 0, e =>
    cases Option.some.inj e
    exact ⟨r1, clean_of (x := [code p.1]) (y := 48 :: TL.numL p.2) c1 (fun c hc => by
      rcases List.mem_cons.mp hc with rfl | hc
      · decide
      · exact cn c hc) (by show 1 + ((TL.numL p.2).length + 1) ≤ 10; omega)⟩
  | 1, e =>
    cases Option.some.inj e
    exact ⟨r2, c1, by show 1 ≤ 10; decide⟩
  | 2, e =>
    cases Option.some.inj e
    exact ⟨r3, clean_of (x := [120]) (y := TL.numL p.2) (fun c hc => by
      rw [List.mem_singleton.mp hc]
      decide) cn (by show 1 + (TL.numL p.2).length ≤ 10; omega)⟩
  | 3, e =>
    cases Option.some.inj e
    exact ⟨r4, clean_of (x := code p.1 :: TL.numL p.2) (y := [120]) (fun c hc => by
      rcases List.mem_cons.mp hc with rfl | hc
      · exact code_clean _
      · exact cn c hc) (fun c hc => by
      rw [List.mem_singleton.mp hc]
      decide) (by show (TL.numL p.2).length + 1 + 1 ≤ 10; omega)⟩
  | 4, e =>
    cases Option.some.inj e
    exact ⟨r5, clean_of (x := [code p.1]) (y := [48]) c1 (fun c hc => by
      rw [List.mem_singleton.mp hc]
      decide) (by show 2 ≤ 10; decide)⟩
  | 5, e =>
    cases Option.some.inj e
    exact ⟨r6, clean_wl (p := (p.1, 401)) (Nat.le_refl 401)⟩
  | 6, e =>
    cases Option.some.inj e
    exact ⟨r7, cn, by omega⟩
  | j + 7, e => cases e
theorem cutV_to3 {xs : List V} {n : Nat} (h : n ≤ xs.length) : cutV xs none (some (n : Int)) = xs.take n := by
  unfold cutV
  rw [HT.sIx_none, HT.sIx_nat, Nat.min_eq_left h, List.drop_zero, Nat.sub_zero]
theorem cutV_from3 {xs : List V} {n : Nat} (h : n ≤ xs.length) : cutV xs (some (n : Int)) none = xs.drop n := by
  unfold cutV
  rw [HT.sIx_none, HT.sIx_nat, Nat.min_eq_left h, List.take_of_length_le (by rw [List.length_drop]; omega)]
theorem cutV_from4 {xs : List V} {n : Nat} (h : n + 1 ≤ xs.length) : cutV xs (some ((n : Int) + 1)) none = xs.drop (n + 1) := cutV_from3 (n := n + 1) h
theorem cutV_but (xs : List V) : cutV xs none (some (-1)) = xs.dropLast := by
  unfold cutV
  rw [HT.sIx_none, List.drop_zero, Nat.sub_zero, List.dropLast_eq_take]
  have : HT.sIx xs.length xs.length (some (-1)) = xs.length - 1 := by
    show (if (-1 : Int) < 0 then ((-1 : Int) + ((xs.length : Nat) : Int)).toNat else min (-1 : Int).toNat xs.length) = _
    rw [if_pos (by decide)]
    omega
  rw [this]
theorem eu11 : ("u1" : Str) = mkS (wl (true, 1)) := by decide +kernel
theorem ed22 : ("d2" : Str) = mkS (wl (false, 2)) := by decide +kernel
section
variable {P : Program} {w : World} {K : PySem.W.Frag} {mg : Str → Option Value} {base : Heap}
def tsV (ts : List (List Nat)) : List V := (ts.map mkS).map V.str
def spSpoilt : Sp := fun vs H Q _ => ∃ (p : Addr) (g : List (Bool × Nat)) (n way : Nat), vs = [.ref p, .int (n : Int), .int (way : Int)] ∧ H p = some (.lst (tsV (g.map wl))) ∧ Good13 g ∧ n < g.length ∧ way < 13 ∧
  ∀ H' t q ts (k : Nat), Same H H' → H' t = some (.tup [.ref q, .int (k : Int)]) → H' q = some (.lst (tsV ts)) → Bad13 ts k → Q (.ref t) H'
set_option maxHeartbeats 2000000 in
theorem cal_spoilt (D : Def K mg "_law_spoilt" sSpoilt ["_law_words_here", "_law_at", "_law_way"]) (m_len : mg "len" = none) : Cal K mg CX0 P w base 1 "_law_spoilt" [] spSpoilt := by
  refine D.cal scSpoilt (fun vs H Q E h => ?_) (fun f cdv A outer s H vs Q E hr h => ?_)
  · obtain ⟨p, g, n, way, rfl, _⟩ := h
    rfl
  · obtain ⟨p, g, n, way, rfl, ep, G, hn, hw, q⟩ := h
    have nd := scSpoilt.nd
    refine ⟨_, (pss_cons (ps_set (i := 3) nd rfl (.inl rfl) (pe_ix ix_list (pv 0) (pv 1) (fun _ _ => rfl)))
    (pss_cons (ps_if (pt_cmpR op_eq (pv 2) pe_int (nomark _)) (pss_one (ps_ret (pe_tup (pa_cons (pe_op op_cat (pe_op op_cat (pe_slice sl_list (pv 0) po_none (po_some (pv 1))) (pe_lst (pa_cons (pv 3) pa_nil))) (pe_slice sl_list (pv 0) (po_some (pv 1)) po_none)) (pa_cons (pe_op op_add (pv 1) pe_int) pa_nil))))) pss_nil)
    (pss_cons (ps_if (pt_cmpR op_eq (pv 2) pe_int (nomark _)) (pss_one (ps_ret (pe_tup (pa_cons (pe_slice sl_list (pv 0) po_none (po_some (pe_un un_neg pe_int))) (pa_cons (pe_op op_sub (pe_callB call_len_seq (by rfl) m_len PySem.boot_len (pa_cons (pv 0) pa_nil)) pe_int) pa_nil))))) pss_nil)
    (pss_cons (ps_if (pt_cmpR op_eq (pv 2) pe_int (nomark _)) (pss_one (ps_ret (pe_tup (pa_cons (pe_op op_cat (pv 0) (pe_lst (pa_cons pe_str pa_nil))) (pa_cons (pe_op op_add (pe_callB call_len_seq (by rfl) m_len PySem.boot_len (pa_cons (pv 0) pa_nil)) pe_int) pa_nil))))) pss_nil)
    (pss_cons (ps_if (pt_cmpR op_eq (pv 2) pe_int (nomark _)) (pss_one (ps_ret (pe_tup (pa_cons (pe_op op_cat (pv 0) (pe_lst (pa_cons pe_str (pa_cons pe_str pa_nil)))) (pa_cons (pe_op op_add (pe_callB call_len_seq (by rfl) m_len PySem.boot_len (pa_cons (pv 0) pa_nil)) pe_int) pa_nil))))) pss_nil)
    (pss_cons (ps_if (pt_cmpR op_eq (pv 2) pe_int (nomark _)) (pss_one (ps_ret (pe_tup (pa_cons (pe_op op_cat (pe_op op_cat (pe_slice sl_list (pv 0) po_none (po_some (pv 1))) (pe_lst (pa_cons pe_str pa_nil))) (pe_slice sl_list (pv 0) (po_some (pv 1)) po_none)) (pa_cons (pv 1) pa_nil))))) pss_nil)
    (pss_cons (ps_if (pt_cmpR op_eq (pv 2) pe_int (nomark _)) (pss_one (ps_ret (pe_tup (pa_cons (pe_slice sl_list (pv 0) (po_some pe_int) po_none) (pa_cons pe_int pa_nil))))) pss_nil)
    (pss_cons (ps_set (i := 4) nd rfl (.inl rfl) (pe_lst (pa_cons (pe_op op_add_str (pe_op op_add_str (pe_ix ix_str (pv 3) pe_int (fun _ _ => rfl)) pe_str) (pe_slice sl_str (pv 3) (po_some pe_int) po_none)) (pa_cons (pe_ix ix_str (pv 3) pe_int (fun _ _ => rfl)) (pa_cons (pe_op op_add_str pe_str (pe_slice sl_str (pv 3) (po_some pe_int) po_none)) (pa_cons (pe_op op_add_str (pv 3) pe_str) (pa_cons (pe_op op_add_str (pe_ix ix_str (pv 3) pe_int (fun _ _ => rfl)) pe_str) (pa_cons (pe_op op_add_str (pe_ix ix_str (pv 3) pe_int (fun _ _ => rfl)) pe_str) (pa_cons (pe_slice sl_str (pv 3) (po_some pe_int) po_none) pa_nil)))))))))
    (pss_one (ps_ret (pe_tup (pa_cons (pe_op op_cat (pe_op op_cat (pe_slice sl_list (pv 0) po_none (po_some (pv 1))) (pe_lst (pa_cons (pe_ix ix_list (pv 4) (pe_op op_mod (pe_op op_sub (pv 2) pe_int) pe_int) (fun _ _ => rfl)) pa_nil))) (pe_slice sl_list (pv 0) (po_some (pe_op op_add (pv 1) pe_int)) po_none)) (pa_cons (pv 1) pa_nil))))))))))))), ?_⟩
    have lx : (tsV (g.map wl)).length = g.length := by
      unfold tsV
      rw [List.length_map, List.length_map, List.length_map]
    have gl := G.len
    obtain ⟨pr, hpr⟩ : ∃ pr, g[n]? = some pr := ⟨_, List.getElem?_eq_getElem hn⟩
    have hp4 := (G.b pr (List.mem_of_getElem? hpr)).2
    have ewl : (tsV (g.map wl))[n]? = some (.str (mkS (wl pr))) := by
      unfold tsV
      rw [List.getElem?_map, List.getElem?_map, List.getElem?_map, hpr]
      rfl
    have fin : ∀ H' c ts (k : Nat) (z : Int), z = (k : Int) → Same H H' → H' c = some (.lst (tsV ts)) → Bad13 ts k → ∀ t, H' t = none → Q (.ref t) (L2.upd H' t (.tup [.ref c, .int z])) := fun H' c ts k z ez sm ec B t nt => q _ t c ts k (sm.trans (same_upd nt)) (by rw [ez]; exact upd_same) ((same_upd nt) _ _ ec) B
    have S2 : 2 ≤ sizeLine := sz (by decide)
    have lz : ∀ {m : Nat}, m ≤ 1000 → m ≤ sizeLine := fun h => sz (by omega)
    -- t[:n] + [x] + t[m:]
    have three : ∀ (x : List Nat) (m : Nat), (tsV (g.map wl)).take n ++ [.str (mkS x)] ++ (tsV (g.map wl)).drop m = tsV ((g.map wl).take n ++ [x] ++ (g.map wl).drop m) := fun x m => by
      unfold tsV
      rw [List.map_append, List.map_append, List.map_append, List.map_append, List.map_take, List.map_take, List.map_drop, List.map_drop]
      rfl
    refine ⟨_, rfl, _, rfl, p, _, _, .str (mkS (wl pr)), rfl, rfl, .inl (.inl ep), atI_nat ewl, ?_⟩
    by_cases w0 : way = 0
    · subst w0
      refine ⟨_, rfl, rfl, true, congrArg V.bl (decide_eq_true rfl), iteT ?_⟩
      refine ⟨_, rfl, _, rfl, (n : Int), rfl, p, _, rfl, .inl (.inl ((Same.refl H) _ _ ep)), fun c1 n1 => ?_⟩
      rw [cutV_to3 (by rw [lx]; omega)]
      have v1 := (Same.refl H).trans (same_upd (o := .lst ((tsV (g.map wl)).take n)) n1)
      have f1 : (L2.upd H c1 (.lst ((tsV (g.map wl)).take n))) c1 = some (.lst ((tsV (g.map wl)).take n)) := upd_same
      generalize L2.upd H c1 (.lst ((tsV (g.map wl)).take n)) = J1 at v1 f1 ⊢
      refine ⟨_, rfl, lz (show 1 ≤ 1000 by decide), fun c2 n2 => ?_⟩
      have u2 := same_upd (o := .lst [.str (mkS (wl pr))]) n2
      have f2 : (L2.upd J1 c2 (.lst [.str (mkS (wl pr))])) c2 = some (.lst [.str (mkS (wl pr))]) := upd_same
      have f1 := u2 _ _ f1
      have v2 := v1.trans u2
      clear u2
      generalize L2.upd J1 c2 (.lst [.str (mkS (wl pr))]) = J2 at v2 f1 f2 ⊢
      refine ⟨c1, c2, _, _, rfl, rfl, f1, f2, lz (by rw [List.length_take, lx]; show min n g.length + 1 ≤ 1000; omega), fun c3 n3 => ?_⟩
      have v3 := v2.trans (same_upd (o := .lst ((tsV (g.map wl)).take n ++ [.str (mkS (wl pr))])) n3)
      have f3 : (L2.upd J2 c3 (.lst ((tsV (g.map wl)).take n ++ [.str (mkS (wl pr))]))) c3 = some (.lst ((tsV (g.map wl)).take n ++ [.str (mkS (wl pr))])) := upd_same
      generalize L2.upd J2 c3 (.lst ((tsV (g.map wl)).take n ++ [.str (mkS (wl pr))])) = J3 at v3 f3 ⊢
      refine ⟨_, rfl, _, rfl, (n : Int), rfl, p, _, rfl, .inl (.inl (v3 _ _ ep)), fun c4 n4 => ?_⟩
      rw [cutV_from3 (by rw [lx]; omega)]
      have u4 := same_upd (o := .lst ((tsV (g.map wl)).drop (n))) n4
      have f4 : (L2.upd J3 c4 (.lst ((tsV (g.map wl)).drop (n)))) c4 = some (.lst ((tsV (g.map wl)).drop (n))) := upd_same
      have f3 := u4 _ _ f3
      have v4 := v3.trans u4
      clear u4
      generalize L2.upd J3 c4 (.lst ((tsV (g.map wl)).drop (n))) = J4 at v4 f3 f4 ⊢
      refine ⟨c3, c4, _, _, rfl, rfl, f3, f4, lz (by rw [List.length_append, List.length_take, List.length_drop, lx]; show min n g.length + 1 + (g.length - (n)) ≤ 1000; omega), fun c5 n5 => ?_⟩
      have v5 := v4.trans (same_upd (o := .lst ((tsV (g.map wl)).take n ++ [.str (mkS (wl pr))] ++ (tsV (g.map wl)).drop (n))) n5)
      have f5 : (L2.upd J4 c5 (.lst ((tsV (g.map wl)).take n ++ [.str (mkS (wl pr))] ++ (tsV (g.map wl)).drop (n)))) c5 = some (.lst (tsV ((g.map wl).take n ++ [wl pr] ++ (g.map wl).drop (n)))) := by
        rw [upd_same]
        exact congrArg (fun l => some (HO.lst l)) (three _ _)
      exact ⟨_, rfl, _, _, rfl, rfl, S2, fin _ c5 _ (n + 1) _ (by omega) v5 f5 (bad_twice G hpr)⟩
    refine ⟨_, rfl, rfl, false, congrArg V.bl (decide_eq_false fun z => w0 (by have := V.int.inj z; omega)), iteF ?_⟩
    by_cases w1 : way = 1
    · subst w1
      refine ⟨_, rfl, rfl, true, congrArg V.bl (decide_eq_true rfl), iteT ?_⟩
      refine ⟨_, rfl, 1, rfl, -1, rfl, p, _, rfl, .inl (.inl ep), fun c1 n1 => ?_⟩
      rw [cutV_but]
      have v1 := same_upd (o := .lst ((tsV (g.map wl)).dropLast)) n1
      have f1 : (L2.upd H c1 (.lst ((tsV (g.map wl)).dropLast))) c1 = some (.lst (tsV ((g.map wl).dropLast))) := by
        rw [upd_same]
        unfold tsV
        rw [← List.map_dropLast, ← List.map_dropLast]
      exact ⟨_, rfl, p, _, rfl, .inl (.inl (.inl (v1 _ _ ep))), _, 1, rfl, rfl, S2, fin _ c1 _ (g.length - 1) _ (by rw [lx]; omega) v1 f1 (bad_short G (good_two G))⟩
    refine ⟨_, rfl, rfl, false, congrArg V.bl (decide_eq_false fun z => w1 (by have := V.int.inj z; omega)), iteF ?_⟩
    by_cases w2 : way = 2
    · subst w2
      refine ⟨_, rfl, rfl, true, congrArg V.bl (decide_eq_true rfl), iteT ?_⟩
      refine ⟨_, rfl, lz (show 1 ≤ 1000 by decide), fun c1 n1 => ?_⟩
      have u1 := same_upd (o := .lst [.str "u1"]) n1
      refine ⟨p, c1, _, _, rfl, rfl, u1 _ _ ep, upd_same, lz (by rw [lx]; show g.length + 1 ≤ 1000; omega), fun c2 n2 => ?_⟩
      have v2 := u1.trans (same_upd (o := .lst (tsV (g.map wl) ++ [.str "u1"])) n2)
      refine ⟨_, rfl, p, _, rfl, .inl (.inl (.inl (v2 _ _ ep))), _, 1, rfl, rfl, S2, fin _ c2 _ (g.length + 1) _ (by rw [lx]; omega) v2 ?_ (bad_more G).1⟩
      rw [upd_same]
      unfold tsV
      rw [List.map_append, List.map_append, eu11]
      rfl
    refine ⟨_, rfl, rfl, false, congrArg V.bl (decide_eq_false fun z => w2 (by have := V.int.inj z; omega)), iteF ?_⟩
    by_cases w3 : way = 3
    · subst w3
      refine ⟨_, rfl, rfl, true, congrArg V.bl (decide_eq_true rfl), iteT ?_⟩
      refine ⟨_, rfl, lz (show 2 ≤ 1000 by decide), fun c1 n1 => ?_⟩
      have u1 := same_upd (o := .lst [.str "u1", .str "d2"]) n1
      refine ⟨p, c1, _, _, rfl, rfl, u1 _ _ ep, upd_same, lz (by rw [lx]; show g.length + 2 ≤ 1000; omega), fun c2 n2 => ?_⟩
      have v2 := u1.trans (same_upd (o := .lst (tsV (g.map wl) ++ [.str "u1", .str "d2"])) n2)
      refine ⟨_, rfl, p, _, rfl, .inl (.inl (.inl (v2 _ _ ep))), _, 1, rfl, rfl, S2, fin _ c2 _ (g.length + 1) _ (by rw [lx]; omega) v2 ?_ (bad_more G).2⟩
      rw [upd_same]
      unfold tsV
      rw [List.map_append, List.map_append, eu11, ed22]
      rfl
    refine ⟨_, rfl, rfl, false, congrArg V.bl (decide_eq_false fun z => w3 (by have := V.int.inj z; omega)), iteF ?_⟩
    by_cases w4 : way = 4
    · subst w4
      refine ⟨_, rfl, rfl, true, congrArg V.bl (decide_eq_true rfl), iteT ?_⟩
      refine ⟨_, rfl, _, rfl, (n : Int), rfl, p, _, rfl, .inl (.inl ((Same.refl H) _ _ ep)), fun c1 n1 => ?_⟩
      rw [cutV_to3 (by rw [lx]; omega)]
      have v1 := (Same.refl H).trans (same_upd (o := .lst ((tsV (g.map wl)).take n)) n1)
      have f1 : (L2.upd H c1 (.lst ((tsV (g.map wl)).take n))) c1 = some (.lst ((tsV (g.map wl)).take n)) := upd_same
      generalize L2.upd H c1 (.lst ((tsV (g.map wl)).take n)) = J1 at v1 f1 ⊢
      rw [show ("" : Str) = mkS [] by decide +kernel]
      refine ⟨lz (show 1 ≤ 1000 by decide), fun c2 n2 => ?_⟩
      have u2 := same_upd (o := .lst [.str (mkS [])]) n2
      have f2 : (L2.upd J1 c2 (.lst [.str (mkS [])])) c2 = some (.lst [.str (mkS [])]) := upd_same
      have f1 := u2 _ _ f1
      have v2 := v1.trans u2
      clear u2
      generalize L2.upd J1 c2 (.lst [.str (mkS [])]) = J2 at v2 f1 f2 ⊢
      refine ⟨c1, c2, _, _, rfl, rfl, f1, f2, lz (by rw [List.length_take, lx]; show min n g.length + 1 ≤ 1000; omega), fun c3 n3 => ?_⟩
      have v3 := v2.trans (same_upd (o := .lst ((tsV (g.map wl)).take n ++ [.str (mkS [])])) n3)
      have f3 : (L2.upd J2 c3 (.lst ((tsV (g.map wl)).take n ++ [.str (mkS [])]))) c3 = some (.lst ((tsV (g.map wl)).take n ++ [.str (mkS [])])) := upd_same
      generalize L2.upd J2 c3 (.lst ((tsV (g.map wl)).take n ++ [.str (mkS [])])) = J3 at v3 f3 ⊢
      refine ⟨_, rfl, _, rfl, (n : Int), rfl, p, _, rfl, .inl (.inl (v3 _ _ ep)), fun c4 n4 => ?_⟩
      rw [cutV_from3 (by rw [lx]; omega)]
      have u4 := same_upd (o := .lst ((tsV (g.map wl)).drop (n))) n4
      have f4 : (L2.upd J3 c4 (.lst ((tsV (g.map wl)).drop (n)))) c4 = some (.lst ((tsV (g.map wl)).drop (n))) := upd_same
      have f3 := u4 _ _ f3
      have v4 := v3.trans u4
      clear u4
      generalize L2.upd J3 c4 (.lst ((tsV (g.map wl)).drop (n))) = J4 at v4 f3 f4 ⊢
      refine ⟨c3, c4, _, _, rfl, rfl, f3, f4, lz (by rw [List.length_append, List.length_take, List.length_drop, lx]; show min n g.length + 1 + (g.length - (n)) ≤ 1000; omega), fun c5 n5 => ?_⟩
      have v5 := v4.trans (same_upd (o := .lst ((tsV (g.map wl)).take n ++ [.str (mkS [])] ++ (tsV (g.map wl)).drop (n))) n5)
      have f5 : (L2.upd J4 c5 (.lst ((tsV (g.map wl)).take n ++ [.str (mkS [])] ++ (tsV (g.map wl)).drop (n)))) c5 = some (.lst (tsV ((g.map wl).take n ++ [[]] ++ (g.map wl).drop (n)))) := by
        rw [upd_same]
        exact congrArg (fun l => some (HO.lst l)) (three _ _)
      exact ⟨_, rfl, S2, fin _ c5 _ n _ rfl v5 f5 (bad_in G hn (Nat.le_refl n) .empty ⟨(fun c hc => by cases hc), by decide⟩)⟩
    refine ⟨_, rfl, rfl, false, congrArg V.bl (decide_eq_false fun z => w4 (by have := V.int.inj z; omega)), iteF ?_⟩
    by_cases w5 : way = 5
    · subst w5
      refine ⟨_, rfl, rfl, true, congrArg V.bl (decide_eq_true rfl), iteT ?_⟩
      refine ⟨_, rfl, 1, rfl, p, _, rfl, .inl (.inl ep), fun c1 n1 => ?_⟩
      rw [show (1 : Int) = ((1 : Nat) : Int) from rfl, cutV_from3 (by rw [lx]; omega)]
      have v1 := same_upd (o := .lst ((tsV (g.map wl)).drop 1)) n1
      refine ⟨S2, fin _ c1 _ 0 _ rfl v1 ?_ (bad_less G)⟩
      rw [upd_same]
      unfold tsV
      rw [← List.map_drop, ← List.map_drop]
    refine ⟨_, rfl, rfl, false, congrArg V.bl (decide_eq_false fun z => w5 (by have := V.int.inj z; omega)), iteF ?_⟩
    have zn : (mkS (TL.numL pr.2)).length ≤ 3 := by rw [mkS_len]; exact num_small (by omega)
    have zw : (mkS (wl pr)).length ≤ 4 := by
      have : (mkS (wl pr)).length = (TL.numL pr.2).length + 1 := mkS_len _
      rw [mkS_len] at zn
      omega
    have z1 : (⟨#[code pr.1]⟩ : Str).length = 1 := rfl
    have z0 : ("0" : Str).length = 1 := by decide +kernel
    have zx : ("x" : Str).length = 1 := by decide +kernel
    have z4 : ("401" : Str).length = 3 := by decide +kernel
    have e0 : atI (mkS (wl pr)).cps.toList 0 = some (code pr.1) := atI_nat (j := 0) rfl
    have cr : cutS (mkS (wl pr)) (some 1) none = mkS (TL.numL pr.2) := cut_rest _ _
    refine ⟨_, rfl, mkS (wl pr), 0, code pr.1, rfl, rfl, lz (by omega), e0, _, _, rfl, rfl, lz (by rw [z1, z0]; decide), ?_⟩
    refine ⟨_, rfl, 1, rfl, mkS (wl pr), rfl, lz (by omega), ?_⟩
    rw [cr]
    refine ⟨_, _, rfl, rfl, lz (by rw [PySem.Str.length_append, z1, z0]; omega), ?_⟩
    refine ⟨_, rfl, mkS (wl pr), 0, code pr.1, rfl, rfl, lz (by omega), e0, ?_⟩
    refine ⟨_, rfl, 1, rfl, mkS (wl pr), rfl, lz (by omega), ?_⟩
    rw [cr]
    refine ⟨_, _, rfl, rfl, lz (by rw [zx]; omega), ?_⟩
    refine ⟨_, rfl, _, _, rfl, rfl, lz (by rw [zx]; omega), ?_⟩
    refine ⟨_, rfl, mkS (wl pr), 0, code pr.1, rfl, rfl, lz (by omega), e0, _, _, rfl, rfl, lz (by rw [z1, z0]; decide), ?_⟩
    refine ⟨_, rfl, mkS (wl pr), 0, code pr.1, rfl, rfl, lz (by omega), e0, _, _, rfl, rfl, lz (by rw [z1, z4]; decide), ?_⟩
    refine ⟨_, rfl, 1, rfl, mkS (wl pr), rfl, lz (by omega), ?_⟩
    rw [cr]
    refine ⟨lz (show 7 ≤ 1000 by decide), fun L nL => ?_⟩
    have eL : ([.str (⟨#[code pr.1]⟩ ++ "0" ++ mkS (TL.numL pr.2)), .str ⟨#[code pr.1]⟩, .str ("x" ++ mkS (TL.numL pr.2)), .str (mkS (wl pr) ++ "x"), .str (⟨#[code pr.1]⟩ ++ "0"), .str (⟨#[code pr.1]⟩ ++ "401"), .str (mkS (TL.numL pr.2))] : List V) = tsV (changed pr) := by
      have k0 : TL.tl ("0" : Str) = [48] := by decide +kernel
      have kx : TL.tl ("x" : Str) = [120] := by decide +kernel
      have k4 : TL.tl ("401" : Str) = TL.numL 401 := by decide +kernel
      have a1 : (⟨#[code pr.1]⟩ : Str) ++ "0" ++ mkS (TL.numL pr.2) = mkS (code pr.1 :: (48 :: TL.numL pr.2)) := TL.ext_tl (by rw [TL.tl_append, TL.tl_append, k0]; rfl)
      have a3 : ("x" : Str) ++ mkS (TL.numL pr.2) = mkS (120 :: TL.numL pr.2) := TL.ext_tl (by rw [TL.tl_append, kx]; rfl)
      have a4 : mkS (wl pr) ++ ("x" : Str) = mkS (code pr.1 :: (TL.numL pr.2 ++ [120])) := TL.ext_tl (by rw [TL.tl_append, kx]; rfl)
      have a5 : (⟨#[code pr.1]⟩ : Str) ++ "0" = mkS [code pr.1, 48] := TL.ext_tl (by rw [TL.tl_append, k0]; rfl)
      have a6 : (⟨#[code pr.1]⟩ : Str) ++ "401" = mkS (code pr.1 :: TL.numL 401) := TL.ext_tl (by rw [TL.tl_append, k4]; rfl)
      rw [a1, a3, a4, a5, a6]
      rfl
    obtain ⟨t, et⟩ : ∃ t, (changed pr)[way - 6]? = some t := ⟨_, List.getElem?_eq_getElem (by show way - 6 < 7; omega)⟩
    obtain ⟨rt, ct⟩ := changed_bad hp4 _ t et
    have et2 : (tsV (changed pr))[way - 6]? = some (.str (mkS t)) := by
      unfold tsV
      rw [List.getElem?_map, List.getElem?_map, et]
      rfl
    have v0 := same_upd (o := .lst [.str (⟨#[code pr.1]⟩ ++ "0" ++ mkS (TL.numL pr.2)), .str ⟨#[code pr.1]⟩, .str ("x" ++ mkS (TL.numL pr.2)), .str (mkS (wl pr) ++ "x"), .str (⟨#[code pr.1]⟩ ++ "0"), .str (⟨#[code pr.1]⟩ ++ "401"), .str (mkS (TL.numL pr.2))]) nL
    have fL : (L2.upd H L (.lst [.str (⟨#[code pr.1]⟩ ++ "0" ++ mkS (TL.numL pr.2)), .str ⟨#[code pr.1]⟩, .str ("x" ++ mkS (TL.numL pr.2)), .str (mkS (wl pr) ++ "x"), .str (⟨#[code pr.1]⟩ ++ "0"), .str (⟨#[code pr.1]⟩ ++ "401"), .str (mkS (TL.numL pr.2))])) L = some (.lst (tsV (changed pr))) := by
      rw [upd_same, eL]
    generalize L2.upd H L (.lst [.str (⟨#[code pr.1]⟩ ++ "0" ++ mkS (TL.numL pr.2)), .str ⟨#[code pr.1]⟩, .str ("x" ++ mkS (TL.numL pr.2)), .str (mkS (wl pr) ++ "x"), .str (⟨#[code pr.1]⟩ ++ "0"), .str (⟨#[code pr.1]⟩ ++ "401"), .str (mkS (TL.numL pr.2))]) = J0 at v0 fL ⊢
    refine ⟨_, rfl, _, rfl, (n : Int), rfl, p, _, rfl, .inl (.inl (v0 _ _ ep)), fun c1 n1 => ?_⟩
    rw [cutV_to3 (by rw [lx]; omega)]
    have v1 := v0.trans (same_upd (o := .lst ((tsV (g.map wl)).take n)) n1)
    have f1 : (L2.upd J0 c1 (.lst ((tsV (g.map wl)).take n))) c1 = some (.lst ((tsV (g.map wl)).take n)) := upd_same
    have fL := (same_upd (o := .lst ((tsV (g.map wl)).take n)) n1) _ _ fL
    generalize L2.upd J0 c1 (.lst ((tsV (g.map wl)).take n)) = J1 at v1 f1 fL ⊢
    refine ⟨_, rfl, _, rfl, (way : Int), 6, rfl, rfl, (way : Int) - 6, 7, rfl, rfl, (by show (0 : Int) < 7; decide), L, _, _, .str (mkS t), rfl, rfl, .inl (.inl fL), at_of (j := way - 6) (by omega) et2, lz (show 1 ≤ 1000 by decide), fun c2 n2 => ?_⟩
    have u2 := same_upd (o := .lst [.str (mkS t)]) n2
    have f2 : (L2.upd J1 c2 (.lst [.str (mkS t)])) c2 = some (.lst [.str (mkS t)]) := upd_same
    have f1 := u2 _ _ f1
    have v2 := v1.trans u2
    clear u2
    generalize L2.upd J1 c2 (.lst [.str (mkS t)]) = J2 at v2 f1 f2 ⊢
    refine ⟨c1, c2, _, _, rfl, rfl, f1, f2, lz (by rw [List.length_take, lx]; show min n g.length + 1 ≤ 1000; omega), fun c3 n3 => ?_⟩
    have v3 := v2.trans (same_upd (o := .lst ((tsV (g.map wl)).take n ++ [.str (mkS t)])) n3)
    have f3 : (L2.upd J2 c3 (.lst ((tsV (g.map wl)).take n ++ [.str (mkS t)]))) c3 = some (.lst ((tsV (g.map wl)).take n ++ [.str (mkS t)])) := upd_same
    generalize L2.upd J2 c3 (.lst ((tsV (g.map wl)).take n ++ [.str (mkS t)])) = J3 at v3 f3 ⊢
    refine ⟨_, rfl, _, rfl, (n : Int), 1, rfl, rfl, (n : Int) + 1, rfl, p, _, rfl, .inl (.inl (v3 _ _ ep)), fun c4 n4 => ?_⟩
    rw [cutV_from4 (by rw [lx]; omega)]
    have u4 := same_upd (o := .lst ((tsV (g.map wl)).drop (n + 1))) n4
    have f4 : (L2.upd J3 c4 (.lst ((tsV (g.map wl)).drop (n + 1)))) c4 = some (.lst ((tsV (g.map wl)).drop (n + 1))) := upd_same
    have f3 := u4 _ _ f3
    have v4 := v3.trans u4
    clear u4
    generalize L2.upd J3 c4 (.lst ((tsV (g.map wl)).drop (n + 1))) = J4 at v4 f3 f4 ⊢
    refine ⟨c3, c4, _, _, rfl, rfl, f3, f4, lz (by rw [List.length_append, List.length_take, List.length_drop, lx]; show min n g.length + 1 + (g.length - (n + 1)) ≤ 1000; omega), fun c5 n5 => ?_⟩
    have v5 := v4.trans (same_upd (o := .lst ((tsV (g.map wl)).take n ++ [.str (mkS t)] ++ (tsV (g.map wl)).drop (n + 1))) n5)
    have f5 : (L2.upd J4 c5 (.lst ((tsV (g.map wl)).take n ++ [.str (mkS t)] ++ (tsV (g.map wl)).drop (n + 1)))) c5 = some (.lst (tsV ((g.map wl).take n ++ [t] ++ (g.map wl).drop (n + 1)))) := by
      rw [upd_same]
      exact congrArg (fun l => some (HO.lst l)) (three _ _)
    exact ⟨_, rfl, S2, fin _ c5 _ n _ rfl v5 f5 (bad_in G hn (Nat.le_succ n) rt ct)⟩
end
end Hr
/-! ### what told is asked -/
namespace Hr
open PySem PySem.Spec PyProof.Rows L2
theorem mem_joinL {c : Nat} : ∀ {ps : List (List Nat)}, c ∈ TL.joinL [32] ps → c = 32 ∨ ∃ p ∈ ps, c ∈ p
  | [], h => by cases h
  | [p], h => .inr ⟨p, List.mem_cons_self .., h⟩
  | p :: q :: r, h => by
    have h : c ∈ p ++ ([32] ++ TL.joinL [32] (q :: r)) := h
    rcases List.mem_append.mp h with h | h
    · exact .inr ⟨p, List.mem_cons_self .., h⟩
    · rcases List.mem_append.mp h with h | h
      · exact .inl (List.mem_singleton.mp h)
      · rcases mem_joinL h with h | ⟨x, hx, hc⟩
        · exact .inl h
        · exact .inr ⟨x, List.mem_cons_of_mem _ hx, hc⟩
theorem len_joinL : ∀ {ps : List (List Nat)}, (∀ p ∈ ps, p.length ≤ 10) → (TL.joinL [32] ps).length ≤ 11 * ps.length
  | [], _ => Nat.le_refl _
  | [p], h => by
    have := h p (List.mem_cons_self ..)
    show p.length ≤ 11
    omega
  | p :: q :: r, h => by
    have h1 := h p (List.mem_cons_self ..)
    have ih := len_joinL (ps := q :: r) fun x hx => h x (List.mem_cons_of_mem _ hx)
    show (p ++ ([32] ++ TL.joinL [32] (q :: r))).length ≤ 11 * ((q :: r).length + 1)
    rw [List.length_append, List.length_append]
    show p.length + (1 + _) ≤ _
    omega
theorem tl_words (ts : List (List Nat)) : TL.tl (Txt.join " " (ts.map mkS)) = TL.joinL [32] ts := by
  rw [TL.join_eq, TL.tl_join, show TL.tl (" " : Str) = [32] by decide +kernel, List.map_map]
  congr 1
  exact (List.map_congr_left fun t _ => mkS_tl t).trans (List.map_id ts)
theorem not_dash {ts : List (List Nat)} (h : ∀ x ∈ ts, Clean x) : Txt.join " " (ts.map mkS) ≠ "-" := fun e => by
  have e := congrArg TL.tl e
  rw [tl_words, show TL.tl ("-" : Str) = [45] by decide +kernel] at e
  have hm : 45 ∈ TL.joinL [32] ts := by
    rw [e]
    exact List.mem_cons_self ..
  rcases mem_joinL hm with h1 | ⟨x, hx, hc⟩
  · cases h1
  · exact ((h x hx).1 45 hc).2 rfl
theorem words_len {ts : List (List Nat)} (h : ∀ x ∈ ts, Clean x) : (Txt.join " " (ts.map mkS)).length ≤ 11 * ts.length := by
  rw [TL.len_tl, tl_words]
  exact len_joinL fun p hp => (h p hp).2
theorem sum_clean {ts : List (List Nat)} (h : ∀ x ∈ ts, Clean x) : ((ts.map mkS).map (·.length)).sum ≤ 10 * ts.length := by
  induction ts with
  | nil => exact Nat.le_refl _
  | cons t ts ih =>
    have h1 := ih fun x hx => h x (List.mem_cons_of_mem _ hx)
    have h2 := (h t (List.mem_cons_self ..)).2
    rw [List.map_cons, List.map_cons, List.sum_cons, List.length_cons, mkS_len]
    omega
theorem no_blank {ts : List (List Nat)} (h : ∀ x ∈ ts, Clean x) : ∀ t ∈ ts, 32 ∉ t := fun t ht hc => ((h t ht).1 32 hc).1 rfl
theorem rep_up {a : Nat} {r : List Bool} : ∀ (n : Nat), okb none a (List.replicate n true ++ r) = okb none (a + n) r
  | 0 => rfl
  | n + 1 => by
    show (under none a && okb none (a + 1) (List.replicate n true ++ r)) = okb none (a + (n + 1)) r
    rw [rep_up n]
    show (true && okb none (a + 1 + n) r) = _
    rw [Bool.true_and, show a + 1 + n = a + (n + 1) by omega]
theorem rep_down {r : List Bool} : ∀ (n a : Nat), n ≤ a → okb none a (List.replicate n false ++ r) = okb none (a - n) r
  | 0, a, _ => rfl
  | n + 1, a, h => by
    cases a with
    | zero => cases h
    | succ a =>
      show okb none (a + 1) (false :: (List.replicate n false ++ r)) = _
      have : okb none (a + 1) (false :: (List.replicate n false ++ r)) = okb none a (List.replicate n false ++ r) := rfl
      rw [this, rep_down n a (by omega), show a + 1 - (n + 1) = a - n by omega]
theorem first_up {l : List Bool} (h : okb none 0 l = true) : l = [] ∨ l[0]? = some true := by
  cases l with
  | nil => exact .inl rfl
  | cons b r =>
    cases b with
    | true => exact .inr rfl
    | false => exact absurd rfl (okb_down h).1
theorem good_row {l : List Bool} (h : okb none 0 l = true) (hl : l.length ≤ 400) (hne : l ≠ []) : Good13 (grp l) := by
  obtain ⟨w, e⟩ := walk_grp h
  refine ⟨alt_grp l, w, e, ?_, fun p hp => ?_, Nat.le_trans (grp_len l) hl⟩
  · cases l with
    | nil => exact absurd rfl hne
    | cons c r =>
      obtain ⟨n, g, e⟩ := grp_ne c r
      rw [e]
      simp
  · obtain ⟨i, hi⟩ := List.mem_iff_getElem?.mp hp
    have h1 := expd_len hi
    rw [expd_grp] at h1
    exact ⟨alt_pos (alt_grp l) hi, Nat.le_trans h1 hl⟩
/-- what row_of and told want to know of a text -/
structure AskedT (z : Str) (ts : List (List Nat)) (ds : List (Option (Bool × Nat))) : Prop where
  ez : z = Txt.join " " (ts.map mkS)
  nd : z ≠ "-"
  ne : ts ≠ []
  nb : ∀ t ∈ ts, 32 ∉ t
  d : Desc ts ds
  tl : ts.length ≤ 1000
  zl : z.length ≤ 100000
theorem asked_bad {ts : List (List Nat)} {k : Nat} (B : Bad13 ts k) : ∃ ds, AskedT (Txt.join " " (ts.map mkS)) ts ds ∧ fb 0 none 0 ds = some k := by
  obtain ⟨⟨ds, hd, hf⟩, ne, cl, len⟩ := B
  have := words_len cl
  exact ⟨ds, ⟨rfl, not_dash cl, ne, no_blank cl, hd, by omega, by omega⟩, hf⟩
theorem asked_good {l : List Bool} (h : okb none 0 l = true) (hl : l.length ≤ 400) (e : l ≠ []) : ∃ ts, AskedT (runsT l) ts ((grp l).map some) ∧ fb 0 none 0 ((grp l).map some) = none ∧ ∀ g, (grp l).map some = g.map some → expd g = l := by
  have G := good_row h hl e
  obtain ⟨hd, cl⟩ := good_part G (h := grp l) fun p hp => hp
  have er : runsT l = Txt.join " " (((grp l).map wl).map mkS) := by
    unfold runsT
    rw [if_neg e]
    congr 1
    rw [List.map_map]
    exact List.map_congr_left fun p _ => word_wl p
  have := words_len cl
  rw [List.length_map] at this
  have g1 := G.len
  refine ⟨(grp l).map wl, ⟨er, by rw [er]; exact not_dash cl, fun z => G.ne (List.map_eq_nil_iff.mp z), no_blank cl, hd, by rw [List.length_map]; omega, by rw [er]; omega⟩, fb_grp h, fun g eg => ?_⟩
  have : grp l = g := List.map_inj_right (fun _ _ z => Option.some.inj z) |>.mp eg
  rw [← this, expd_grp]
end Hr
/-! ### the law -/
namespace Hr
open PySem PySem.Spec PyProof.Rows L2
abbrev nLaw : List Str := ["_law_script", "_law_row_here", "_law_mark", "_law_high", "_law_low", "_law_words_here", "_law_text", "_law_k", "_law_cell", "_law_more", "_law_some", "_law_due"]
theorem scLaw : FnScope nLaw ["_law_script"] (defScope sLaw) := ⟨rfl, rfl, rfl, by decide +kernel, rfl, by decide +kernel, by decide +kernel⟩
theorem ne_self (z : Str) : (!decide (V.str z = V.str z)) = false := by
  rw [decide_eq_true rfl]
  rfl
theorem eU13 : ("u" : Str) = sgn true := by decide +kernel
theorem eD13 : ("d" : Str) = sgn false := by decide +kernel
theorem cut_int13 {ns : List Int} {lo hi : Option Int} {i : Nat} {v : V} (h : (cutV (ns.map V.int) lo hi)[i]? = some v) : ∃ z, v = .int z := by
  obtain ⟨ms, e, _⟩ := cut_ints ns lo hi
  rw [e, List.getElem?_map] at h
  obtain ⟨z, _, hz⟩ := Option.map_eq_some_iff.mp h
  exact ⟨z, hz.symm⟩
theorem ne_int13 (z : Int) : (!decide (V.int z = V.int z)) = false := by
  rw [decide_eq_true rfl]
  rfl
theorem wordOf_ok (p : Bool × Nat) : PyData.strOk (wordOf p) = true := by
  rw [word_mk]
  show (code p.1 :: TL.numL p.2).toArray.all (· < 0x110000) = true
  rw [List.all_toArray, List.all_eq_true]
  intro c hc
  rcases List.mem_cons.mp hc with rfl | hc
  · cases p.1 <;> rfl
  · have := TL.numL_digits p.2 c hc
    exact decide_eq_true (by omega)
theorem lay_words : ∀ g : List (Bool × Nat), PyData.canLayAll0 ((g.map wordOf).map PyData.str) = true
  | [] => rfl
  | p :: g => by
    show (PyData.strOk (wordOf p) && PyData.canLayAll0 ((g.map wordOf).map PyData.str)) = true
    rw [wordOf_ok, lay_words g]
    rfl
theorem sh_words (g : List (Bool × Nat)) : SeqAt.shaped (.list ((g.map wordOf).map PyData.str)) = true := by
  show (PyData.canLayAll0 ((g.map wordOf).map PyData.str) && decide (PyData.depthAll ((g.map wordOf).map PyData.str) + 1 ≤ 64)) = true
  rw [lay_words, dep_strs]
  rfl
section
variable {P : Program} {w : World} {K : PySem.W.Frag} {mg : Str → Option Value} {base : Heap} {cs : Nat → Addr} {CN : Addr}
def spLaw (K : PySem.W.Frag) : Sp := fun vs H Q _ => ∃ (a : Addr) (ns : List Int), vs = [.ref a] ∧ SqL K H a (ns.map V.int) ∧ ns.length ≤ 63 ∧ ∀ H', Q (.bl true) H'
set_option maxHeartbeats 2000000 in
theorem ok_law {f : Addr} {fd : FuncData} (F : Fun K "law" "law" sLaw f fd) (c_law_mixed : Cal K mg CX0 P w base 1 "_law_mixed" [] spMixed) (c_law_row : Cal K mg CX0 P w base 2 "_law_row" [] (spLRow K)) (c_law_number : Cal K mg CX0 P w base 2 "_law_number" [] (spNumber K)) (c_law_words : Cal K mg CX0 P w base 1 "_law_words" [] spWords)
    (c_runs : Cal K mg (L2.CX P w) P w base 5 "runs" [] (spRuns CN)) (c_law_told : Cal K mg CX0 P w base 5 "_law_told" [] spTold) (c_law_spoilt : Cal K mg CX0 P w base 1 "_law_spoilt" [] spSpoilt) (c_law_refused : Cal K mg CX0 P w base 6 "_law_refused" [] spRefused)
    (m_len : mg "len" = none) (m_enumerate : mg "enumerate" = none) : FnOk P w K mg base CX0 7 f fd ["_law_script"] (spLaw K) := by
  refine F.ok scLaw (fun vs H Q E h => ?_) (fun cdv A outer s H vs Q E hr h => ?_)
  · obtain ⟨a, ns, rfl, _⟩ := h
    rfl
  · obtain ⟨a, ns, rfl, hS, hlen, q⟩ := h
    have nd := scLaw.nd
    refine ⟨_, (pss_cons (ps_set (i := 1) nd rfl (.inl rfl) (pe_c c_law_row hr (pa_cons (pv 0) (pa_cons pe_non pa_nil))))
    (pss_cons (ps_set (i := 2) nd rfl (.inl rfl) (pe_c c_law_number hr (pa_cons (pv 0) (pa_cons pe_int pa_nil))))
    (C8.pss_cut (ps_if (pt_cmpR op_eq (pe_op op_mod (pv 2) pe_int) pe_int (nomark _)) (pss_cons (ps_set (i := 3) nd rfl (.inl rfl) (pe_op op_add pe_int (pe_op op_mod (pe_op op_fdiv (pv 2) pe_int) pe_int)))
      (pss_cons (ps_set (i := 4) nd rfl (.inl rfl) (pe_op op_mod (pe_op op_fdiv (pv 2) pe_int) (pv 3)))
      (pss_one (ps_set (i := 1) nd rfl (.inl rfl) (pe_op op_add_str (pe_op op_add_str (pe_op op_add_str (pe_op op_add_str (pe_op op_mul_sgn pe_str (pv 3)) (pe_op op_mul_sgn pe_str (pv 4))) (pe_op op_mul_sgn pe_str (pv 4))) (pe_op op_mul_sgn pe_str (pv 3))) (pv 1)))))) pss_nil)
    (C8.pss_cut (ps_if (pt_cmpR op_eq (pe_op op_mod (pv 2) pe_int) pe_int (nomark _)) (pss_cons (ps_set (i := 3) nd rfl (.inl rfl) (pe_op op_add pe_int (pe_op op_mod (pe_op op_fdiv (pv 2) pe_int) pe_int)))
      (pss_one (ps_set (i := 1) nd rfl (.inl rfl) (pe_op op_add_str (pe_op op_mul_sgn pe_str (pv 3)) (pe_op op_mul_sgn pe_str (pv 3)))))) pss_nil)
    (pss_cons (ps_set (i := 5) nd rfl (.inl rfl) (pe_c c_law_words hr (pa_cons (pv 1) pa_nil)))
    (C8.pss_cut (ps_set (i := 6) nd rfl (.inl rfl) (pe_orT (pe_join pe_str (pv 5)) (pe_one pe_str)))
    (C8.pss_cut (ps_if (PW.pt (pw_or (pt_cmpR op_ne (pe_cL c_runs hr (pa_cons (pv 1) pa_nil)) (pv 6) (nomark _)) (pw_or1 (pt_cmpR op_ne (pe_c c_law_told hr (pa_cons (pv 6) pa_nil)) (pv 1) (nomark _))))) (pss_one (ps_ret pe_bl)) pss_nil)
    (pss_cons (ps_for PassesOwn.never rfl (pi_enum (by rfl) m_enumerate (pa_cons (pe_slice sl_list (pv 0) po_none (po_some pe_int)) pa_nil)) (pg_tup rfl (pgs_cons (pg_name (i := 7) nd rfl (.inl rfl)) (pgs_cons (pg_name (i := 8) nd rfl (.inl rfl)) pgs_nil))) (pss_cons (ps_set (i := 9) nd rfl (.inl rfl) (pe_c c_law_mixed hr (pa_cons (pv 8) (pa_cons (pe_op op_add (pv 7) pe_int) pa_nil))))
      (pss_one (ps_if (pt_cmpR (op_neD hr.units) (pv 5) (pe_lst pa_nil) (nomark _)) (pss_cons (ps_asg (pe_c c_law_spoilt hr (pa_cons (pv 5) (pa_cons (pe_op op_mod (pv 9) (pe_callB call_len_seq (by rfl) m_len PySem.boot_len (pa_cons (pv 5) pa_nil))) (pa_cons (pe_op op_mod (pe_op op_fdiv (pv 9) pe_int) pe_int) pa_nil)))) (pg_tup rfl (pgs_cons (pg_name (i := 10) nd rfl (.inl rfl)) (pgs_cons (pg_name (i := 11) nd rfl (.inl rfl)) pgs_nil))))
        (pss_one (ps_if (pt_cmpR op_ne (pe_c c_law_told hr (pa_cons (pe_join pe_str (pv 10)) pa_nil)) (pv 11) (nomark _)) (pss_one (ps_ret pe_bl)) pss_nil))) pss_nil))))
    (pss_cons (ps_if (PW.pt (pw_or (pt_cmpR op_ne (pe_c c_law_refused hr (pa_cons (pe_op op_add_str (pv 1) pe_str) pa_nil)) pe_str (nomark _)) (pw_or (pt_cmpR op_ne (pe_c c_law_refused hr (pa_cons pe_str pa_nil)) pe_str (nomark _)) (pw_or1 (pt_cmpR op_ne (pe_c c_law_refused hr (pa_cons (pe_op op_add_str (pv 1) pe_str) pa_nil)) pe_str (nomark _)))))) (pss_one (ps_ret pe_bl)) pss_nil)
    (pss_one (ps_ret (pe_and (pe_cmpR op_eq (pe_c c_law_told hr (pa_cons pe_str pa_nil)) pe_int (nomark _)) (pe_and (pe_cmpR op_eq (pe_c c_law_told hr (pa_cons pe_str pa_nil)) pe_int (nomark _)) (pe_and (pe_cmpR op_eq (pe_c c_law_told hr (pa_cons pe_str pa_nil)) pe_int (nomark _)) (pe_one (pe_cmpR op_eq (pe_c c_law_told hr (pa_cons pe_str pa_nil)) pe_int (nomark _))))))))))))))))), ?_⟩
    refine ⟨.ref a, rfl, a, ns, none, rfl, hS, hlen, trivial, fun H1 l1 n1 s1 hl1 hn1 => ?_⟩
    have ok1 := okb_any hl1.1
    have le1 : l1.length ≤ 120 := by rw [hl1.2]; omega
    refine ⟨_, rfl, a, ns, 0, rfl, s1.seq hS, ?_⟩
    have mk0 := mixed_nonneg (ns.getD 0 0) ((0 : Nat) : Int)
    generalize mixed (ns.getD 0 0) ((0 : Nat) : Int) = mk at mk0 ⊢
    refine ⟨fun σ' H' => ∃ (l : List Bool) (y3 y4 : Option V), σ' = [some (.ref a), some (.str (txt l)), some (.int mk), y3, y4, none, none, none, none, none, none, none] ∧ Same H H' ∧ okb none 0 l = true ∧ l.length ≤ 400, ?_, ?_⟩
    · refine ⟨_, rfl, mk, 3, rfl, rfl, (by show (0 : Int) < 3; decide), rfl, _, rfl, ite2 (fun e => ?_) (fun e => ?_)⟩
      · refine ⟨_, rfl, mk, 3, rfl, rfl, ⟨by decide, by decide⟩, mk / 3, 60, rfl, rfl, (by show (0 : Int) < 60; decide), 10, _, rfl, rfl, ?_⟩
        show gName 3 (V.int (10 + mk / 3 % 60)) _ _ _
        obtain ⟨h, eh, h1, h2⟩ : ∃ h : Nat, 10 + mk / 3 % 60 = (h : Int) ∧ 10 ≤ h ∧ h ≤ 69 := ⟨(10 + mk / 3 % 60).toNat, by omega, by omega, by omega⟩
        rw [eh]
        refine ⟨_, rfl, mk, 300, rfl, rfl, ⟨by decide, by decide⟩, _, rfl, mk / 300, (h : Int), rfl, rfl, (by show (0 : Int) < (h : Int); omega), ?_⟩
        show gName 4 (V.int (mk / 300 % (h : Int))) _ _ _
        have m1 := Int.emod_nonneg (mk / 300) (show (h : Int) ≠ 0 by omega)
        have m2 := Int.emod_lt_of_pos (mk / 300) (show (0 : Int) < (h : Int) by omega)
        obtain ⟨v, ev, h3⟩ : ∃ v : Nat, mk / 300 % (h : Int) = (v : Int) ∧ v < h := ⟨(mk / 300 % (h : Int)).toNat, by omega, by omega⟩
        rw [ev]
        have tr : ∀ (n : Nat) (b : Bool), (txt (List.replicate n b)).length = n := fun n b => by rw [txt_len, List.length_replicate]
        refine ⟨_, rfl, true, h, congrArg V.str eU13, rfl, by omega, _, rfl, false, v, congrArg V.str eD13, rfl, by omega, _, _, rfl, rfl, sz (by rw [tr, tr]; omega), ?_⟩
        rw [txt_append]
        refine ⟨_, rfl, true, v, congrArg V.str eU13, rfl, by omega, _, _, rfl, rfl, sz (by rw [tr, txt_len, List.length_append, List.length_replicate, List.length_replicate]; omega), ?_⟩
        rw [txt_append]
        refine ⟨_, rfl, false, h, congrArg V.str eD13, rfl, by omega, _, _, rfl, rfl, sz (by rw [tr, txt_len, List.length_append, List.length_append, List.length_replicate, List.length_replicate, List.length_replicate]; omega), ?_⟩
        rw [txt_append]
        refine ⟨_, rfl, _, _, rfl, rfl, sz (by rw [txt_len, txt_len, List.length_append, List.length_append, List.length_append, List.length_replicate, List.length_replicate, List.length_replicate, List.length_replicate]; omega), ?_⟩
        rw [txt_append]
        refine ⟨_, _, _, rfl, s1, ?_, ?_⟩
        · rw [List.append_assoc, List.append_assoc, List.append_assoc, rep_up, rep_down _ _ (by omega), rep_up, rep_down _ _ (by omega)]
          rw [show 0 + h - v + v - h = 0 by omega]
          exact ok1
        · rw [List.length_append, List.length_append, List.length_append, List.length_append, List.length_replicate, List.length_replicate, List.length_replicate, List.length_replicate]
          omega
      · exact ⟨l1, none, none, rfl, s1, ok1, by omega⟩
    rintro σ' H2 ⟨l2, y3, y4, rfl, s2, ok2, le2⟩
    refine ⟨fun σ' H' => ∃ (l : List Bool) (y3 y4 : Option V), σ' = [some (.ref a), some (.str (txt l)), some (.int mk), y3, y4, none, none, none, none, none, none, none] ∧ Same H H' ∧ okb none 0 l = true ∧ l.length ≤ 400, ?_, ?_⟩
    · refine ⟨_, rfl, mk, 3, rfl, rfl, (by show (0 : Int) < 3; decide), rfl, _, rfl, ite2 (fun e => ?_) (fun e => ?_)⟩
      · refine ⟨_, rfl, mk, 3, rfl, rfl, ⟨by decide, by decide⟩, mk / 3, 100, rfl, rfl, (by show (0 : Int) < 100; decide), 100, _, rfl, rfl, ?_⟩
        show gName 3 (V.int (100 + mk / 3 % 100)) _ _ _
        obtain ⟨h, eh, h2⟩ : ∃ h : Nat, 100 + mk / 3 % 100 = (h : Int) ∧ h ≤ 199 := ⟨(100 + mk / 3 % 100).toNat, by omega, by omega⟩
        rw [eh]
        refine ⟨_, rfl, true, h, congrArg V.str eU13, rfl, by omega, _, rfl, false, h, congrArg V.str eD13, rfl, by omega, _, _, rfl, rfl, sz (by rw [txt_len, txt_len, List.length_replicate, List.length_replicate]; omega), ?_⟩
        rw [txt_append]
        refine ⟨_, _, _, rfl, s2, ?_, ?_⟩
        · rw [rep_up]
          have := rep_down (r := []) h (0 + h) (by omega)
          rw [List.append_nil] at this
          rw [this, show 0 + h - h = 0 by omega]
          rfl
        · rw [List.length_append, List.length_replicate, List.length_replicate]
          omega
      · exact ⟨l2, y3, y4, rfl, s2, ok2, le2⟩
    rintro σ' H3 ⟨l, y3, y4, rfl, s3, ok, le⟩
    clear s1 s2 ok1 ok2 le1 le2 hl1 hn1 l1 l2 n1
    have hzl : (txt l).length = l.length := txt_len l
    refine ⟨_, rfl, l, rfl, by omega, first_up ok, fun H4 p s4 np ep => ?_⟩
    have s5 := s3.trans s4
    have gl := grp_len l
    refine ⟨fun σ' H' => σ' = [some (.ref a), some (.str (txt l)), some (.int mk), y3, y4, some (.ref p), some (.str (runsT l)), none, none, none, none, none] ∧ Same H H' ∧ H' p = some (.lst (((grp l).map wordOf).map V.str)), ?_, ?_⟩
    · by_cases e : l = []
      · subst e
        refine ⟨⟨_, rfl⟩, _, rfl, " ", p, [], rfl, rfl, .inl (.inl (.inl ep)), by decide, false, ⟨by decide, by decide⟩, iteF ?_⟩
        exact ⟨rfl, s5, ep⟩
      · have G := good_row ok le e
        obtain ⟨_, cl⟩ := good_part G (h := grp l) fun p hp => hp
        have er : Txt.join " " ((grp l).map wordOf) = Txt.join " " (((grp l).map wl).map mkS) := by
          congr 1
          rw [List.map_map]
          exact List.map_congr_left fun p _ => word_wl p
        have wl1 := words_len cl
        rw [List.length_map] at wl1
        have hs := sum_clean cl
        have hm : ((grp l).map wl).map mkS = (grp l).map wordOf := by
          rw [List.map_map]
          exact (List.map_congr_left fun p _ => (word_wl p).symm)
        rw [hm, List.length_map] at hs
        have hpos : (Txt.join " " ((grp l).map wordOf)).length ≠ 0 := by
          rw [er, TL.len_tl, tl_words]
          cases eg : grp l with
          | nil => exact absurd eg G.ne
          | cons q g =>
            cases g with
            | nil =>
              show (wl q).length ≠ 0
              simp [wl]
            | cons q2 g =>
              show (wl q ++ ([32] ++ TL.joinL [32] ((q2 :: g).map wl))).length ≠ 0
              simp [wl]
        refine ⟨⟨_, rfl⟩, _, rfl, " ", p, (grp l).map wordOf, rfl, rfl, .inl (.inl (.inl ep)), ?_, true, ⟨?_, ?_⟩, iteT ?_⟩
        · rw [List.length_map, show (" " : Str).length = 1 by decide +kernel]
          omega
        · rw [er]
          have := sz (show (100000 : Nat) ≤ 1000000 by decide)
          omega
        · exact (bne_iff_ne.mpr (fun z => hpos (by omega))).symm
        · refine ⟨?_, s5, ep⟩
          rw [show runsT l = Txt.join " " ((grp l).map wordOf) from if_neg e]
          rfl
    rintro σ' H5 ⟨rfl, s6, ep5⟩
    clear s3 s4 s5 ep
    refine ⟨fun σ' H' => σ' = [some (.ref a), some (.str (txt l)), some (.int mk), y3, y4, some (.ref p), some (.str (runsT l)), none, none, none, none, none] ∧ Same H H' ∧ H' p = some (.lst (((grp l).map wordOf).map V.str)), ?_, ?_⟩
    · refine ⟨_, rfl, txt l, rfl, by omega, fun l' e' ok' H6 s7 => ?_, fun e => absurd ((row_hillB ok).symm.trans e) (by decide)⟩
      obtain rfl := txt_inj e'
      refine ⟨_, rfl, rfl, _, rfl, ?_⟩
      rw [ne_self]
      refine iteF ?_
      by_cases e : l = []
      · refine ⟨_, rfl, _, rfl, .inl ⟨by unfold runsT; rw [if_pos e], fun H7 s8 => ?_⟩⟩
        rw [e, ← enil]
        refine ⟨_, rfl, rfl, _, rfl, ?_⟩
        rw [ne_self]
        refine iteF ?_
        rw [e] at ep5
        exact ⟨rfl, s6.trans (s7.trans s8), s8 _ _ (s7 _ _ ep5)⟩
      · obtain ⟨ts, T, hf, hg⟩ := asked_good ok le e
        refine ⟨_, rfl, _, rfl, .inr ⟨ts, _, T.ez, T.nd, T.ne, T.nb, T.d, T.tl, T.zl, fun g eg _ H7 s8 => ?_, fun k ek => ?_⟩⟩
        · rw [hg g eg]
          refine ⟨_, rfl, rfl, _, rfl, ?_⟩
          rw [ne_self]
          refine iteF ?_
          exact ⟨rfl, s6.trans (s7.trans s8), s8 _ _ (s7 _ _ ep5)⟩
        · rw [hf] at ek
          cases ek
    rintro σ' H6 ⟨rfl, s7, ep6⟩
    clear s6 ep5
    have s8 := s7
    refine ⟨_, rfl, 20, rfl, a, ns.map V.int, rfl, s7.seq hS, fun c nc => ?_⟩
    refine ⟨c, _, rfl, .inl (.inl upd_same), ?_⟩
    have hcl : (cutV (ns.map V.int) none (some 20)).length ≤ 63 := Nat.le_trans (cutV_length _ _ _) (by rw [List.length_map]; exact hlen)
    have sc := s7.trans (same_upd (o := .lst (cutV (ns.map V.int) none (some 20))) nc)
    have ec : (L2.upd H6 c (.lst (cutV (ns.map V.int) none (some 20)))) c = some (.lst (cutV (ns.map V.int) none (some 20))) := upd_same
    have epc := (same_upd (o := .lst (cutV (ns.map V.int) none (some 20))) nc) _ _ ep6
    generalize L2.upd H6 c (.lst (cutV (ns.map V.int) none (some 20))) = H7 at sc ec epc ⊢
    refine for_it (walk_enum (K := K) (a := c) (xs := cutV (ns.map V.int) none (some 20))) (fun i σ H' => ∃ (y7 y8 y9 y10 y11 : Option V), σ = [some (.ref a), some (.str (txt l)), some (.int mk), y3, y4, some (.ref p), some (.str (runsT l)), y7, y8, y9, y10, y11] ∧ Same H7 H') ?_ ?_ ?_ ?_
    · exact ⟨none, none, none, none, none, rfl, Same.refl _⟩
    · rintro i σ H' _ ⟨_, _, _, _, _, rfl, sm⟩
      exact .inl (.inl (sm _ _ ec))
    · rintro i x σ H8 H9 hi ⟨y7, y8, y9, y10, y11, rfl, sm⟩ ⟨T, k0, v, rfl, nT, rfl, ek, ev⟩
      have ek : k0 = .int (i : Int) := (Option.some.inj ek).symm
      subst ek
      obtain ⟨z, rfl⟩ := cut_int13 ev
      have sT := sm.trans (same_upd (o := .tup [.int (i : Int), .int z]) nT)
      refine ⟨T, _, rfl, .inl (.inl upd_same), rfl, _, _, rfl, _, _, rfl, rfl, ?_⟩
      generalize L2.upd H8 T (.tup [.int (i : Int), .int z]) = Ha at sT ⊢
      refine ⟨_, rfl, _, rfl, (i : Int), 500, rfl, rfl, z, (i : Int) + 500, rfl, ?_⟩
      have mm0 := mixed_nonneg z ((i : Int) + 500)
      generalize mixed z ((i : Int) + 500) = mm at mm0 ⊢
      refine ⟨_, rfl, sz (by decide), fun e0 ne0 => ?_⟩
      have sE := sT.trans (same_upd (o := .lst []) ne0)
      have hE : (L2.upd Ha e0 (.lst [])) e0 = some (.lst []) := upd_same
      generalize L2.upd Ha e0 (.lst []) = Hb at sE hE ⊢
      have epb := sE _ _ epc
      refine ⟨.list (((grp l).map wordOf).map PyData.str), .list [], .lst (.inl (.inl epb)) (dp_strs _), .lst (.inl (.inl hE)) .nil, sh_words _, sh_nil, _, rfl, ?_⟩
      by_cases e : l = []
      · subst e
        rw [show PyData.eqv (.list (((grp []).map wordOf).map PyData.str)) (.list []) = true from same_data sh_nil]
        refine iteF ?_
        exact ⟨_, _, _, _, _, rfl, sE⟩
      · have G := good_row ok le e
        have hlen1 : 1 ≤ (grp l).length := List.length_pos_iff.mpr G.ne
        have hne : PyData.eqv (.list (((grp l).map wordOf).map PyData.str)) (.list []) = false := by
          cases eg : grp l with
          | nil => exact absurd eg G.ne
          | cons q g => rfl
        rw [hne]
        refine iteT ?_
        have pl : (((grp l).map wordOf).map V.str).length = (grp l).length := by rw [List.length_map, List.length_map]
        obtain ⟨n, en, hn⟩ : ∃ n : Nat, mm % ((((grp l).map wordOf).map V.str).length : Int) = (n : Int) ∧ n < (grp l).length := by
          rw [pl]
          have m1 := Int.emod_nonneg mm (show ((grp l).length : Int) ≠ 0 by omega)
          have m2 := Int.emod_lt_of_pos mm (show (0 : Int) < ((grp l).length : Int) by omega)
          exact ⟨(mm % ((grp l).length : Int)).toNat, by omega, by omega⟩
        obtain ⟨way, ew, hw⟩ : ∃ way : Nat, mm / 200 % 13 = (way : Int) ∧ way < 13 := ⟨(mm / 200 % 13).toNat, by omega, by omega⟩
        have eww : ((grp l).map wordOf).map V.str = tsV ((grp l).map wl) := words_wl _
        refine ⟨_, rfl, _, rfl, _, rfl, p, _, rfl, .inl (.inl (.inl epb)), mm, _, rfl, rfl, (by rw [pl]; show (0 : Int) < ((grp l).length : Int); omega), _, rfl, mm, 200, rfl, rfl, ⟨by decide, by decide⟩, mm / 200, 13, rfl, rfl, (by show (0 : Int) < 13; decide), ?_⟩
        refine ⟨p, grp l, n, way, (by show [V.ref p, V.int (mm % ((((grp l).map wordOf).map V.str).length : Int)), V.int (mm / 200 % 13)] = _; rw [en, ew]), by rw [← eww]; exact epb, G, hn, hw, fun Hc t qa ts k sC et eq B => ?_⟩
        refine ⟨t, _, rfl, .inl (.inl et), rfl, _, _, rfl, _, _, rfl, rfl, ?_⟩
        obtain ⟨ds, T, hf⟩ := asked_bad B
        have hs := sum_clean B.cl
        have hl := B.len
        refine ⟨⟨_, rfl⟩, _, rfl, " ", qa, ts.map mkS, rfl, rfl, .inl (.inl (.inl eq)), ?_, ?_⟩
        · rw [List.length_map, show (" " : Str).length = 1 by decide +kernel]
          omega
        refine ⟨_, rfl, .inr ⟨ts, ds, T.ez, T.nd, T.ne, T.nb, T.d, T.tl, T.zl, fun g eg ef => ?_, fun k' ek' Hd sD => ?_⟩⟩
        · rw [hf] at ef
          cases ef
        · have : k = k' := Option.some.inj (hf.symm.trans ek')
          subst this
          refine ⟨_, rfl, rfl, _, rfl, ?_⟩
          rw [ne_int13]
          refine iteF ?_
          exact ⟨_, _, _, _, _, rfl, sE.trans (sC.trans sD)⟩
    · rintro σ H8 ⟨y7, y8, y9, y10, y11, rfl, sm⟩
      have lu : ("u" : Str).length = 1 := by decide +kernel
      have lx : ("x" : Str).length = 1 := by decide +kernel
      have erow : ∀ z : Str, z = "row" → (!decide (V.str "row" = V.str z)) = false := fun z e => by
        rw [e, decide_eq_true rfl]
        rfl
      refine ⟨_, rfl, _, _, rfl, rfl, sz (by rw [lu]; omega), _, rfl, by rw [PySem.Str.length_append, lu]; omega, wrong_u ok, fun H9 s9 => ?_⟩
      refine ⟨rfl, _, rfl, ?_⟩
      rw [ne_self]
      refine iteF ?_
      refine ⟨_, rfl, by decide +kernel, by decide +kernel, fun H10 s10 => ?_⟩
      refine ⟨rfl, _, rfl, ?_⟩
      rw [ne_self]
      refine iteF ?_
      refine ⟨_, rfl, _, _, rfl, rfl, sz (by rw [lx]; omega), _, rfl, by rw [PySem.Str.length_append, lx]; omega, wrong_x l, fun H11 s11 => ?_⟩
      refine ⟨rfl, _, rfl, ?_⟩
      rw [ne_self]
      refine iteF ?_
      have a0 : AskedT "" [[]] [none] := ⟨by decide +kernel, by decide +kernel, by simp, (fun t ht => by rw [List.mem_singleton.mp ht]; decide), ⟨by decide, .empty, trivial⟩, by decide, by decide +kernel⟩
      have a1 : AskedT "- u1" [[45], wl (true, 1)] [none, some (true, 1)] := ⟨by decide +kernel, by decide +kernel, by simp, by decide +kernel, ⟨by decide, .sign (by decide) (by decide), by decide +kernel, .good (by decide) (by decide), trivial⟩, by decide, by decide +kernel⟩
      have a2 : AskedT "u2 d1" [wl (true, 2), wl (false, 1)] [some (true, 2), some (false, 1)] := ⟨by decide +kernel, by decide +kernel, by simp, by decide +kernel, ⟨by decide +kernel, .good (by decide) (by decide), by decide +kernel, .good (by decide) (by decide), trivial⟩, by decide, by decide +kernel⟩
      have a3 : AskedT "d1" [wl (false, 1)] [some (false, 1)] := ⟨by decide +kernel, by decide +kernel, by simp, by decide +kernel, ⟨by decide +kernel, .good (by decide) (by decide), trivial⟩, by decide, by decide +kernel⟩
      refine ⟨"", rfl, .inr ⟨_, _, a0.ez, a0.nd, a0.ne, a0.nb, a0.d, a0.tl, a0.zl, (fun g eg ef => by cases ef), fun k ek Hp1 sp1 => ?_⟩⟩
      cases ek
      refine ⟨rfl, true, rfl, iteT ?_⟩
      refine ⟨"- u1", rfl, .inr ⟨_, _, a1.ez, a1.nd, a1.ne, a1.nb, a1.d, a1.tl, a1.zl, (fun g eg ef => by cases ef), fun k ek Hp1 sp1 => ?_⟩⟩
      cases ek
      refine ⟨rfl, true, rfl, iteT ?_⟩
      refine ⟨"u2 d1", rfl, .inr ⟨_, _, a2.ez, a2.nd, a2.ne, a2.nb, a2.d, a2.tl, a2.zl, (fun g eg ef => by cases ef), fun k ek Hp1 sp1 => ?_⟩⟩
      cases ek
      refine ⟨rfl, true, rfl, iteT ?_⟩
      refine ⟨"d1", rfl, .inr ⟨_, _, a3.ez, a3.nd, a3.ne, a3.nb, a3.d, a3.tl, a3.zl, (fun g eg ef => by cases ef), fun k ek Hp1 sp1 => ?_⟩⟩
      cases ek
      exact ⟨rfl, q _⟩
end
end Hr
/-! ### what the top has written -/
namespace Hr
open PySem PySem.Spec PyProof.Rows L2
theorem all_mk {l : PySem.W.OpenLaw} {w : World} {K : PySem.W.Frag} {h : Heap} {mg : Str → Option Value} {fa f : Addr} (X : K.In h) (G : h.Ns mainGlobals mg) (hfa : mg "law" = some (.ref fa))
    {od an : Option Addr} {sl : Array (Option Value)} {oc kV dc pm cd ct : Value} {tk_MOST_SIGNS tk_UP tk_DOWN tk_BLANK tk_NO_RUNS : Tok} {CH c0 c1 c2 c3 c4 c5 c6 c7 fI cda cc7 N7 : Addr} {nm7 q7 : Str} {bs7 : List Value} {sn7 : List Str} {sub7 : List Value} {ab7 : Bool} {col7 : Option Bool} {dd7 : Option Addr} {j0 j1 j2 j3 j5 : Option Value} {oc7 ccl7 cl7 doc7 pm7 ct7 : Value} {od7 an7 cdd7 cld7 : Option Addr} {osl7 ccs7 csl7 : Array (Option Value)} {vv7 : Array Value} {file7 : Str} {tf7 : Tok}
    (a : PySem.W.nsIn K mainGlobals "law" = some (some (.ref f))) (l1 : K.lookup f = some ⟨oc, od, .func (PySem.W.fnOf "law" "law" (defArgs sLaw) (defBody sLaw) (defScope sLaw) .none kV dc pm an cd ct), sl⟩) (c : PySem.W.codeIn K cd "law" = true) (k : PySem.W.keepIn K (.ref f) = true)
    (d_heights : Def K mg "heights" sHeights ["row"])
    (d_is_row : Def K mg "is_row" sIsRow ["text"])
    (d_runs : Def K mg "runs" s_runs ["row"])
    (d_equal_signs : Def K mg "equal_signs" s_equal_signs ["row"])
    (d_row_of : Def K mg "row_of" s_row_of ["text"])
    (d_check_words : Def K mg "check_words" s_check_words ["words"])
    (d_rise : Def K mg "rise" s_rise ["run"])
    (d_is_run : Def K mg "is_run" s_is_run ["word"])
    (d_is_length : Def K mg "is_length" s_is_length ["text"])
    (d_law_mixed : Def K mg "_law_mixed" sMixed ["_law_cell", "_law_k"])
    (d_law_number : Def K mg "_law_number" sNumber ["_law_script", "_law_k"])
    (d_law_row : Def K mg "_law_row" sLRow ["_law_script", "_law_ceiling"])
    (d_law_word : Def K mg "_law_word" sWord ["_law_error"])
    (d_law_told : Def K mg "_law_told" sTold ["_law_text"])
    (d_law_refused : Def K mg "_law_refused" sRefused ["_law_row_here"])
    (d_law_words : Def K mg "_law_words" sWords ["_law_row_here"])
    (d_law_spoilt : Def K mg "_law_spoilt" sSpoilt ["_law_words_here", "_law_at", "_law_way"])
    (d_is_hill : DefD K mg "is_hill" sIsHill ["row", "ceiling"])
    (d_check_hill : DefD K mg "check_hill" sChHill ["row", "ceiling"])
    (g_MOST_SIGNS : PySem.W.nsIn K mainGlobals "MOST_SIGNS" = some (some (.int 400 tk_MOST_SIGNS)))
    (g_UP : PySem.W.nsIn K mainGlobals "UP" = some (some (.str "u" tk_UP)))
    (g_DOWN : PySem.W.nsIn K mainGlobals "DOWN" = some (some (.str "d" tk_DOWN)))
    (g_BLANK : PySem.W.nsIn K mainGlobals "BLANK" = some (some (.str " " tk_BLANK)))
    (g_NO_RUNS : PySem.W.nsIn K mainGlobals "NO_RUNS" = some (some (.str "-" tk_NO_RUNS)))
    (z_ValueError : PySem.W.nsIn K mainGlobals "ValueError" = some none)
    (z_all : PySem.W.nsIn K mainGlobals "all" = some none)
    (z_bool : PySem.W.nsIn K mainGlobals "bool" = some none)
    (z_enumerate : PySem.W.nsIn K mainGlobals "enumerate" = some none)
    (z_int : PySem.W.nsIn K mainGlobals "int" = some none)
    (z_isinstance : PySem.W.nsIn K mainGlobals "isinstance" = some none)
    (z_len : PySem.W.nsIn K mainGlobals "len" = some none)
    (z_max : PySem.W.nsIn K mainGlobals "max" = some none)
    (z_min : PySem.W.nsIn K mainGlobals "min" = some none)
    (z_range : PySem.W.nsIn K mainGlobals "range" = some none)
    (z_str : PySem.W.nsIn K mainGlobals "str" = some none)
    (z_sum : PySem.W.nsIn K mainGlobals "sum" = some none)
    (z_super : PySem.W.nsIn K mainGlobals "super" = some none)
    (z_zip : PySem.W.nsIn K mainGlobals "zip" = some none)
    (gc0 : PySem.W.nsIn K mainGlobals "NoRow" = some (some (.ref c0)))
    (gc1 : PySem.W.nsIn K mainGlobals "NoCount" = some (some (.ref c1)))
    (gc2 : PySem.W.nsIn K mainGlobals "NoRank" = some (some (.ref c2)))
    (gc3 : PySem.W.nsIn K mainGlobals "NoPlace" = some (some (.ref c3)))
    (gc4 : PySem.W.nsIn K mainGlobals "NoTree" = some (some (.ref c4)))
    (gc5 : PySem.W.nsIn K mainGlobals "NoPairs" = some (some (.ref c5)))
    (gc6 : PySem.W.nsIn K mainGlobals "NoTurn" = some (some (.ref c6)))
    (gc7 : PySem.W.nsIn K mainGlobals "NoText" = some (some (.ref c7)))
    (gH : PySem.W.nsIn K mainGlobals "HillError" = some (some (.ref CH)))
    (hHb : PySem.W.subIn K (.ref CH) (.type "BaseException") = some true)
    (hHd : PySem.W.hasDictIn K CH = true)
    (hHt : PySem.W.typeIn K (.ref CH) = some (.type "type"))
    (on : PySem.W.specialIn K (.builtin "object.__class__") "__get__" = some (some (.builtin "getset_descriptor.__get__")))
    (ot : PySem.W.takesIn K (.builtin "object.__class__") = some true)
    (x0 : PySem.W.excIn K c0 [.type "ValueError", .type "Exception", .type "BaseException", .type "object"] "ValueError.__new__" = true)
    (k0 : PySem.W.keepIn K (.ref c0) = true)
    (b0 : PySem.W.subIn K (.ref c0) (.type "BaseException") = some true)
    (t0 : PySem.W.typeIn K (.ref c0) = some (.type "type"))
    (s0 : PySem.W.subIn K (.ref c0) (.ref CH) = some true)
    (eg0 : PySem.W.findIn K (.ref c0) "__getattribute__" = some (some (.builtin "BaseException.__getattribute__")))
    (ek0 : PySem.W.findIn K (.ref c0) "__getattr__" = some none)
    (ed0 : PySem.W.hasDictIn K c0 = true)
    (ea0 : PySem.W.findIn K (.ref c0) "__class__" = some (some (.builtin "object.__class__")))
    (em0 : PySem.W.mroIn K c0 (.type "object") = some true)
    (ve0 : PySem.W.kitOne K (.ref c0) (.type "ValueError") = some true)
    (q0_0 : PySem.W.kitOne K (.ref c0) (.ref c0) = some true)
    (q0_1 : PySem.W.kitOne K (.ref c0) (.ref c1) = some false)
    (q0_2 : PySem.W.kitOne K (.ref c0) (.ref c2) = some false)
    (q0_3 : PySem.W.kitOne K (.ref c0) (.ref c3) = some false)
    (q0_4 : PySem.W.kitOne K (.ref c0) (.ref c4) = some false)
    (q0_5 : PySem.W.kitOne K (.ref c0) (.ref c5) = some false)
    (q0_6 : PySem.W.kitOne K (.ref c0) (.ref c6) = some false)
    (q0_7 : PySem.W.kitOne K (.ref c0) (.ref c7) = some false)
    (k7 : PySem.W.keepIn K (.ref c7) = true)
    (b7 : PySem.W.subIn K (.ref c7) (.type "BaseException") = some true)
    (t7 : PySem.W.typeIn K (.ref c7) = some (.type "type"))
    (s7 : PySem.W.subIn K (.ref c7) (.ref CH) = some true)
    (eg7 : PySem.W.findIn K (.ref c7) "__getattribute__" = some (some (.builtin "BaseException.__getattribute__")))
    (ek7 : PySem.W.findIn K (.ref c7) "__getattr__" = some none)
    (ed7 : PySem.W.hasDictIn K c7 = true)
    (ea7 : PySem.W.findIn K (.ref c7) "__class__" = some (some (.builtin "object.__class__")))
    (em7 : PySem.W.mroIn K c7 (.type "object") = some true)
    (ve7 : PySem.W.kitOne K (.ref c7) (.type "ValueError") = some true)
    (q7_0 : PySem.W.kitOne K (.ref c7) (.ref c0) = some false)
    (q7_1 : PySem.W.kitOne K (.ref c7) (.ref c1) = some false)
    (q7_2 : PySem.W.kitOne K (.ref c7) (.ref c2) = some false)
    (q7_3 : PySem.W.kitOne K (.ref c7) (.ref c3) = some false)
    (q7_4 : PySem.W.kitOne K (.ref c7) (.ref c4) = some false)
    (q7_5 : PySem.W.kitOne K (.ref c7) (.ref c5) = some false)
    (q7_6 : PySem.W.kitOne K (.ref c7) (.ref c6) = some false)
    (q7_7 : PySem.W.kitOne K (.ref c7) (.ref c7) = some true)
    (xc7 : K.lookup c7 = some (excClassObj nm7 q7 c7 N7 bs7 [.ref CH, .type "ValueError", .type "Exception", .type "BaseException", .type "object"] true sn7 sub7 ab7 col7 dd7 j0 j1 j2 j3 j5 "ValueError.__new__"))
    (sa7 : PySem.W.findIn K (.ref c7) "__setattr__" = some (some (.builtin "object.__setattr__")))
    (no7 : PySem.W.findIn K (.ref c7) "word" = some none)
    (iC7 : PySem.W.findIn K (.ref c7) "__init__" = some (some (.ref fI)))
    (tI7 : PySem.W.typeIn K (.ref fI) = some (.type "function"))
    (su7 : PySem.W.ks_superIn K c7 c7 "__init__" = some (some (.builtin "ValueError.__init__")))
    (ow7 : PySem.W.mroIn K c7 (.ref c7) = some true)
    (vs7 : PySem.W.subIn K (.ref c7) (.type "ValueError") = some true)
    (op7 : PySem.W.nsIn K PySem.cStatics "thirdparty.any" = some none)
    (fn7 : K.lookup fI = some ⟨oc7, od7, .func (PySem.W.ksFn "__init__" "NoText.__init__" PySem.NTX.ntA PySem.NTX.ntB PySem.NTX.ntS .none .none doc7 pm7 an7 (.ref cda) ct7 cc7), osl7⟩)
    (cd7 : PySem.W.codeIn K (.ref cda) "NoText.__init__" = true)
    (co7 : K.lookup cda = some ⟨ccl7, cdd7, .fields vv7, ccs7⟩)
    (vw7 : vv7[2]? = some (.str file7 tf7))
    (fi7 : ((l.prog.main.file : Str) == file7) = true)
    (ce7 : K.lookup cc7 = some ⟨cl7, cld7, .cell (some (.ref c7)), csl7⟩)
    (ht7 : (l.prog.main.scope.names.lookup ("super" : Str)).isSome = false)
    : ∃ fd : FuncData, (∀ (s : Shared) (v : Value), BindsTo s fd ⟨[v], []⟩ [("_law_script", v)]) ∧ ∀ base : Heap, K.In base → base.Ns mainGlobals mg → FnOk l.prog w K mg base CX0 7 fa fd ["_law_script"] (spLaw K) := by
  have e := hfa.symm.trans (PySem.W.mg_of X G a)
  cases e
  have F := fun_mk (st := sLaw) l1 c k
  refine ⟨PySem.W.fnOf "law" "law" (defArgs sLaw) (defBody sLaw) (defScope sLaw) .none kV dc pm an cd ct, fun s v => .of_eq rfl, fun base _ _ => ?_⟩
  have m_ValueError := PySem.W.mg_none_of X G z_ValueError
  have m_all := PySem.W.mg_none_of X G z_all
  have m_bool := PySem.W.mg_none_of X G z_bool
  have m_enumerate := PySem.W.mg_none_of X G z_enumerate
  have m_int := PySem.W.mg_none_of X G z_int
  have m_isinstance := PySem.W.mg_none_of X G z_isinstance
  have m_len := PySem.W.mg_none_of X G z_len
  have m_max := PySem.W.mg_none_of X G z_max
  have m_min := PySem.W.mg_none_of X G z_min
  have m_range := PySem.W.mg_none_of X G z_range
  have m_str := PySem.W.mg_none_of X G z_str
  have m_sum := PySem.W.mg_none_of X G z_sum
  have m_super := PySem.W.mg_none_of X G z_super
  have m_zip := PySem.W.mg_none_of X G z_zip
  have c_MOST_SIGNS := PySem.W.mg_of X G g_MOST_SIGNS
  have c_UP := PySem.W.mg_of X G g_UP
  have c_DOWN := PySem.W.mg_of X G g_DOWN
  have c_BLANK := PySem.W.mg_of X G g_BLANK
  have c_NO_RUNS := PySem.W.mg_of X G g_NO_RUNS
  have mc0 := PySem.W.mg_of X G gc0
  have mc1 := PySem.W.mg_of X G gc1
  have mc2 := PySem.W.mg_of X G gc2
  have mc3 := PySem.W.mg_of X G gc3
  have mc4 := PySem.W.mg_of X G gc4
  have mc5 := PySem.W.mg_of X G gc5
  have mc6 := PySem.W.mg_of X G gc6
  have mc7 := PySem.W.mg_of X G gc7
  have mH := PySem.W.mg_of X G gH
  have er0 : Err K mg "NoRow" c0 := ⟨mc0, x0, k0, b0, t0⟩
  have is0 : IsErr K (eight c0 c1 c2 c3 c4 c5 c6 c7) 0 := ⟨by decide, ⟨eg0, ek0, b0, ed0, ea0, on, ot, em0⟩, kit_eight q0_0 q0_1 q0_2 q0_3 q0_4 q0_5 q0_6 q0_7, ve0⟩
  have ex0 := PySem.W.exm_ref hHb hHd hHt s0
  have is7 : IsErr K (eight c0 c1 c2 c3 c4 c5 c6 c7) 7 := ⟨by decide, ⟨eg7, ek7, b7, ed7, ea7, on, ot, em7⟩, kit_eight q7_0 q7_1 q7_2 q7_3 q7_4 q7_5 q7_6 q7_7, ve7⟩
  have ex7 := PySem.W.exm_ref hHb hHd hHt s7
  have ox7 : L2.OexC K c7 := ⟨⟨_, _, _, _, _, _, _, _, _, _, _, _, _, _, _, xc7, rfl⟩, sa7, b7, t7, k7⟩
  have nt : PySem.NTX.NTxt l.prog K mg c7 fI := ⟨mc7, ox7, no7, iC7, tI7, su7, ow7, vs7, op7, m_super, ⟨_, _, _, _, _, _, _, _, _, _, _, _, _, _, _, _, _, _, fn7, cd7, co7, vw7, fi7, ce7⟩, ht7⟩
  have cIsRow := cal_isRow (P := l.prog) (w := w) (base := base) d_is_row m_isinstance m_str m_all c_UP c_DOWN
  have cHeights := cal_heightsX er0 d_heights cIsRow c_UP
  obtain ⟨cIsHill, cIsHill1⟩ := cal_isHill d_is_hill cIsRow cHeights m_min m_max
  obtain ⟨cChHill, cChHill1⟩ := cal_chHillX er0 d_check_hill cIsHill
  have cEq := cal_eq (P := l.prog) (w := w) (base := base) d_equal_signs c_UP c_DOWN c_BLANK
  have cRuns := cal_runs d_runs cChHill1 cEq c_NO_RUNS m_len
  have cLen := cal_len (P := l.prog) (w := w) (base := base) d_is_length c_MOST_SIGNS m_len m_str m_int
  have cRun := cal_run d_is_run cLen c_UP c_DOWN
  have cRise := cal_rise (P := l.prog) (w := w) (base := base) d_rise c_UP m_int
  have cCheck := cal_check (text_mk nt) d_check_words cRun cRise m_enumerate m_len
  have cRowOf := cal_rowOf d_row_of cCheck c_NO_RUNS c_BLANK m_int
  have cMixed := cal_mixed (P := l.prog) (w := w) (base := base) d_law_mixed
  have cNum := cal_number d_law_number cMixed m_len
  have cLRow := cal_lrow d_law_row cMixed m_len m_min m_max m_sum m_range
  have cWord := cal_wordD (cs := (eight c0 c1 c2 c3 c4 c5 c6 c7)) (P := l.prog) (w := w) (base := base) d_law_word mc0 mc1 mc2 mc3 mc4 mc5 mc6 mc7 m_isinstance m_zip
  have cTold := cal_told (cs := (eight c0 c1 c2 c3 c4 c5 c6 c7)) d_law_told mH is7 ex7 ⟨eg7, ek7, b7, ed7⟩ no7 cRowOf cWord m_isinstance m_ValueError m_bool
  have cRef := cal_refused (cs := (eight c0 c1 c2 c3 c4 c5 c6 c7)) d_law_refused mH is0 ex0 cRuns cWord
  have cWords := cal_words (P := l.prog) (w := w) (base := base) d_law_words m_enumerate m_range m_len m_str
  have cSpoilt := cal_spoilt (P := l.prog) (w := w) (base := base) d_law_spoilt m_len
  exact ok_law F cMixed cLRow cNum cWords cRuns cTold cSpoilt cRef m_len m_enumerate
end Hr
open PySem PySem.W PyProof.Rows
set_option maxHeartbeats 0 in
theorem PySem.Challenge.cw_hillrows_k13_runs_holds : PySem.Challenge.rw_hillrows_k13_runs.Holds := by
  w_on; o_law; k_head; (case hw => w_witness2)
  k_fill
  refine L2.walk_of (l := PySem.Challenge.rw_hillrows_k13_runs) (n := 63) (k := 7) (x := "_law_script") (CX := fun _ => L2.CX0) (sp := fun w => Hr.spLaw _) rfl (by decide) rfl ⟨rfl, by decide, by decide⟩ (fun w h Y => PySem.W.kIn_of Y) ?F (fun _ _ a ns hl _ hS => ⟨a, ns, rfl, hS, hl, fun _ => rfl⟩) (fun _ _ _ _ _ h => h)
  case F =>
    intro w mg fa h KX G hmg
    refine' Hr.all_mk KX G hmg ?a ?l1 ?c ?k ?d_heights ?d_is_row ?d_runs ?d_equal_signs ?d_row_of ?d_check_words ?d_rise ?d_is_run ?d_is_length ?d_law_mixed ?d_law_number ?d_law_row ?d_law_word ?d_law_told ?d_law_refused ?d_law_words ?d_law_spoilt ?d_is_hill ?d_check_hill ?g_MOST_SIGNS ?g_UP ?g_DOWN ?g_BLANK ?g_NO_RUNS ?z_ValueError ?z_all ?z_bool ?z_enumerate ?z_int ?z_isinstance ?z_len ?z_max ?z_min ?z_range ?z_str ?z_sum ?z_super ?z_zip ?gc0 ?gc1 ?gc2 ?gc3 ?gc4 ?gc5 ?gc6 ?gc7 ?gH ?hHb ?hHd ?hHt ?on ?ot ?x0 ?k0 ?b0 ?t0 ?s0 ?eg0 ?ek0 ?ed0 ?ea0 ?em0 ?ve0 ?q0_0 ?q0_1 ?q0_2 ?q0_3 ?q0_4 ?q0_5 ?q0_6 ?q0_7 ?k7 ?b7 ?t7 ?s7 ?eg7 ?ek7 ?ed7 ?ea7 ?em7 ?ve7 ?q7_0 ?q7_1 ?q7_2 ?q7_3 ?q7_4 ?q7_5 ?q7_6 ?q7_7 ?xc7 ?sa7 ?no7 ?iC7 ?tI7 ?su7 ?ow7 ?vs7 ?op7 ?fn7 ?cd7 ?co7 ?vw7 ?fi7 ?ce7 ?ht7
    (case a => k_is); (case l1 => k_is); (case c => k_is); (case k => k_is)
    case d_heights =>
      refine' Hr.def_mk KX G (fun _ _ _ _ _ _ us hl => match us, hl with | [_], _ => rfl) ?a ?l ?c ?k
      (case a => k_is); (case l => k_is); (case c => k_is); (case k => k_is)
    case d_is_row =>
      refine' Hr.def_mk KX G (fun _ _ _ _ _ _ us hl => match us, hl with | [_], _ => rfl) ?a ?l ?c ?k
      (case a => k_is); (case l => k_is); (case c => k_is); (case k => k_is)
    case d_runs =>
      refine' Hr.def_mk KX G (fun _ _ _ _ _ _ us hl => match us, hl with | [_], _ => rfl) ?a ?l ?c ?k
      (case a => k_is); (case l => k_is); (case c => k_is); (case k => k_is)
    case d_equal_signs =>
      refine' Hr.def_mk KX G (fun _ _ _ _ _ _ us hl => match us, hl with | [_], _ => rfl) ?a ?l ?c ?k
      (case a => k_is); (case l => k_is); (case c => k_is); (case k => k_is)
    case d_row_of =>
      refine' Hr.def_mk KX G (fun _ _ _ _ _ _ us hl => match us, hl with | [_], _ => rfl) ?a ?l ?c ?k
      (case a => k_is); (case l => k_is); (case c => k_is); (case k => k_is)
    case d_check_words =>
      refine' Hr.def_mk KX G (fun _ _ _ _ _ _ us hl => match us, hl with | [_], _ => rfl) ?a ?l ?c ?k
      (case a => k_is); (case l => k_is); (case c => k_is); (case k => k_is)
    case d_rise =>
      refine' Hr.def_mk KX G (fun _ _ _ _ _ _ us hl => match us, hl with | [_], _ => rfl) ?a ?l ?c ?k
      (case a => k_is); (case l => k_is); (case c => k_is); (case k => k_is)
    case d_is_run =>
      refine' Hr.def_mk KX G (fun _ _ _ _ _ _ us hl => match us, hl with | [_], _ => rfl) ?a ?l ?c ?k
      (case a => k_is); (case l => k_is); (case c => k_is); (case k => k_is)
    case d_is_length =>
      refine' Hr.def_mk KX G (fun _ _ _ _ _ _ us hl => match us, hl with | [_], _ => rfl) ?a ?l ?c ?k
      (case a => k_is); (case l => k_is); (case c => k_is); (case k => k_is)
    case d_law_mixed =>
      refine' Hr.def_mk KX G (fun _ _ _ _ _ _ us hl => match us, hl with | [_, _], _ => rfl) ?a ?l ?c ?k
      (case a => k_is); (case l => k_is); (case c => k_is); (case k => k_is)
    case d_law_number =>
      refine' Hr.def_mk KX G (fun _ _ _ _ _ _ us hl => match us, hl with | [_, _], _ => rfl) ?a ?l ?c ?k
      (case a => k_is); (case l => k_is); (case c => k_is); (case k => k_is)
    case d_law_row =>
      refine' Hr.def_mk KX G (fun _ _ _ _ _ _ us hl => match us, hl with | [_, _], _ => rfl) ?a ?l ?c ?k
      (case a => k_is); (case l => k_is); (case c => k_is); (case k => k_is)
    case d_law_word =>
      refine' Hr.def_mk KX G (fun _ _ _ _ _ _ us hl => match us, hl with | [_], _ => rfl) ?a ?l ?c ?k
      (case a => k_is); (case l => k_is); (case c => k_is); (case k => k_is)
    case d_law_told =>
      refine' Hr.def_mk KX G (fun _ _ _ _ _ _ us hl => match us, hl with | [_], _ => rfl) ?a ?l ?c ?k
      (case a => k_is); (case l => k_is); (case c => k_is); (case k => k_is)
    case d_law_refused =>
      refine' Hr.def_mk KX G (fun _ _ _ _ _ _ us hl => match us, hl with | [_], _ => rfl) ?a ?l ?c ?k
      (case a => k_is); (case l => k_is); (case c => k_is); (case k => k_is)
    case d_law_words =>
      refine' Hr.def_mk KX G (fun _ _ _ _ _ _ us hl => match us, hl with | [_], _ => rfl) ?a ?l ?c ?k
      (case a => k_is); (case l => k_is); (case c => k_is); (case k => k_is)
    case d_law_spoilt =>
      refine' Hr.def_mk KX G (fun _ _ _ _ _ _ us hl => match us, hl with | [_, _, _], _ => rfl) ?a ?l ?c ?k
      (case a => k_is); (case l => k_is); (case c => k_is); (case k => k_is)
    case d_is_hill =>
      refine' Hr.defD_mk (m := 1) KX G rfl (fun _ _ _ _ _ _ _ us its hu hi => match us, hu, its, hi with | [_, _], _, [_], _ => ⟨_, rfl, rfl⟩) (fun _ _ _ _ _ _ _ us its hu hi => match us, hu, its, hi with | [_], _, [_], _ => ⟨_, rfl, rfl⟩) ?a ?l ?c ?k ?t
      (case a => k_is); (case l => k_is); (case c => k_is); (case k => k_is); (case t => k_is)
    case d_check_hill =>
      refine' Hr.defD_mk (m := 1) KX G rfl (fun _ _ _ _ _ _ _ us its hu hi => match us, hu, its, hi with | [_, _], _, [_], _ => ⟨_, rfl, rfl⟩) (fun _ _ _ _ _ _ _ us its hu hi => match us, hu, its, hi with | [_], _, [_], _ => ⟨_, rfl, rfl⟩) ?a ?l ?c ?k ?t
      (case a => k_is); (case l => k_is); (case c => k_is); (case k => k_is); (case t => k_is)
    (case g_MOST_SIGNS => k_is)
    (case g_UP => k_is)
    (case g_DOWN => k_is)
    (case g_BLANK => k_is)
    (case g_NO_RUNS => k_is)
    (case z_ValueError => k_is)
    (case z_all => k_is)
    (case z_bool => k_is)
    (case z_enumerate => k_is)
    (case z_int => k_is)
    (case z_isinstance => k_is)
    (case z_len => k_is)
    (case z_max => k_is)
    (case z_min => k_is)
    (case z_range => k_is)
    (case z_str => k_is)
    (case z_sum => k_is)
    (case z_super => k_is)
    (case z_zip => k_is)
    (case gc0 => k_is)
    (case gc1 => k_is)
    (case gc2 => k_is)
    (case gc3 => k_is)
    (case gc4 => k_is)
    (case gc5 => k_is)
    (case gc6 => k_is)
    (case gc7 => k_is)
    (case gH => k_is)
    (case hHb => k_is)
    (case hHd => k_is)
    (case hHt => k_is)
    (case on => k_is)
    (case ot => k_is)
    (case x0 => k_exc)
    (case k0 => k_is)
    (case b0 => k_is)
    (case t0 => k_is)
    (case s0 => k_is)
    (case eg0 => k_is)
    (case ek0 => k_is)
    (case ed0 => k_is)
    (case ea0 => k_is)
    (case em0 => k_is)
    (case ve0 => kit_is)
    (case q0_0 => kit_is)
    (case q0_1 => kit_is)
    (case q0_2 => kit_is)
    (case q0_3 => kit_is)
    (case q0_4 => kit_is)
    (case q0_5 => kit_is)
    (case q0_6 => kit_is)
    (case q0_7 => kit_is)
    (case k7 => k_is)
    (case b7 => k_is)
    (case t7 => k_is)
    (case s7 => k_is)
    (case eg7 => k_is)
    (case ek7 => k_is)
    (case ed7 => k_is)
    (case ea7 => k_is)
    (case em7 => k_is)
    (case ve7 => kit_is)
    (case q7_0 => kit_is)
    (case q7_1 => kit_is)
    (case q7_2 => kit_is)
    (case q7_3 => kit_is)
    (case q7_4 => kit_is)
    (case q7_5 => kit_is)
    (case q7_6 => kit_is)
    (case q7_7 => kit_is)
    (case xc7 => k_is)
    (case sa7 => k_is)
    (case no7 => k_is)
    (case iC7 => k_is)
    (case tI7 => k_is)
    (case su7 => first | k_is | rfl | decide +kernel)
    (case ow7 => first | k_is | rfl | decide +kernel)
    (case vs7 => k_is)
    (case op7 => k_is)
    (case fn7 => k_is)
    (case cd7 => k_is)
    (case co7 => k_is)
    (case vw7 => first | rfl | k_is)
    (case fi7 => first | rfl | decide +kernel | k_is)
    (case ce7 => k_is)
    (case ht7 => first | rfl | decide +kernel)
