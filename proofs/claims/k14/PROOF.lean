import PyProof.Rows.All
import Wide.All
import OpenK.AllK
import Wide.FinOn
import HandS.ForMost
import HandS.IsInst
import HandS.Defaults
import HandS.Walk
import HandS.Codes
import HandS.RevRange
import HandS.ForExc
import KE.GoesMore
import HandS.ExcIs
import HandS.RaiseMore
import HandS.FStr
import HandS.ExcValue
import KE.RegKIsAll
import HandS.Rev
import HandS.Style
import HandS.TupSets
import HandS.TupAny
import HandS.Replace
import HandS.ReplaceLit
import HandS.ReplaceList
import HandS.ReplaceDef
import HandS.StrMore
import HandS.ExcField
import HandS.Flow
import HandS.ExcInit
import KE.KExcIs
import KE.KExcSuper
import PySem.Challenge.RW_hillrows_k14_whole_by_deeds
set_option Elab.async false
set_option linter.all false
set_option maxRecDepth 100000
namespace Hr
/-- the ways to the ground with k signs from the height h, none above T (for h at most T) -/
def W (T : Nat) : Nat → Nat → Nat
  | 0, h => if h = 0 then 1 else 0
  | k + 1, h => (if h = 0 then 0 else W T k (h - 1)) + (if h < T then W T k (h + 1) else 0)
theorem W_zero (T : Nat) : ∀ k h, k < h → W T k h = 0
  | 0, h, e => by
    unfold W
    rw [if_neg (by omega)]
  | k + 1, h, e => by
    unfold W
    rw [if_neg (show ¬ h = 0 by omega), W_zero T k (h - 1) (by omega), W_zero T k (h + 1) (by omega)]
    split <;> rfl
theorem W_same {T T' : Nat} (hT : T ≤ T') : ∀ k h, h ≤ T → k + h ≤ 2 * T + 1 → W T k h = W T' k h
  | 0, h, _, _ => by simp only [W]
  | k + 1, h, e, l => by
    simp only [W]
    by_cases h0 : h = 0
    · rw [if_pos h0, if_pos h0]
      by_cases hl : h < T
      · rw [if_pos hl, if_pos (show h < T' by omega), W_same hT k (h + 1) (by omega) (by omega)]
      · rw [if_neg hl]
        by_cases hl' : h < T'
        · rw [if_pos hl', W_zero T' k (h + 1) (by omega)]
        · rw [if_neg hl']
    · rw [if_neg h0, if_neg h0, W_same hT k (h - 1) (by omega) (by omega)]
      by_cases hl : h < T
      · rw [if_pos hl, if_pos (show h < T' by omega), W_same hT k (h + 1) (by omega) (by omega)]
      · rw [if_neg hl]
        by_cases hl' : h < T'
        · rw [if_pos hl', W_zero T' k (h + 1) (by omega)]
        · rw [if_neg hl']
/-- one row of the table -/
def rowW (T k : Nat) : List Int := (List.range (T + 1)).map fun h => ((W T k h : Nat) : Int)
theorem rowW_len (T k : Nat) : (rowW T k).length = T + 1 := by
  unfold rowW
  rw [List.length_map, List.length_range]
theorem rowW_get {T k h : Nat} (e : h ≤ T) : (rowW T k)[h]? = some ((W T k h : Nat) : Int) := by
  unfold rowW
  rw [List.getElem?_map, List.getElem?_range (by omega)]
  rfl
theorem rowW_zero (T : Nat) : rowW T 0 = 1 :: List.replicate T 0 := by
  unfold rowW
  apply List.ext_getElem?
  intro i
  rw [List.getElem?_map]
  cases i with
  | zero => rw [List.getElem?_range (by omega)]; rfl
  | succ i =>
    rw [List.getElem?_cons_succ]
    by_cases h : i < T
    · rw [List.getElem?_range (by omega), List.getElem?_replicate, if_pos h]
      rfl
    · rw [List.getElem?_eq_none (by rw [List.length_range]; omega), List.getElem?_replicate, if_neg h]
      rfl
/-- the padded row -/
def padW (l : List Int) : List Int := 0 :: (l ++ [0])
theorem pad_lo {T k h : Nat} (e : h ≤ T) : (padW (rowW T k))[h]? = some (((if h = 0 then 0 else W T k (h - 1) : Nat)) : Int) := by
  unfold padW
  cases h with
  | zero => rfl
  | succ h =>
    rw [List.getElem?_cons_succ, List.getElem?_append_left (by rw [rowW_len]; omega), rowW_get (by omega)]
    rfl
theorem pad_hi {T k h : Nat} (e : h ≤ T) : (padW (rowW T k))[h + 2]? = some (((if h < T then W T k (h + 1) else 0 : Nat)) : Int) := by
  unfold padW
  rw [List.getElem?_cons_succ]
  by_cases hl : h < T
  · rw [List.getElem?_append_left (by rw [rowW_len]; omega), rowW_get (by omega), if_pos hl]
  · have e : h = T := by omega
    subst e
    rw [List.getElem?_append_right (by rw [rowW_len]; omega), rowW_len, Nat.sub_self, if_neg hl]
    rfl
theorem row_step {T k h : Nat} (e : h ≤ T) : ∃ a b : Int, (padW (rowW T k))[h]? = some a ∧ (padW (rowW T k))[h + 2]? = some b ∧ (rowW T (k + 1))[h]? = some (a + b) := by
  refine ⟨_, _, pad_lo e, pad_hi e, ?_⟩
  rw [rowW_get e]
  simp only [W]
  rw [Int.natCast_add]
theorem W_le (T : Nat) : ∀ k h, W T k h ≤ 2 ^ k
  | 0, h => by
    unfold W
    split <;> decide
  | k + 1, h => by
    have a := W_le T k (h - 1)
    have b := W_le T k (h + 1)
    unfold W
    rw [Nat.pow_succ]
    split <;> split <;> omega

/-! ### hill rows by growing beginnings -/
section
variable {α : Type} (d u : α → α)
/-- the ceiling: none or some k -/
def under : Option Nat → Nat → Bool
  | none, _ => true
  | some c, h => decide (h < c)
def low (h : Nat) : Option Nat → Nat
  | none => h
  | some c => min h c
def grow1 (c : Option Nat) (p : α × Nat) : List (α × Nat) :=
  (if 0 < p.2 then [(d p.1, p.2 - 1)] else []) ++ (if under c p.2 = true then [(u p.1, p.2 + 1)] else [])
def growAll (c : Option Nat) (l : List (α × Nat)) : List (α × Nat) := l.flatMap (grow1 d u c)
def grown (c : Option Nat) (a : α) : Nat → List (α × Nat)
  | 0 => [(a, 0)]
  | k + 1 => growAll d u c (grown c a k)
def cnt (h : Nat) (l : List (α × Nat)) : Nat := (l.filter fun p => p.2 == h).length
theorem cnt_nil (h : Nat) : cnt h ([] : List (α × Nat)) = 0 := rfl
theorem cnt_append (h : Nat) (l r : List (α × Nat)) : cnt h (l ++ r) = cnt h l + cnt h r := by
  unfold cnt
  rw [List.filter_append, List.length_append]
theorem cnt_one (h : Nat) (a : α) (k : Nat) : cnt h [(a, k)] = if k = h then 1 else 0 := by
  unfold cnt
  by_cases e : k = h
  · rw [if_pos e, List.filter_cons_of_pos (by simp [e])]
    rfl
  · rw [if_neg e, List.filter_cons_of_neg (by simp [e])]
    rfl
theorem cnt_cons (h : Nat) (p : α × Nat) (l : List (α × Nat)) : cnt h (p :: l) = (if p.2 = h then 1 else 0) + cnt h l := by
  rw [← List.singleton_append, cnt_append, show cnt h [p] = if p.2 = h then 1 else 0 from cnt_one h p.1 p.2]
theorem cnt_grow1 (c : Option Nat) (h : Nat) (p : α × Nat) : cnt h (grow1 d u c p) = (if p.2 = h + 1 then 1 else 0) + (if 0 < h ∧ under c (h - 1) = true ∧ p.2 = h - 1 then 1 else 0) := by
  unfold grow1
  rw [cnt_append]
  congr 1
  · by_cases e : 0 < p.2
    · rw [if_pos e, cnt_one]
      by_cases e2 : p.2 = h + 1
      · rw [if_pos e2, if_pos (by omega)]
      · rw [if_neg e2, if_neg (by omega)]
    · rw [if_neg e, cnt_nil, if_neg (by omega)]
  · by_cases e : under c p.2 = true
    · rw [if_pos e, cnt_one]
      by_cases e2 : p.2 + 1 = h
      · have : h - 1 = p.2 := by omega
        rw [if_pos e2, if_pos ⟨by omega, by rw [this]; exact e, by omega⟩]
      · rw [if_neg e2, if_neg (by omega)]
    · rw [if_neg e, cnt_nil]
      by_cases e2 : 0 < h ∧ under c (h - 1) = true ∧ p.2 = h - 1
      · rw [← e2.2.2] at e2
        exact absurd e2.2.1 e
      · rw [if_neg e2]
theorem cnt_growAll (c : Option Nat) (h : Nat) : ∀ l : List (α × Nat), cnt h (growAll d u c l) = cnt (h + 1) l + (if 0 < h ∧ under c (h - 1) = true then cnt (h - 1) l else 0)
  | [] => by
    show 0 = 0 + (if _ then 0 else 0)
    split <;> rfl
  | p :: l => by
    have e : growAll d u c (p :: l) = grow1 d u c p ++ growAll d u c l := rfl
    rw [e, cnt_append, cnt_grow1, cnt_growAll c h l, cnt_cons, cnt_cons]
    by_cases e1 : 0 < h ∧ under c (h - 1) = true
    · rw [if_pos e1, if_pos e1]
      by_cases e2 : p.2 = h - 1
      · rw [if_pos (show 0 < h ∧ under c (h - 1) = true ∧ p.2 = h - 1 from ⟨e1.1, e1.2, e2⟩), if_pos e2]
        omega
      · rw [if_neg (show ¬ (0 < h ∧ under c (h - 1) = true ∧ p.2 = h - 1) from fun z => e2 z.2.2), if_neg e2]
        omega
    · rw [if_neg e1, if_neg e1, if_neg (show ¬ (0 < h ∧ under c (h - 1) = true ∧ p.2 = h - 1) from fun z => e1 ⟨z.1, z.2.1⟩)]
      omega
/-- no row grown in k signs is higher than k -/
theorem cnt_grown (c : Option Nat) (a : α) (T : Nat) (hT : ∀ k, c = some k → T = k) : ∀ k h, (c = none → k + h ≤ 2 * T + 1) → h ≤ T → cnt h (grown d u c a k) = W T k h
  | 0, h, _, _ => by
    show cnt h [(a, 0)] = _
    rw [cnt_one]
    unfold W
    by_cases e : h = 0
    · rw [if_pos e, if_pos e.symm]
    · rw [if_neg e, if_neg (fun z => e z.symm)]
  | k + 1, h, hc, hl => by
    show cnt h (growAll d u c (grown d u c a k)) = _
    rw [cnt_growAll]
    simp only [W]
    rw [Nat.add_comm]
    congr 1
    · by_cases e0 : h = 0
      · rw [if_pos e0, if_neg (by omega)]
      · rw [if_neg e0]
        have hu : under c (h - 1) = true := by
          cases c with
          | none => rfl
          | some k =>
            have := hT k rfl
            unfold under
            exact decide_eq_true (by omega)
        rw [if_pos ⟨by omega, hu⟩, cnt_grown c a T hT k (h - 1) (fun z => by have := hc z; omega) (by omega)]
    · by_cases e : h < T
      · rw [if_pos e, cnt_grown c a T hT k (h + 1) (fun z => by have := hc z; omega) (by omega)]
      · rw [if_neg e]
        cases c with
        | none =>
          have z := hc rfl
          exact cnt_zero_len none a k (h + 1) (by omega)
        | some j =>
          have e3 := hT j rfl
          exact cnt_zero_top2 j a k (h + 1) (by omega)
where
  cnt_zero_len (c : Option Nat) (a : α) : ∀ k h, k < h → cnt h (grown d u c a k) = 0
    | 0, h, e => by
      show cnt h [(a, 0)] = 0
      rw [cnt_one, if_neg (by omega)]
    | k + 1, h, e => by
      show cnt h (growAll d u c (grown d u c a k)) = 0
      rw [cnt_growAll, cnt_zero_len c a k (h + 1) (by omega), cnt_zero_len c a k (h - 1) (by omega)]
      split <;> rfl
  cnt_zero_top2 (j : Nat) (a : α) : ∀ k h, j < h → cnt h (grown d u (some j) a k) = 0
    | 0, h, e => by
      show cnt h [(a, 0)] = 0
      rw [cnt_one, if_neg (by omega)]
    | k + 1, h, e => by
      show cnt h (growAll d u (some j) (grown d u (some j) a k)) = 0
      rw [cnt_growAll, cnt_zero_top2 j a k (h + 1) (by omega), if_neg (fun z => ?_)]
      have := z.2
      unfold under at this
      have := of_decide_eq_true this
      omega
theorem grown_len (c : Option Nat) (a : α) : ∀ k, (grown d u c a k).length ≤ 2 ^ k
  | 0 => Nat.le_refl 1
  | k + 1 => by
    have ih := grown_len c a k
    have g : ∀ l : List (α × Nat), (growAll d u c l).length ≤ 2 * l.length := by
      intro l
      induction l with
      | nil => exact Nat.le_refl _
      | cons p l il =>
        have e : growAll d u c (p :: l) = grow1 d u c p ++ growAll d u c l := rfl
        rw [e, List.length_append, List.length_cons]
        have : (grow1 d u c p).length ≤ 2 := by
          unfold grow1
          rw [List.length_append]
          split <;> split <;> simp
        omega
    have := g (grown d u c a k)
    show (growAll d u c (grown d u c a k)).length ≤ _
    rw [Nat.pow_succ]
    omega
/-- as many as the table counts -/
theorem counted_ok (c : Option Nat) (a : α) (n : Nat) : cnt 0 (grown d u c a (2 * n)) = W (low n c) (2 * n) 0 := by
  cases c with
  | none => exact cnt_grown d u none a n (fun _ z => nomatch z) _ _ (fun _ => by omega) (Nat.zero_le _)
  | some j =>
    rw [cnt_grown d u (some j) a j (fun k z => by cases z; rfl) _ _ (fun z => nomatch z) (Nat.zero_le _)]
    show W j (2 * n) 0 = W (min n j) (2 * n) 0
    by_cases h : j ≤ n
    · rw [Nat.min_eq_right h]
    · rw [Nat.min_eq_left (by omega)]
      exact (W_same (by omega) _ _ (Nat.zero_le _) (by omega)).symm
end
end Hr
namespace Hr
/-! ### rows as lists of signs: true is up -/
/-- all rows of k signs from the height h to the ground, none above T, in order -/
def rws (T : Nat) : Nat → Nat → List (List Bool)
  | 0, h => if h = 0 then [[]] else []
  | k + 1, h => (if h = 0 then [] else (rws T k (h - 1)).map (false :: ·)) ++ (if h < T then (rws T k (h + 1)).map (true :: ·) else [])
theorem rws_len (T : Nat) : ∀ k h, (rws T k h).length = W T k h
  | 0, h => by
    unfold rws W
    split <;> rfl
  | k + 1, h => by
    unfold rws W
    rw [List.length_append]
    congr 1
    · split
      · rfl
      · rw [List.length_map, rws_len T k (h - 1)]
    · split
      · rw [List.length_map, rws_len T k (h + 1)]
      · rfl
/-- the row of a rank -/
def unrank (T : Nat) : Nat → Nat → Nat → List Bool
  | 0, _, _ => []
  | k + 1, h, r => if r < (if h = 0 then 0 else W T k (h - 1)) then false :: unrank T k (h - 1) r else true :: unrank T k (h + 1) (r - (if h = 0 then 0 else W T k (h - 1)))
/-- the ways down -/
def dn (T k h : Nat) : Nat := if h = 0 then 0 else W T k (h - 1)
theorem unrank_succ (T k h r : Nat) : unrank T (k + 1) h r = if r < dn T k h then false :: unrank T k (h - 1) r else true :: unrank T k (h + 1) (r - dn T k h) := rfl
theorem W_succ (T k h : Nat) : W T (k + 1) h = dn T k h + (if h < T then W T k (h + 1) else 0) := rfl
/-- the rank of a row that goes on from h -/
def rankOf (T : Nat) : Nat → List Bool → Nat
  | _, [] => 0
  | h, true :: l => dn T l.length h + rankOf T (h + 1) l
  | h, false :: l => rankOf T (h - 1) l
/-- a row from h to the ground under the ceiling -/
def okb (c : Option Nat) : Nat → List Bool → Bool
  | h, [] => h == 0
  | h, true :: l => under c h && okb c (h + 1) l
  | h, false :: l => (h != 0) && okb c (h - 1) l
theorem okb_up {c : Option Nat} {h : Nat} {l : List Bool} (e : okb c h (true :: l) = true) : under c h = true ∧ okb c (h + 1) l = true := by
  unfold okb at e
  exact Bool.and_eq_true_iff.mp e
theorem okb_down {c : Option Nat} {h : Nat} {l : List Bool} (e : okb c h (false :: l) = true) : h ≠ 0 ∧ okb c (h - 1) l = true := by
  unfold okb at e
  obtain ⟨a, b⟩ := Bool.and_eq_true_iff.mp e
  exact ⟨by simpa using a, b⟩
theorem okb_len {c : Option Nat} : ∀ {l : List Bool} {h : Nat}, okb c h l = true → h ≤ l.length
  | [], h, e => by
    have : h = 0 := by simpa [okb] using e
    omega
  | true :: l, h, e => by
    have := okb_len (okb_up e).2
    rw [List.length_cons]
    omega
  | false :: l, h, e => by
    have := okb_len (okb_down e).2
    rw [List.length_cons]
    omega
theorem rank_lt {T : Nat} : ∀ {l : List Bool} {h : Nat}, okb (some T) h l = true → rankOf T h l < W T l.length h
  | [], h, e => by
    have e0 : h = 0 := by simpa [okb] using e
    rw [e0]
    exact Nat.zero_lt_one
  | true :: l, h, e => by
    obtain ⟨a, b⟩ := okb_up e
    have ih := rank_lt b
    have a' : h < T := of_decide_eq_true a
    rw [List.length_cons, W_succ, if_pos a']
    show dn T l.length h + rankOf T (h + 1) l < _
    omega
  | false :: l, h, e => by
    obtain ⟨a, b⟩ := okb_down e
    have ih := rank_lt b
    rw [List.length_cons, W_succ]
    show rankOf T (h - 1) l < _
    unfold dn
    rw [if_neg a]
    omega
theorem unrank_rank {T : Nat} : ∀ {l : List Bool} {h : Nat}, okb (some T) h l = true → unrank T l.length h (rankOf T h l) = l
  | [], h, e => rfl
  | true :: l, h, e => by
    obtain ⟨a, b⟩ := okb_up e
    rw [List.length_cons, unrank_succ]
    show (if dn T l.length h + rankOf T (h + 1) l < dn T l.length h then _ else true :: unrank T l.length (h + 1) (dn T l.length h + rankOf T (h + 1) l - dn T l.length h)) = _
    rw [if_neg (by omega), Nat.add_sub_cancel_left, unrank_rank b]
  | false :: l, h, e => by
    obtain ⟨a, b⟩ := okb_down e
    have := rank_lt b
    rw [List.length_cons, unrank_succ]
    show (if rankOf T (h - 1) l < dn T l.length h then false :: unrank T l.length (h - 1) (rankOf T (h - 1) l) else _) = _
    rw [if_pos (by unfold dn; rw [if_neg a]; exact this), unrank_rank b]
theorem unrank_ok {T : Nat} : ∀ {k h r : Nat}, r < W T k h → okb (some T) h (unrank T k h r) = true ∧ (unrank T k h r).length = k ∧ rankOf T h (unrank T k h r) = r
  | 0, h, r, e => by
    unfold W at e
    by_cases h0 : h = 0
    · rw [if_pos h0] at e
      refine ⟨?_, rfl, ?_⟩
      · rw [h0]
        rfl
      · show 0 = r
        omega
    · rw [if_neg h0] at e
      omega
  | k + 1, h, r, e => by
    rw [unrank_succ]
    rw [W_succ] at e
    by_cases hr : r < dn T k h
    · rw [if_pos hr]
      have h0 : h ≠ 0 := fun z => by
        unfold dn at hr
        rw [if_pos z] at hr
        omega
      have hr' : r < W T k (h - 1) := by
        unfold dn at hr
        rw [if_neg h0] at hr
        exact hr
      obtain ⟨a, b, c⟩ := unrank_ok hr'
      refine ⟨?_, by rw [List.length_cons, b], c⟩
      unfold okb
      rw [a, Bool.and_true]
      simpa using h0
    · rw [if_neg hr]
      by_cases hT : h < T
      · rw [if_pos hT] at e
        obtain ⟨a, b, c⟩ := unrank_ok (T := T) (k := k) (h := h + 1) (r := r - dn T k h) (by omega)
        refine ⟨?_, by rw [List.length_cons, b], ?_⟩
        · unfold okb
          rw [a, Bool.and_true]
          exact decide_eq_true hT
        · show dn T _ h + rankOf T (h + 1) _ = r
          rw [b, c]
          omega
      · rw [if_neg hT] at e
        omega
theorem unrank_get {T : Nat} : ∀ {k h r : Nat}, r < W T k h → (rws T k h)[r]? = some (unrank T k h r)
  | 0, h, r, e => by
    unfold W at e
    by_cases h0 : h = 0
    · rw [if_pos h0] at e
      have : r = 0 := by omega
      rw [this, h0]
      rfl
    · rw [if_neg h0] at e
      omega
  | k + 1, h, r, e => by
    rw [unrank_succ]
    rw [W_succ] at e
    unfold rws
    have hl : (if h = 0 then [] else (rws T k (h - 1)).map (false :: ·)).length = dn T k h := by
      unfold dn
      split
      · rfl
      · rw [List.length_map, rws_len]
    by_cases hr : r < dn T k h
    · rw [if_pos hr, List.getElem?_append_left (by rw [hl]; exact hr)]
      have h0 : h ≠ 0 := fun z => by
        unfold dn at hr
        rw [if_pos z] at hr
        omega
      have hr' : r < W T k (h - 1) := by
        unfold dn at hr
        rw [if_neg h0] at hr
        exact hr
      rw [if_neg h0, List.getElem?_map, unrank_get hr']
      rfl
    · rw [if_neg hr, List.getElem?_append_right (by rw [hl]; omega), hl]
      by_cases hT : h < T
      · rw [if_pos hT] at e ⊢
        rw [List.getElem?_map, unrank_get (T := T) (k := k) (h := h + 1) (r := r - dn T k h) (by omega)]
        rfl
      · rw [if_neg hT] at e
        omega
/-- a hill row of n ups is not higher than n -/
theorem okb_low {c : Option Nat} {n : Nat} : ∀ {l : List Bool} {h : Nat}, h + l.length ≤ 2 * n → okb c h l = true → okb (some (low n c)) h l = true
  | [], h, _, e => e
  | true :: l, h, hn, e => by
    obtain ⟨a, b⟩ := okb_up e
    rw [List.length_cons] at hn
    have := okb_len b
    unfold okb
    rw [okb_low (by omega) b, Bool.and_true]
    refine decide_eq_true ?_
    cases c with
    | none => show h < n; omega
    | some k =>
      have a' : h < k := of_decide_eq_true a
      show h < min n k
      omega
  | false :: l, h, hn, e => by
    obtain ⟨a, b⟩ := okb_down e
    rw [List.length_cons] at hn
    unfold okb
    rw [okb_low (by omega) b, Bool.and_true]
    simpa using a
theorem okb_up_of {c : Option Nat} {n : Nat} : ∀ {l : List Bool} {h : Nat}, okb (some (low n c)) h l = true → okb c h l = true
  | [], h, e => e
  | true :: l, h, e => by
    obtain ⟨a, b⟩ := okb_up e
    unfold okb
    rw [okb_up_of b, Bool.and_true]
    have a' : h < low n c := of_decide_eq_true a
    cases c with
    | none => rfl
    | some k =>
      have a' : h < min n k := a'
      exact decide_eq_true (by omega)
  | false :: l, h, e => by
    obtain ⟨a, b⟩ := okb_down e
    unfold okb
    rw [okb_up_of b, Bool.and_true]
    simpa using a
/-- how many ups -/
theorem okb_ups {c : Option Nat} : ∀ {l : List Bool} {h : Nat}, okb c h l = true → h + 2 * (l.filter id).length = l.length
  | [], h, e => by
    have e0 : h = 0 := by simpa [okb] using e
    rw [e0]
    rfl
  | true :: l, h, e => by
    have := okb_ups (okb_up e).2
    rw [List.length_cons, List.filter_cons_of_pos rfl, List.length_cons]
    omega
  | false :: l, h, e => by
    obtain ⟨a, b⟩ := okb_down e
    have := okb_ups b
    rw [List.length_cons, List.filter_cons_of_neg (by simp)]
    omega
theorem okb_even {c : Option Nat} {l : List Bool} (e : okb c 0 l = true) : l.length = 2 * (l.length / 2) := by
  have := okb_ups e
  omega
/-! ### heights -/
def sg (b : Bool) : Int := if b = true then 1 else -1
def hts : Int → List Bool → List Int
  | h, [] => [h]
  | h, b :: l => h :: hts (h + sg b) l
theorem hts_len : ∀ (l : List Bool) (h : Int), (hts h l).length = l.length + 1
  | [], _ => rfl
  | b :: l, h => by
    show (hts (h + sg b) l).length + 1 = _
    rw [hts_len l]
    rfl
theorem hts_ne (h : Int) (l : List Bool) : hts h l ≠ [] := by
  cases l <;> exact List.cons_ne_nil _ _
theorem hts_append : ∀ (l r : List Bool) (h : Int), hts h (l ++ r) = (hts h l).dropLast ++ hts (h + (l.map sg).sum) r
  | [], r, h => by
    show hts h r = [] ++ hts (h + 0) r
    rw [Int.add_zero]
    rfl
  | b :: l, r, h => by
    show h :: hts (h + sg b) (l ++ r) = (h :: hts (h + sg b) l).dropLast ++ _
    rw [hts_append l r, List.dropLast_cons_of_ne_nil (hts_ne _ _), List.map_cons, List.sum_cons, ← Int.add_assoc]
    rfl
theorem hts_snoc (l : List Bool) (b : Bool) (h : Int) : hts h (l ++ [b]) = hts h l ++ [h + (l.map sg).sum + sg b] := by
  have last : ∀ (l : List Bool) (h : Int), hts h l = (hts h l).dropLast ++ [h + (l.map sg).sum] := by
    intro l h
    have := hts_append l [] h
    rw [List.append_nil] at this
    exact this
  rw [hts_append, last l h]
  rw [List.dropLast_concat, List.append_assoc]
  rfl
theorem hts_last (l : List Bool) (h : Int) : (hts h l) = (hts h l).dropLast ++ [h + (l.map sg).sum] := by
  have := hts_append l [] h
  rw [List.append_nil] at this
  exact this
/-- a hill row by its heights -/
theorem okb_iff (c : Option Nat) : ∀ (l : List Bool) (h : Nat), (∀ k, c = some k → h ≤ k) → (okb c h l = true ↔ ((h : Int) + (l.map sg).sum = 0 ∧ (∀ x ∈ hts h l, 0 ≤ x) ∧ ∀ k, c = some k → ∀ x ∈ hts h l, x ≤ (k : Int)))
  | [], h, hc => by
    show ((h == 0) = true) ↔ _
    constructor
    · intro e
      have e0 : h = 0 := by simpa using e
      subst e0
      refine ⟨rfl, fun x hx => ?_, fun k hk x hx => ?_⟩
      · have := List.mem_singleton.mp hx
        omega
      · have := List.mem_singleton.mp hx
        omega
    · rintro ⟨e, _, _⟩
      have : (h : Int) + 0 = 0 := e
      have : h = 0 := by omega
      simp [this]
  | true :: l, h, hc => by
    have e1 : hts (h : Int) (true :: l) = (h : Int) :: hts ((h + 1 : Nat) : Int) l := rfl
    have e2 : ((true :: l).map sg).sum = 1 + (l.map sg).sum := by
      rw [List.map_cons, List.sum_cons]
      rfl
    rw [e1, e2]
    constructor
    · intro e
      obtain ⟨a, b⟩ := okb_up e
      have hc' : ∀ k, c = some k → h + 1 ≤ k := fun k hk => by
        rw [hk] at a
        exact of_decide_eq_true a
      obtain ⟨i1, i2, i3⟩ := (okb_iff c l (h + 1) hc').mp b
      refine ⟨by omega, fun x hx => ?_, fun k hk x hx => ?_⟩
      · rcases List.mem_cons.mp hx with z | z
        · omega
        · exact i2 x z
      · rcases List.mem_cons.mp hx with z | z
        · have := hc k hk
          omega
        · exact i3 k hk x z
    · rintro ⟨a, b, d⟩
      have hmem : ((h + 1 : Nat) : Int) ∈ hts ((h + 1 : Nat) : Int) l := by
        cases l <;> exact List.mem_cons_self ..
      have hc' : ∀ k, c = some k → h + 1 ≤ k := fun k hk => by
        have := d k hk _ (List.mem_cons_of_mem _ hmem)
        omega
      have := (okb_iff c l (h + 1) hc').mpr ⟨by omega, fun x hx => b x (List.mem_cons_of_mem _ hx), fun k hk x hx => d k hk x (List.mem_cons_of_mem _ hx)⟩
      unfold okb
      rw [this, Bool.and_true]
      cases c with
      | none => rfl
      | some k =>
        have := hc' k rfl
        exact decide_eq_true (by omega)
  | false :: l, h, hc => by
    have e2 : ((false :: l).map sg).sum = -1 + (l.map sg).sum := by
      rw [List.map_cons, List.sum_cons]
      rfl
    by_cases h0 : h = 0
    · subst h0
      have e1 : hts ((0 : Nat) : Int) (false :: l) = 0 :: hts (-1) l := rfl
      constructor
      · intro e
        exact absurd rfl (okb_down e).1
      · rintro ⟨a, b, d⟩
        have hmem : (-1 : Int) ∈ hts (-1) l := by
          cases l <;> exact List.mem_cons_self ..
        rw [e1] at b
        have := b _ (List.mem_cons_of_mem _ hmem)
        omega
    · have e1 : hts (h : Int) (false :: l) = (h : Int) :: hts ((h - 1 : Nat) : Int) l := by
        show (h : Int) :: hts ((h : Int) + -1) l = _
        rw [show (h : Int) + -1 = ((h - 1 : Nat) : Int) by omega]
      rw [e1, e2]
      have hc' : ∀ k, c = some k → h - 1 ≤ k := fun k hk => by
        have := hc k hk
        omega
      constructor
      · intro e
        obtain ⟨a, b⟩ := okb_down e
        obtain ⟨i1, i2, i3⟩ := (okb_iff c l (h - 1) hc').mp b
        refine ⟨by omega, fun x hx => ?_, fun k hk x hx => ?_⟩
        · rcases List.mem_cons.mp hx with z | z
          · omega
          · exact i2 x z
        · rcases List.mem_cons.mp hx with z | z
          · have := hc k hk
            omega
          · exact i3 k hk x z
      · rintro ⟨a, b, d⟩
        have := (okb_iff c l (h - 1) hc').mpr ⟨by omega, fun x hx => b x (List.mem_cons_of_mem _ hx), fun k hk x hx => d k hk x (List.mem_cons_of_mem _ hx)⟩
        unfold okb
        rw [this, Bool.and_true]
        simpa using h0
end Hr
/-! ### first hills, groves -/
namespace Hr
theorem okb_app {r : List Bool} {h : Nat} : ∀ {a : List Bool} {k : Nat}, okb none k a = true → okb none (h + k) (a ++ r) = okb none h r
  | [], k, e => by
    have e0 : k = 0 := by simpa [okb] using e
    rw [e0]
    rfl
  | true :: a, k, e => by
    show (true && okb none (h + k + 1) (a ++ r)) = _
    rw [Bool.true_and]
    exact okb_app (k := k + 1) (okb_up e).2
  | false :: a, k, e => by
    obtain ⟨k0, e1⟩ := okb_down e
    show ((h + k != 0) && okb none (h + k - 1) (a ++ r)) = _
    rw [show (h + k != 0) = true by simp; omega, Bool.true_and, show h + k - 1 = h + (k - 1) by omega]
    exact okb_app e1
/-- a walk down by one: the first down to there parts it -/
theorem okb_part : ∀ (m : Nat) {l : List Bool} {h : Nat}, l.length ≤ m → okb none (h + 1) l = true → ∃ a b, l = a ++ false :: b ∧ okb none 0 a = true ∧ okb none h b = true
  | m, [], h, _, e => by
    have : h + 1 = 0 := by simpa [okb] using e
    omega
  | m, false :: l, h, _, e => ⟨[], l, rfl, rfl, (okb_down e).2⟩
  | 0, true :: l, h, hm, e => absurd hm (by rw [List.length_cons]; omega)
  | m + 1, true :: l, h, hm, e => by
    rw [List.length_cons] at hm
    obtain ⟨a1, b1, e1, o1, p1⟩ := okb_part m (h := h + 1) (by omega) (okb_up e).2
    have h1 : b1.length ≤ m := by
      have := congrArg List.length e1
      rw [List.length_append, List.length_cons] at this
      omega
    obtain ⟨a2, b2, e2, o2, p2⟩ := okb_part m h1 p1
    refine ⟨true :: (a1 ++ false :: a2), b2, by rw [e1, e2, List.cons_append, List.append_assoc, List.cons_append], ?_, p2⟩
    show (true && okb none (0 + 1) (a1 ++ false :: a2)) = true
    rw [Bool.true_and]
    have := okb_app (r := false :: a2) (h := 1) o1
    rw [Nat.add_zero] at this
    rw [Nat.zero_add, this]
    show ((1 != 0) && okb none (1 - 1) a2) = true
    rw [Nat.sub_self, o2]
    rfl
theorem hill_part {l : List Bool} (e : okb none 0 (true :: l) = true) : ∃ a b, l = a ++ false :: b ∧ okb none 0 a = true ∧ okb none 0 b = true := okb_part l.length (Nat.le_refl _) (okb_up e).2
theorem hill_put {a b : List Bool} (ha : okb none 0 a = true) (hb : okb none 0 b = true) : okb none 0 (true :: (a ++ false :: b)) = true := by
  show (true && okb none (0 + 1) (a ++ false :: b)) = true
  have := okb_app (r := false :: b) (h := 1) ha
  rw [Nat.add_zero] at this
  rw [Bool.true_and, Nat.zero_add, this]
  show ((1 != 0) && okb none (1 - 1) b) = true
  rw [Nat.sub_self, hb]
  rfl
theorem hill_app {a b : List Bool} (ha : okb none 0 a = true) (hb : okb none 0 b = true) : okb none 0 (a ++ b) = true := by
  have := okb_app (r := b) (h := 0) ha
  rw [Nat.add_zero] at this
  rw [this]
  exact hb
/-- no hill row stands ahead of its own first down below -/
theorem part_one : ∀ {a a' b b' : List Bool} {h : Nat}, okb none h a = true → okb none h a' = true → a ++ false :: b = a' ++ false :: b' → a = a' ∧ b = b'
  | [], [], b, b', h, _, _, e => ⟨rfl, (List.cons.inj e).2⟩
  | [], x :: a', b, b', h, e1, e2, e => by
    have hx : x = false := (List.cons.inj e).1.symm
    have h0 : h = 0 := by simpa [okb] using e1
    rw [hx, h0] at e2
    exact absurd rfl (okb_down e2).1
  | x :: a, [], b, b', h, e1, e2, e => by
    have hx : x = false := (List.cons.inj e).1
    have h0 : h = 0 := by simpa [okb] using e2
    rw [hx, h0] at e1
    exact absurd rfl (okb_down e1).1
  | x :: a, y :: a', b, b', h, e1, e2, e => by
    obtain ⟨hx, he⟩ := List.cons.inj e
    subst hx
    cases x with
    | true =>
      obtain ⟨p, q⟩ := part_one (okb_up e1).2 (okb_up e2).2 he
      exact ⟨by rw [p], q⟩
    | false =>
      obtain ⟨p, q⟩ := part_one (okb_down e1).2 (okb_down e2).2 he
      exact ⟨by rw [p], q⟩
/-- a grove: none, or a tree (what hangs on it) and the trees behind it -/
inductive Gv where
  | no : Gv
  | tree : Gv → Gv → Gv
/-- its row -/
def Gv.row : Gv → List Bool
  | .no => []
  | .tree a b => true :: (a.row ++ false :: b.row)
/-- how deep it is -/
def Gv.deep : Gv → Nat
  | .no => 0
  | .tree a b => max (a.deep + 1) b.deep
/-- its trees -/
def Gv.trees : Gv → List Gv
  | .no => []
  | .tree a b => a :: b.trees
def Gv.of : List Gv → Gv
  | [] => .no
  | a :: r => .tree a (.of r)
theorem Gv.of_trees : ∀ g : Gv, Gv.of g.trees = g
  | .no => rfl
  | .tree a b => by
    show Gv.tree a (Gv.of b.trees) = _
    rw [of_trees b]
theorem Gv.trees_of : ∀ l : List Gv, (Gv.of l).trees = l
  | [] => rfl
  | a :: r => by
    show a :: (Gv.of r).trees = _
    rw [trees_of r]
def Gv.app : Gv → Gv → Gv
  | .no, g => g
  | .tree a b, g => .tree a (b.app g)
theorem Gv.trees_app : ∀ f g : Gv, (f.app g).trees = f.trees ++ g.trees
  | .no, _ => rfl
  | .tree a b, g => congrArg (a :: ·) (trees_app b g)
theorem Gv.row_app : ∀ f g : Gv, (f.app g).row = f.row ++ g.row
  | .no, _ => rfl
  | .tree a b, g => by
    show true :: (a.row ++ false :: (b.app g).row) = true :: (a.row ++ false :: b.row) ++ g.row
    rw [row_app b g, List.cons_append, List.append_assoc, List.cons_append]
theorem Gv.row_hill : ∀ g : Gv, okb none 0 g.row = true
  | .no => rfl
  | .tree a b => hill_put a.row_hill b.row_hill
theorem Gv.row_inj : ∀ {f g : Gv}, f.row = g.row → f = g
  | .no, .no, _ => rfl
  | .no, .tree _ _, e => by cases e
  | .tree _ _, .no, e => by cases e
  | .tree a b, .tree c d, e => by
    obtain ⟨p, q⟩ := part_one a.row_hill c.row_hill (List.cons.inj e).2
    rw [row_inj p, row_inj q]
theorem grove_of : ∀ (m : Nat) {l : List Bool}, l.length ≤ m → okb none 0 l = true → ∃ g : Gv, g.row = l
  | _, [], _, _ => ⟨.no, rfl⟩
  | _, false :: l, _, e => absurd rfl (okb_down e).1
  | 0, true :: l, hm, _ => absurd hm (by rw [List.length_cons]; omega)
  | m + 1, true :: l, hm, e => by
    obtain ⟨a, b, rfl, ha, hb⟩ := hill_part e
    rw [List.length_cons, List.length_append, List.length_cons] at hm
    obtain ⟨f, rfl⟩ := grove_of m (by omega) ha
    obtain ⟨g, rfl⟩ := grove_of m (by omega) hb
    exact ⟨.tree f g, rfl⟩
/-- every hill row is the row of just one grove -/
theorem grove_row {l : List Bool} (e : okb none 0 l = true) : ∃ g : Gv, g.row = l := grove_of l.length (Nat.le_refl _) e
theorem Gv.deep_le : ∀ g : Gv, 2 * g.deep ≤ g.row.length
  | .no => Nat.le_refl _
  | .tree a b => by
    have h1 := deep_le a
    have h2 := deep_le b
    show 2 * max (a.deep + 1) b.deep ≤ (true :: (a.row ++ false :: b.row)).length
    rw [List.length_cons, List.length_append, List.length_cons]
    omega
/-! ### turnings -/
/-- the law's walk: below 0 but at the end nowhere -/
def stayB : Int → List Bool → Bool
  | _, [] => false
  | h, b :: l => if h + sg b < 0 then l.isEmpty else stayB (h + sg b) l
theorem stayB_iff : ∀ (l : List Bool) (h : Int), stayB h l = true ↔ (l ≠ [] ∧ h + (l.map sg).sum < 0 ∧ ∀ i, 0 < i → i < l.length → 0 ≤ h + ((l.take i).map sg).sum)
  | [], h => ⟨fun e => (nomatch (show false = true from e)), fun e => absurd rfl e.1⟩
  | b :: l, h => by
    have ih := stayB_iff l (h + sg b)
    show (if h + sg b < 0 then l.isEmpty else stayB (h + sg b) l) = true ↔ _
    by_cases hn : h + sg b < 0
    · rw [if_pos hn]
      constructor
      · intro e
        have e : l = [] := by simpa using e
        subst e
        refine ⟨List.cons_ne_nil _ _, ?_, fun i h0 h1 => ?_⟩
        · show h + (sg b + 0) < 0
          omega
        · have h1 : i < 1 := h1
          omega
      · rintro ⟨_, _, h3⟩
        cases l with
        | nil => rfl
        | cons c l =>
          have := h3 1 (by omega) (by rw [List.length_cons, List.length_cons]; omega)
          have : 0 ≤ h + (sg b + 0) := this
          omega
    · rw [if_neg hn, ih]
      constructor
      · rintro ⟨_, h2, h3⟩
        refine ⟨List.cons_ne_nil _ _, ?_, fun i h0 h1 => ?_⟩
        · rw [List.map_cons, List.sum_cons]
          omega
        · obtain ⟨j, rfl⟩ : ∃ j, i = j + 1 := ⟨i - 1, by omega⟩
          rw [List.take_succ_cons, List.map_cons, List.sum_cons]
          rw [List.length_cons] at h1
          by_cases hj : j = 0
          · subst hj
            show 0 ≤ h + (sg b + 0)
            omega
          · have := h3 j (by omega) (by omega)
            omega
      · rintro ⟨_, h2, h3⟩
        rw [List.map_cons, List.sum_cons] at h2
        refine ⟨fun z => ?_, by omega, fun i h0 h1 => ?_⟩
        · subst z
          have h2 : h + (sg b + 0) < 0 := h2
          omega
        · have := h3 (i + 1) (by omega) (by rw [List.length_cons]; omega)
          rw [List.take_succ_cons, List.map_cons, List.sum_cons] at this
          omega
/-- the height at the place i -/
def hgt (l : List Bool) (i : Nat) : Int := ((l.take i).map sg).sum
def turned (l : List Bool) (k : Nat) : List Bool := l.drop k ++ l.take k
/-- the place k is the first lowest one -/
def Lowest (l : List Bool) (k : Nat) : Prop := (∀ i, i < k → hgt l k < hgt l i) ∧ ∀ i, k ≤ i → i ≤ l.length → hgt l k ≤ hgt l i
theorem hgt_drop (l : List Bool) (k j : Nat) : ((((l.drop k).take j)).map sg).sum = hgt l (k + j) - hgt l k := by
  unfold hgt
  rw [List.take_add, List.map_append, List.sum_append]
  omega
theorem hgt_len (l : List Bool) : hgt l l.length = (l.map sg).sum := by
  unfold hgt
  rw [List.take_length]
theorem hgt_drop_all (l : List Bool) {k : Nat} (hk : k ≤ l.length) : ((l.drop k).map sg).sum = hgt l l.length - hgt l k := by
  have := hgt_drop l k (l.length - k)
  rw [show k + (l.length - k) = l.length by omega, List.take_of_length_le (by rw [List.length_drop]; omega)] at this
  exact this
/-- a turning stays up just where it begins behind the first lowest place -/
theorem turned_iff {l : List Bool} (hs : (l.map sg).sum = -1) {k : Nat} (h0 : 0 < k) (hk : k ≤ l.length) : stayB 0 (turned l k) = true ↔ Lowest l k := by
  have hlen : (turned l k).length = l.length := by
    unfold turned
    rw [List.length_append, List.length_drop, List.length_take]
    omega
  have hsum : ((turned l k).map sg).sum = -1 := by
    unfold turned
    rw [List.map_append, List.sum_append, hgt_drop_all l hk, hgt_len, hs]
    show -1 - hgt l k + hgt l k = -1
    omega
  have hat : ∀ j, j ≤ l.length → (((turned l k).take j).map sg).sum = if j ≤ l.length - k then hgt l (k + j) - hgt l k else -1 - hgt l k + hgt l (j - (l.length - k)) := by
    intro j hj
    unfold turned
    rw [List.take_append, List.map_append, List.sum_append, List.length_drop]
    by_cases hc : j ≤ l.length - k
    · rw [if_pos hc, hgt_drop, show j - (l.length - k) = 0 by omega, List.take_zero]
      show _ + 0 = _
      omega
    · rw [if_neg hc, List.take_of_length_le (by rw [List.length_drop]; omega), hgt_drop_all l hk, hgt_len, hs, List.take_take, show min (j - (l.length - k)) k = j - (l.length - k) by omega]
      rfl
  rw [stayB_iff]
  constructor
  · rintro ⟨_, _, h3⟩
    refine ⟨fun i hi => ?_, fun i h1 h2 => ?_⟩
    · by_cases hi0 : i = 0 ∧ k = l.length
      · rw [hi0.1, hi0.2, hgt_len, hs]
        show -1 < (0 : Int)
        decide
      · have := h3 (l.length - k + i) (by omega) (by rw [hlen]; omega)
        rw [hat _ (by omega)] at this
        by_cases hi1 : i = 0
        · subst hi1
          rw [if_pos (by omega), show k + (l.length - k + 0) = l.length by omega, hgt_len, hs] at this
          show hgt l k < 0
          omega
        · rw [if_neg (by omega), show l.length - k + i - (l.length - k) = i by omega] at this
          omega
    · by_cases hki : i = k
      · rw [hki]
        exact Int.le_refl _
      · have := h3 (i - k) (by omega) (by rw [hlen]; omega)
        rw [hat _ (by omega), if_pos (by omega), show k + (i - k) = i by omega] at this
        omega
  · rintro ⟨h1, h2⟩
    refine ⟨fun z => ?_, by rw [hsum]; decide, fun i hi0 hi1 => ?_⟩
    · rw [z] at hlen
      have : l.length = 0 := hlen.symm
      omega
    · rw [hlen] at hi1
      rw [hat _ (by omega)]
      by_cases hc : i ≤ l.length - k
      · rw [if_pos hc]
        have := h2 (k + i) (by omega) (by omega)
        omega
      · rw [if_neg hc]
        have := h1 (i - (l.length - k)) (by omega)
        omega
theorem lowest_one {l : List Bool} {k k' : Nat} (hk : k ≤ l.length) (hk' : k' ≤ l.length) (h : Lowest l k) (h' : Lowest l k') : k = k' := by
  rcases Nat.lt_trichotomy k k' with z | z | z
  · have h1 := h'.1 k z
    have h2 := h.2 k' (by omega) hk'
    omega
  · exact z
  · have h1 := h.1 k' z
    have h2 := h'.2 k (by omega) hk
    omega
theorem turned_zero (l : List Bool) : turned l 0 = l := by
  unfold turned
  rw [List.drop_zero, List.take_zero, List.append_nil]
theorem turned_len (l : List Bool) : turned l l.length = l := by
  unfold turned
  rw [List.drop_length, List.take_length, List.nil_append]
/-- the first place of the lowest height there is -/
theorem lowest_is {l : List Bool} (hs : (l.map sg).sum = -1) : ∃ k, 0 < k ∧ k ≤ l.length ∧ Lowest l k := by
  have step : ∀ m, m ≤ l.length → ∃ k, k ≤ m ∧ (∀ i, i < k → hgt l k < hgt l i) ∧ ∀ i, k ≤ i → i ≤ m → hgt l k ≤ hgt l i := by
    intro m
    induction m with
    | zero =>
      intro _
      refine ⟨0, Nat.le_refl _, fun i hi => absurd hi (by omega), fun i h1 h2 => ?_⟩
      rw [show i = 0 by omega]
      exact Int.le_refl _
    | succ m ih =>
      intro hm
      obtain ⟨k, hk, h1, h2⟩ := ih (by omega)
      by_cases hc : hgt l (m + 1) < hgt l k
      · refine ⟨m + 1, Nat.le_refl _, fun i hi => ?_, fun i h3 h4 => ?_⟩
        · by_cases hik : i < k
          · have := h1 i hik
            omega
          · have := h2 i (by omega) (by omega)
            omega
        · rw [show i = m + 1 by omega]
          exact Int.le_refl _
      · refine ⟨k, by omega, h1, fun i h3 h4 => ?_⟩
        by_cases hi : i = m + 1
        · rw [hi]
          omega
        · exact h2 i h3 (by omega)
  obtain ⟨k, hk, h1, h2⟩ := step l.length (Nat.le_refl _)
  refine ⟨k, ?_, hk, h1, h2⟩
  by_cases h0 : k = 0
  · have := h2 l.length (by omega) (Nat.le_refl _)
    rw [h0, hgt_len, hs] at this
    have : (0 : Int) ≤ -1 := this
    omega
  · omega
/-- of the turnings by k below the length just one stays up -/
theorem turned_one {l : List Bool} (hs : (l.map sg).sum = -1) : ∃ k, k < l.length ∧ ∀ j, j < l.length → (stayB 0 (turned l j) = true ↔ j = k) := by
  obtain ⟨k, h0, hk, hL⟩ := lowest_is hs
  have key : ∀ j, 0 < j → j ≤ l.length → (stayB 0 (turned l j) = true ↔ j = k) := fun j j0 jl => by
    rw [turned_iff hs j0 jl]
    exact ⟨fun z => lowest_one jl hk z hL, fun z => z ▸ hL⟩
  have hlast : stayB 0 (turned l 0) = stayB 0 (turned l l.length) := by rw [turned_zero, turned_len]
  by_cases hkl : k = l.length
  · refine ⟨0, by omega, fun j jl => ?_⟩
    by_cases j0 : j = 0
    · subst j0
      rw [hlast, key l.length (by omega) (Nat.le_refl _)]
      exact ⟨fun _ => rfl, fun _ => hkl.symm⟩
    · rw [key j (by omega) (by omega)]
      omega
  · refine ⟨k, by omega, fun j jl => ?_⟩
    by_cases j0 : j = 0
    · subst j0
      rw [hlast, key l.length (by omega) (Nat.le_refl _)]
      omega
    · exact key j (by omega) (by omega)
end Hr
/-! ### the hills of a row, by the places of height 0 -/
namespace Hr
def hillsOf : Gv → List (List Bool)
  | .no => []
  | .tree a b => (true :: (a.row ++ [false])) :: hillsOf b
theorem hills_flat : ∀ g : Gv, (hillsOf g).flatten = g.row
  | .no => rfl
  | .tree a b => by
    show (true :: (a.row ++ [false])) ++ (hillsOf b).flatten = true :: (a.row ++ false :: b.row)
    rw [hills_flat b, List.cons_append, List.append_assoc]
    rfl
theorem hills_ok : ∀ (g : Gv) (x : List Bool), x ∈ hillsOf g → okb none 0 x = true
  | .no, x, h => by cases h
  | .tree a b, x, h => by
    rcases List.mem_cons.mp h with rfl | h
    · exact hill_put a.row_hill (b := []) rfl
    · exact hills_ok b x h
theorem hills_ne : ∀ (g : Gv), g.row ≠ [] → hillsOf g ≠ []
  | .no, h => absurd rfl h
  | .tree _ _, _ => List.cons_ne_nil _ _
theorem hills_len : ∀ (g : Gv), 2 * (hillsOf g).length ≤ g.row.length
  | .no => Nat.le_refl _
  | .tree a b => by
    have := hills_len b
    show 2 * ((hillsOf b).length + 1) ≤ (true :: (a.row ++ false :: b.row)).length
    rw [List.length_cons, List.length_append, List.length_cons]
    omega
theorem hts_get : ∀ (l : List Bool) (h : Int) (i : Nat), i ≤ l.length → (hts h l)[i]? = some (h + hgt l i)
  | [], h, i, hi => by
    have : i = 0 := by
      have : i ≤ 0 := hi
      omega
    subst this
    show some h = some (h + 0)
    rw [Int.add_zero]
  | b :: l, h, 0, _ => by
    show some h = some (h + 0)
    rw [Int.add_zero]
  | b :: l, h, i + 1, hi => by
    rw [List.length_cons] at hi
    have := hts_get l (h + sg b) i (by omega)
    show (hts (h + sg b) l)[i]? = _
    rw [this]
    unfold hgt
    rw [List.take_succ_cons, List.map_cons, List.sum_cons, ← Int.add_assoc]
/-- the places of height 0 up to n -/
def zerosTo (l : List Bool) (n : Nat) : List Nat := (List.range (n + 1)).filter fun i => decide (hgt l i = 0)
def zeros (l : List Bool) : List Nat := zerosTo l l.length
theorem zerosTo_zero (l : List Bool) : zerosTo l 0 = [0] := by
  unfold zerosTo
  show [0].filter _ = _
  rw [List.filter_cons_of_pos (by simp [hgt])]
  rfl
theorem zerosTo_succ (l : List Bool) (n : Nat) : zerosTo l (n + 1) = zerosTo l n ++ (if hgt l (n + 1) = 0 then [n + 1] else []) := by
  unfold zerosTo
  rw [List.range_succ (n := n + 1), List.filter_append]
  congr 1
  by_cases h : hgt l (n + 1) = 0
  · rw [if_pos h, List.filter_cons_of_pos (by simpa using h)]
    rfl
  · rw [if_neg h, List.filter_cons_of_neg (by simpa using h)]
    rfl
theorem zerosTo_le {l : List Bool} {n i : Nat} (h : i ∈ zerosTo l n) : i ≤ n := by
  unfold zerosTo at h
  have := List.mem_range.mp (List.mem_filter.mp h).1
  omega
def segs (l : List Bool) : List Nat → List (List Bool)
  | a :: b :: r => (l.drop a).take (b - a) :: segs l (b :: r)
  | [_] => []
  | [] => []
theorem segs_snoc (l : List Bool) (b e : Nat) : ∀ pre : List Nat, segs l (pre ++ [b, e]) = segs l (pre ++ [b]) ++ [(l.drop b).take (e - b)]
  | [] => rfl
  | [x] => rfl
  | x :: y :: pre => by
    have ih := segs_snoc l b e (y :: pre)
    show (l.drop x).take (y - x) :: segs l ((y :: pre) ++ [b, e]) = (l.drop x).take (y - x) :: segs l ((y :: pre) ++ [b]) ++ _
    rw [ih]
    rfl
theorem segs_len (l : List Bool) : ∀ zs : List Nat, (segs l zs).length = zs.length - 1
  | [] => rfl
  | [_] => rfl
  | x :: y :: r => by
    have ih := segs_len l (y :: r)
    show (segs l (y :: r)).length + 1 = _
    rw [ih]
    rfl
theorem segs_get (l : List Bool) : ∀ (zs : List Nat) (i a b : Nat), zs[i]? = some a → zs[i + 1]? = some b → (segs l zs)[i]? = some ((l.drop a).take (b - a))
  | [], i, a, b, h, _ => by cases h
  | [_], i, a, b, _, h => by cases h
  | x :: y :: r, 0, a, b, h1, h2 => by
    cases h1
    cases h2
    rfl
  | x :: y :: r, i + 1, a, b, h1, h2 => segs_get l (y :: r) i a b h1 h2
theorem segs_shift (p l : List Bool) : ∀ zs : List Nat, segs (p ++ l) (zs.map (p.length + ·)) = segs l zs
  | [] => rfl
  | [_] => rfl
  | x :: y :: r => by
    have ih := segs_shift p l (y :: r)
    show ((p ++ l).drop (p.length + x)).take (p.length + y - (p.length + x)) :: segs (p ++ l) ((y :: r).map (p.length + ·)) = _
    rw [ih, List.drop_length_add_append, Nat.add_sub_add_left]
    rfl
theorem hgt_app (p l : List Bool) (j : Nat) : hgt (p ++ l) (p.length + j) = hgt p p.length + hgt l j := by
  unfold hgt
  rw [List.take_length_add_append, List.map_append, List.sum_append, List.take_length]
theorem hgt_nonneg {l : List Bool} (h : okb none 0 l = true) {i : Nat} : 0 ≤ hgt l i := by
  have key : ∀ (l : List Bool) (k : Nat) (i : Nat), okb none k l = true → 0 ≤ (k : Int) + ((l.take i).map sg).sum := by
    intro l
    induction l with
    | nil =>
      intro k i e
      rw [List.take_nil]
      show 0 ≤ (k : Int) + 0
      omega
    | cons b l ih =>
      intro k i e
      cases i with
      | zero =>
        show 0 ≤ (k : Int) + 0
        omega
      | succ i =>
        rw [List.take_succ_cons, List.map_cons, List.sum_cons]
        cases b with
        | true =>
          have := ih (k + 1) i (okb_up e).2
          have e1 : sg true = 1 := rfl
          omega
        | false =>
          obtain ⟨k0, e⟩ := okb_down e
          have := ih (k - 1) i e
          have e1 : sg false = -1 := rfl
          omega
  have := key l 0 i h
  unfold hgt
  omega
theorem okb_sum {l : List Bool} (h : okb none 0 l = true) : (l.map sg).sum = 0 := by
  have := ((okb_iff none l 0 (fun k z => by cases z)).mp h).1
  omega
theorem hgt_all {l : List Bool} (h : okb none 0 l = true) : hgt l l.length = 0 := (hgt_len l).trans (okb_sum h)
theorem zeros_tree (a b : Gv) : zeros (Gv.tree a b).row = 0 :: (zeros b.row).map ((true :: (a.row ++ [false])).length + ·) := by
  have e0 : (Gv.tree a b).row = (true :: (a.row ++ [false])) ++ b.row := by
    show true :: (a.row ++ false :: b.row) = _
    rw [List.cons_append, List.append_assoc]
    rfl
  have hm : hgt (true :: (a.row ++ [false])) (true :: (a.row ++ [false])).length = 0 := hgt_all (hill_put a.row_hill (b := []) rfl)
  unfold zeros zerosTo
  have el : (Gv.tree a b).row.length + 1 = (true :: (a.row ++ [false])).length + (b.row.length + 1) := by
    rw [e0, List.length_append]
    omega
  rw [el, List.range_add, List.filter_append, List.filter_map]
  have p1 : (List.range (true :: (a.row ++ [false])).length).filter (fun i => decide (hgt (Gv.tree a b).row i = 0)) = [0] := by
    have em : (true :: (a.row ++ [false])).length = (a.row.length + 1) + 1 := by simp
    rw [em, List.range_succ_eq_map, List.filter_cons_of_pos (by simp [hgt]), List.filter_map]
    have : (List.range (a.row.length + 1)).filter ((fun i => decide (hgt (Gv.tree a b).row i = 0)) ∘ Nat.succ) = [] := by
      rw [List.filter_eq_nil_iff]
      intro i hi
      have hi := List.mem_range.mp hi
      have e2 : hgt (Gv.tree a b).row (i + 1) = 1 + hgt a.row i := by
        show (((true :: (a.row ++ false :: b.row)).take (i + 1)).map sg).sum = _
        rw [List.take_succ_cons, List.map_cons, List.sum_cons, List.take_append_of_le_length (by omega)]
        rfl
      have := hgt_nonneg a.row_hill (i := i)
      show ¬ (decide (hgt (Gv.tree a b).row (i + 1) = 0)) = true
      rw [e2]
      simp
      omega
    rw [this]
    rfl
  have p2 : (List.range (b.row.length + 1)).filter ((fun i => decide (hgt (Gv.tree a b).row i = 0)) ∘ ((true :: (a.row ++ [false])).length + ·)) = (List.range (b.row.length + 1)).filter (fun i => decide (hgt b.row i = 0)) := by
    refine List.filter_congr fun i _ => ?_
    show decide (hgt (Gv.tree a b).row ((true :: (a.row ++ [false])).length + i) = 0) = _
    rw [e0, hgt_app, hm, Int.zero_add]
  rw [p1, p2]
  rfl
theorem zeros_head : ∀ g : Gv, ∃ r, zeros g.row = 0 :: r
  | .no => ⟨[], rfl⟩
  | .tree a b => ⟨_, zeros_tree a b⟩
theorem segs_zeros : ∀ g : Gv, segs g.row (zeros g.row) = hillsOf g
  | .no => rfl
  | .tree a b => by
    obtain ⟨r, hr⟩ := zeros_head b
    have e0 : (Gv.tree a b).row = (true :: (a.row ++ [false])) ++ b.row := by
      show true :: (a.row ++ false :: b.row) = _
      rw [List.cons_append, List.append_assoc]
      rfl
    have ih := segs_zeros b
    rw [zeros_tree, hr, List.map_cons]
    show (((Gv.tree a b).row.drop 0).take ((true :: (a.row ++ [false])).length + 0 - 0)) :: segs (Gv.tree a b).row ((0 :: r).map ((true :: (a.row ++ [false])).length + ·)) = _
    rw [← hr, e0, segs_shift, ih, List.drop_zero, Nat.sub_zero, Nat.add_zero, List.take_left']
    · rfl
    · rfl
end Hr
/-! ### rows read from their end -/
namespace Hr
def mir (l : List Bool) : List Bool := l.reverse.map (! ·)
theorem mir_app (a b : List Bool) : mir (a ++ b) = mir b ++ mir a := by
  unfold mir
  rw [List.reverse_append, List.map_append]
theorem mir_mir (l : List Bool) : mir (mir l) = l := by
  unfold mir
  rw [← List.map_reverse, List.reverse_reverse, List.map_map]
  refine (List.map_congr_left fun b _ => ?_).trans (List.map_id l)
  cases b <;> rfl
theorem mir_len (l : List Bool) : (mir l).length = l.length := by
  unfold mir
  rw [List.length_map, List.length_reverse]
theorem mir_sum : ∀ l : List Bool, ((mir l).map sg).sum = -((l.map sg).sum)
  | [] => rfl
  | b :: l => by
    have ih := mir_sum l
    have e : mir (b :: l) = mir l ++ [!b] := mir_app [b] l
    rw [e, List.map_append, List.sum_append, ih, List.map_cons, List.sum_cons]
    cases b
    · show -(l.map sg).sum + (1 + 0) = -(-1 + (l.map sg).sum)
      omega
    · show -(l.map sg).sum + (-1 + 0) = -(1 + (l.map sg).sum)
      omega
theorem mir_take (l : List Bool) (i : Nat) : (mir l).take i = mir (l.drop (l.length - i)) := by
  unfold mir
  rw [← List.map_take, List.take_reverse]
theorem hgt_mir {l : List Bool} (h : (l.map sg).sum = 0) {i : Nat} (hi : i ≤ l.length) : hgt (mir l) i = hgt l (l.length - i) := by
  show (((mir l).take i).map sg).sum = _
  rw [mir_take, mir_sum, hgt_drop_all l (by omega), hgt_len, h]
  omega
theorem hts_mem0 {l : List Bool} {x : Int} (h : x ∈ hts 0 l) : ∃ i, i ≤ l.length ∧ x = hgt l i := by
  obtain ⟨i, hi, e⟩ := List.getElem_of_mem h
  rw [hts_len] at hi
  refine ⟨i, by omega, ?_⟩
  have := hts_get l 0 i (by omega)
  rw [List.getElem?_eq_getElem (by rw [hts_len]; exact hi), e, Int.zero_add] at this
  exact Option.some.inj this
theorem okb_of {l : List Bool} (h0 : (l.map sg).sum = 0) (h1 : ∀ i, i ≤ l.length → 0 ≤ hgt l i) : okb none 0 l = true := by
  refine (okb_iff none l 0 (fun k z => by cases z)).mpr ⟨?_, fun x hx => ?_, fun k z => by cases z⟩
  · show ((0 : Nat) : Int) + _ = 0
    omega
  · obtain ⟨i, hi, rfl⟩ := hts_mem0 hx
    exact h1 i hi
theorem mir_hill {l : List Bool} (h : okb none 0 l = true) : okb none 0 (mir l) = true := by
  have h0 := okb_sum h
  refine okb_of (by rw [mir_sum, h0]; rfl) fun i hi => ?_
  rw [mir_len] at hi
  rw [hgt_mir h0 hi]
  exact hgt_nonneg h
theorem hts_mir {l : List Bool} (h : okb none 0 l = true) : hts 0 (mir l) = (hts 0 l).reverse := by
  have h0 := okb_sum h
  apply List.ext_getElem?
  intro i
  by_cases hi : i ≤ l.length
  · rw [hts_get (mir l) 0 i (by rw [mir_len]; exact hi), hgt_mir h0 hi, List.getElem?_reverse (by rw [hts_len]; omega), hts_len, show l.length + 1 - 1 - i = l.length - i by omega, hts_get l 0 _ (by omega)]
  · rw [List.getElem?_eq_none (by rw [hts_len, mir_len]; omega), List.getElem?_eq_none (by rw [List.length_reverse, hts_len]; omega)]
/-- k ups, the row, k downs -/
def lift (k : Nat) (l : List Bool) : List Bool := List.replicate k true ++ l ++ List.replicate k false
theorem rep_sum (b : Bool) : ∀ k : Nat, ((List.replicate k b).map sg).sum = (k : Int) * sg b
  | 0 => by simp
  | k + 1 => by
    have ih := rep_sum b k
    rw [List.replicate_succ, List.map_cons, List.sum_cons, ih]
    cases b
    · show -1 + (k : Int) * -1 = ((k + 1 : Nat) : Int) * -1
      omega
    · show 1 + (k : Int) * 1 = ((k + 1 : Nat) : Int) * 1
      omega
theorem hgt_lift (k : Nat) (l : List Bool) {i : Nat} (hi : i ≤ l.length) : hgt (lift k l) (k + i) = hgt l i + k := by
  unfold lift
  rw [List.append_assoc]
  have h := hgt_app (List.replicate k true) (l ++ List.replicate k false) i
  rw [List.length_replicate] at h
  have h2 : hgt (List.replicate k true) k = (k : Int) := by
    have := hgt_len (List.replicate k true)
    rw [List.length_replicate, rep_sum] at this
    rw [this]
    show (k : Int) * 1 = k
    omega
  have h3 : hgt (l ++ List.replicate k false) i = hgt l i := by
    unfold hgt
    rw [List.take_append_of_le_length hi]
  rw [h, h2, h3]
  omega
theorem lift_len (k : Nat) (l : List Bool) : (lift k l).length = 2 * k + l.length := by
  unfold lift
  rw [List.length_append, List.length_append, List.length_replicate, List.length_replicate]
  omega
theorem hts_lift (k : Nat) (l : List Bool) : ((hts 0 (lift k l)).drop k).take (l.length + 1) = (hts 0 l).map (· + (k : Int)) := by
  apply List.ext_getElem?
  intro i
  by_cases hi : i ≤ l.length
  · rw [List.getElem?_take_of_lt (by omega), List.getElem?_drop, hts_get _ 0 _ (by rw [lift_len]; omega), hgt_lift k l hi, List.getElem?_map, hts_get l 0 i hi]
    show some ((0 : Int) + (hgt l i + k)) = some (0 + hgt l i + k)
    rw [Int.add_assoc]
  · rw [List.getElem?_eq_none (by rw [List.length_take, List.length_drop, hts_len]; omega), List.getElem?_eq_none (by rw [List.length_map, hts_len]; omega)]
theorem flat_hill : ∀ ls : List (List Bool), (∀ l ∈ ls, okb none 0 l = true) → okb none 0 ls.flatten = true
  | [], _ => rfl
  | l :: ls, h => by
    rw [List.flatten_cons]
    exact hill_app (h l (List.mem_cons_self ..)) (flat_hill ls fun x hx => h x (List.mem_cons_of_mem _ hx))
theorem flat_len (m : Nat) : ∀ ls : List (List Bool), (∀ l ∈ ls, l.length ≤ m) → ls.flatten.length ≤ m * ls.length
  | [], _ => Nat.zero_le _
  | l :: ls, h => by
    have h1 := h l (List.mem_cons_self ..)
    have h2 := flat_len m ls fun x hx => h x (List.mem_cons_of_mem _ hx)
    rw [List.flatten_cons, List.length_append, List.length_cons, Nat.mul_add]
    omega
end Hr
/-! ### pairs of places -/
namespace Hr
theorem hgt_zero (l : List Bool) : hgt l 0 = 0 := rfl
theorem hgt_succ {l : List Bool} {i : Nat} {b : Bool} (h : l[i]? = some b) : hgt l (i + 1) = hgt l i + sg b := by
  unfold hgt
  rw [List.take_add_one, h, List.map_append, List.sum_append]
  show _ + (sg b + 0) = _
  omega
theorem hgt_step {l : List Bool} {i : Nat} (h : i < l.length) : hgt l (i + 1) = hgt l i + 1 ∧ l[i]? = some true ∨ hgt l (i + 1) = hgt l i - 1 ∧ l[i]? = some false := by
  have e : l[i]? = some l[i] := List.getElem?_eq_getElem h
  have e2 := hgt_succ e
  cases hb : l[i] with
  | true =>
    rw [hb] at e e2
    exact .inl ⟨e2, e⟩
  | false =>
    rw [hb] at e e2
    exact .inr ⟨e2, e⟩
/-- the up at j and the down at i that ends its tree -/
def Pair (l : List Bool) (j i : Nat) : Prop := j < i ∧ i < l.length ∧ hgt l j = hgt l (i + 1) ∧ ∀ m, j < m → m ≤ i → hgt l j < hgt l m
def Mate (l : List Bool) (x y : Nat) : Prop := Pair l x y ∨ Pair l y x
theorem Mate.symm {l : List Bool} {x y : Nat} (h : Mate l x y) : Mate l y x := h.elim .inr .inl
theorem Pair.up {l : List Bool} {j i : Nat} (h : Pair l j i) : l[j]? = some true := by
  obtain ⟨h1, h2, h3, h4⟩ := h
  rcases hgt_step (l := l) (i := j) (by omega) with ⟨_, e⟩ | ⟨e, _⟩
  · exact e
  · have := h4 (j + 1) (by omega) (by omega)
    omega
theorem Pair.down {l : List Bool} {j i : Nat} (h : Pair l j i) : l[i]? = some false := by
  obtain ⟨h1, h2, h3, h4⟩ := h
  rcases hgt_step (l := l) (i := i) h2 with ⟨e, _⟩ | ⟨_, e⟩
  · have := h4 i h1 (Nat.le_refl _)
    omega
  · exact e
theorem Mate.uniq {l : List Bool} {x y y' : Nat} (h : Mate l x y) (h' : Mate l x y') : y = y' := by
  rcases h with h | h <;> rcases h' with h' | h'
  · rcases Nat.lt_trichotomy y y' with z | z | z
    · have := h'.2.2.2 (y + 1) (by have := h.1; omega) (by omega)
      have := h.2.2.1
      omega
    · exact z
    · have := h.2.2.2 (y' + 1) (by have := h'.1; omega) (by omega)
      have := h'.2.2.1
      omega
  · have := h.up.symm.trans h'.down
    cases this
  · have := h.down.symm.trans h'.up
    cases this
  · have e1 := h.2.2.1
    have e2 := h'.2.2.1
    rcases Nat.lt_trichotomy y y' with z | z | z
    · have := h.2.2.2 y' z (by have := h'.1; omega)
      omega
    · exact z
    · have := h'.2.2.2 y z (by have := h.1; omega)
      omega
theorem Mate.lt {l : List Bool} {x y : Nat} (h : Mate l x y) : x < l.length ∧ y < l.length ∧ y ≠ x := by
  rcases h with ⟨a, b, _⟩ | ⟨a, b, _⟩
  · exact ⟨by omega, b, by omega⟩
  · exact ⟨b, by omega, by omega⟩
theorem Mate.sign {l : List Bool} {x y : Nat} (h : Mate l x y) : l[x]? = some (decide (x < y)) := by
  rcases h with h | h
  · rw [h.up, decide_eq_true h.1]
  · rw [h.down, decide_eq_false (by have := h.1; omega)]
/-- the first place from a on that has a property -/
theorem first_from {p : Nat → Prop} : ∀ (n a : Nat), p (a + n) → ∃ m, a ≤ m ∧ m ≤ a + n ∧ p m ∧ ∀ k, a ≤ k → k < m → ¬ p k
  | 0, a, h => ⟨a, Nat.le_refl _, Nat.le_refl _, h, fun k h1 h2 => by omega⟩
  | n + 1, a, h => by
    rcases Classical.em (p a) with z | z
    · exact ⟨a, Nat.le_refl _, by omega, z, fun k h1 h2 => by omega⟩
    · obtain ⟨m, h1, h2, h3, h4⟩ := first_from (p := p) n (a + 1) (by rw [show a + 1 + n = a + (n + 1) by omega]; exact h)
      refine ⟨m, by omega, by omega, h3, fun k k1 k2 => ?_⟩
      by_cases e : k = a
      · rw [e]
        exact z
      · exact h4 k (by omega) k2
/-- the last one up to a -/
theorem last_to {p : Nat → Prop} : ∀ (a : Nat), p 0 → ∃ m, m ≤ a ∧ p m ∧ ∀ k, m < k → k ≤ a → ¬ p k
  | 0, h => ⟨0, Nat.le_refl _, h, fun k h1 h2 => by omega⟩
  | a + 1, h => by
    rcases Classical.em (p (a + 1)) with z | z
    · exact ⟨a + 1, Nat.le_refl _, z, fun k h1 h2 => by omega⟩
    · obtain ⟨m, h1, h2, h3⟩ := last_to (p := p) a h
      refine ⟨m, by omega, h2, fun k k1 k2 => ?_⟩
      by_cases e : k = a + 1
      · rw [e]
        exact z
      · exact h3 k k1 (by omega)
theorem mate_ex {l : List Bool} (ok : okb none 0 l = true) {x : Nat} (hx : x < l.length) : ∃ y, Mate l x y := by
  rcases hgt_step hx with ⟨e, _⟩ | ⟨e, _⟩
  · obtain ⟨m, h1, h2, h3, h4⟩ := first_from (p := fun m => hgt l m ≤ hgt l x) (l.length - (x + 1)) (x + 1) (by
      rw [show x + 1 + (l.length - (x + 1)) = l.length by omega, hgt_all ok]
      exact hgt_nonneg ok)
    have hm : x + 1 < m := by
      rcases Nat.lt_or_eq_of_le h1 with z | z
      · exact z
      · rw [← z, e] at h3
        omega
    refine ⟨m - 1, .inl ⟨by omega, by omega, ?_, fun k k1 k2 => ?_⟩⟩
    · rw [show m - 1 + 1 = m by omega]
      have hp := h4 (m - 1) (by omega) (by omega)
      rcases hgt_step (l := l) (i := m - 1) (by omega) with ⟨e2, _⟩ | ⟨e2, _⟩ <;> rw [show m - 1 + 1 = m by omega] at e2 <;> omega
    · have := h4 k (by omega) (by omega)
      omega
  · obtain ⟨m, h1, h2, h3⟩ := last_to (p := fun m => hgt l m ≤ hgt l (x + 1)) x (by
      rw [hgt_zero]
      exact hgt_nonneg ok)
    have hm : m < x := by
      rcases Nat.lt_or_eq_of_le h1 with z | z
      · exact z
      · rw [z] at h2
        omega
    refine ⟨m, .inr ⟨hm, hx, ?_, fun k k1 k2 => ?_⟩⟩
    · have hp := h3 (m + 1) (by omega) (by omega)
      rcases hgt_step (l := l) (i := m) (by omega) with ⟨e2, _⟩ | ⟨e2, _⟩ <;> omega
    · have := h3 k k1 k2
      have hp := h3 (m + 1) (by omega) (by omega)
      rcases hgt_step (l := l) (i := m) (by omega) with ⟨e2, _⟩ | ⟨e2, _⟩ <;> omega
/-- the list of the pairs of a hill row -/
def PairsOf (l : List Bool) (ps : List Int) : Prop := okb none 0 l = true ∧ ps.length = l.length ∧ ∀ x, x < l.length → ∃ y, ps[x]? = some ((y : Nat) : Int) ∧ Mate l x y
theorem PairsOf.same {l : List Bool} {ps qs : List Int} (h : PairsOf l ps) (h' : PairsOf l qs) : ps = qs := by
  apply List.ext_getElem?
  intro i
  by_cases hi : i < l.length
  · obtain ⟨y, e1, m1⟩ := h.2.2 i hi
    obtain ⟨y', e2, m2⟩ := h'.2.2 i hi
    rw [e1, e2, m1.uniq m2]
  · rw [List.getElem?_eq_none (by rw [h.2.1]; omega), List.getElem?_eq_none (by rw [h'.2.1]; omega)]
/-- the signs that such a list tells -/
def signsAt : Nat → List Int → List Bool
  | _, [] => []
  | i, p :: ps => decide ((i : Int) < p) :: signsAt (i + 1) ps
theorem signsAt_len : ∀ (ps : List Int) (i : Nat), (signsAt i ps).length = ps.length
  | [], _ => rfl
  | p :: ps, i => by
    show (signsAt (i + 1) ps).length + 1 = _
    rw [signsAt_len ps]
    rfl
theorem signsAt_get : ∀ (ps : List Int) (i j : Nat) (p : Int), ps[j]? = some p → (signsAt i ps)[j]? = some (decide (((i + j : Nat) : Int) < p))
  | [], i, j, p, h => by cases h
  | q :: ps, i, 0, p, h => by
    cases h
    rfl
  | q :: ps, i, j + 1, p, h => by
    have := signsAt_get ps (i + 1) j p h
    show (signsAt (i + 1) ps)[j]? = _
    rw [this, show i + 1 + j = i + (j + 1) by omega]
theorem PairsOf.signs {l : List Bool} {ps : List Int} (h : PairsOf l ps) : signsAt 0 ps = l := by
  apply List.ext_getElem?
  intro i
  by_cases hi : i < l.length
  · obtain ⟨y, e1, m1⟩ := h.2.2 i hi
    rw [signsAt_get ps 0 i _ e1, m1.sign]
    congr 1
    refine decide_eq_decide.mpr ?_
    omega
  · rw [List.getElem?_eq_none (by rw [signsAt_len, h.2.1]; omega), List.getElem?_eq_none (by omega)]
/-- the k-th place that is open after i signs -/
def Open (l : List Bool) (i k j : Nat) : Prop := j < i ∧ hgt l j = (k : Int) ∧ ∀ m, j < m → m ≤ i → (k : Int) < hgt l m
end Hr
namespace Hr
/-- a hill row of n ups under the ceiling c -/
def Hill (c : Option Nat) (n : Nat) (l : List Bool) : Prop := okb c 0 l = true ∧ l.length = 2 * n
end Hr
/-! ### defs of the text, by what they promise -/
namespace Hr
open PySem PySem.Spec PyProof.Rows L2
theorem same_upd {H : Hp} {p : Addr} {o : HO} (h : H p = none) : Same H (upd H p o) := fun b x e => by
  rw [upd_ne (ne_of_none e h)]
  exact e
/-- what was new may change -/
theorem same_updN {H0 H : Hp} {p : Addr} {o : HO} (s : Same H0 H) (n : H0 p = none) : Same H0 (upd H p o) := fun b x e => by
  rw [upd_ne (ne_of_none e n)]
  exact s b x e
theorem sz {n : Nat} (h : n ≤ 1000000) : n ≤ sizeLine := Nat.le_trans h (by decide)
theorem szl {n : Nat} (h : n < 1000000) : n < sizeLine := Nat.lt_of_lt_of_le h (by decide)
section
variable (K : PySem.W.Frag) (mg : Str → Option Value)
structure Def (x : Str) (st : Stmt) (ps : List Str) : Prop where
  ex : ∃ (f : Addr) (fd : FuncData), Fun K x x st f fd ∧ mg x = some (.ref f) ∧ Binds K fd ps []
/-- a def whose last parameter is None where it is left out -/
structure DefD (x : Str) (st : Stmt) (ps : List Str) : Prop where
  ex : ∃ (f : Addr) (fd : FuncData), FunD K x x (defArgs st) (defBody st) (defScope st) [V.non] [] f fd ∧ mg x = some (.ref f) ∧ Binds K fd ps [] ∧ ∃ ds, Vals [V.non] ds ∧ Binds K fd ps ds
/-- a def whose last parameter is dv where it is left out -/
structure DefV (x : Str) (st : Stmt) (ps : List Str) (dv : V) : Prop where
  ex : ∃ (f : Addr) (fd : FuncData), FunD K x x (defArgs st) (defBody st) (defScope st) [dv] [] f fd ∧ mg x = some (.ref f) ∧ Binds K fd ps [] ∧ ∃ ds, Vals [dv] ds ∧ Binds K fd ps ds
structure Cal (CX : CXT) (P : Program) (w : World) (base : Heap) (k : Nat) (x : Str) (dvs : List V) (sp : Sp) : Prop where
  ex : ∃ (f : Addr) (fd : FuncData) (ps : List Str) (ds : List Value), FnOk P w K mg base CX k f fd ps sp ∧ mg x = some (.ref f) ∧ PySem.W.keepIn K (.ref f) = true ∧ Binds K fd ps ds ∧ Vals dvs ds
end
section
variable {P : Program} {w : World} {K : PySem.W.Frag} {mg : Str → Option Value} {base : Heap}
theorem Def.cal {x : Str} {st : Stmt} {N ps : List Str} {k : Nat} {sp : Sp} (D : Def K mg x st ps) (S : FnScope N ps (defScope st)) (len : ∀ vs H Q E, sp vs H Q E → vs.length = ps.length)
    (hbody : ∀ (f : Addr) (cdv : Value) (A : Around) (outer : List Env) (s : Shared) (H : Hp) (vs : List V) (Q : VK) (E : XK), Room k (A.deeper (envOfC x (defScope st) s.heap.objs.size f cdv)) → sp vs H Q E →
      ∃ t, PSs (cxOf CX0 P w K mg base N x (defScope st) f cdv A outer s H E).nox (defBody st) t ∧ t { nx := fun _ H' => Q .non H', rt := Q } (start N vs) H) : Cal K mg CX0 P w base (k + 1) x [] sp := by
  obtain ⟨f, fd, F, hm, b⟩ := D.ex
  exact ⟨f, fd, ps, [], F.ok S len (hbody f), hm, F.kp, b, .nil⟩
theorem DefD.ok {x : Str} {st : Stmt} {N ps : List Str} {k : Nat} {sp : Sp} (D : DefD K mg x st ps) (S : FnScope N ps (defScope st)) (len : ∀ vs H Q E, sp vs H Q E → vs.length = ps.length)
    (hbody : ∀ (f : Addr) (cdv : Value) (A : Around) (outer : List Env) (s : Shared) (H : Hp) (vs : List V) (Q : VK) (E : XK), Room k (A.deeper (envOfC x (defScope st) s.heap.objs.size f cdv)) → sp vs H Q E →
      ∃ t, PSs (cxOf CX0 P w K mg base N x (defScope st) f cdv A outer s H E).nox (defBody st) t ∧ t { nx := fun _ H' => Q .non H', rt := Q } (start N vs) H) :
    Cal K mg CX0 P w base (k + 1) x [] sp ∧ Cal K mg CX0 P w base (k + 1) x [.non] sp := by
  obtain ⟨f, fd, F, hm, b, ds, vd, b2⟩ := D.ex
  have G : FnOk P w K mg base CX0 (k + 1) f fd ps sp := F.ok S len fun cdv A outer s H vs Q E hr hsp => by
    obtain ⟨t, h, q⟩ := hbody f cdv A outer s H vs Q E hr hsp
    exact ⟨t, h.nox, q⟩
  exact ⟨⟨f, fd, ps, [], G, hm, F.kp, b, .nil⟩, ⟨f, fd, ps, ds, G, hm, F.kp, b2, vd⟩⟩
theorem DefV.ok {x : Str} {st : Stmt} {N ps : List Str} {dv : V} {k : Nat} {sp : Sp} (D : DefV K mg x st ps dv) (S : FnScope N ps (defScope st)) (len : ∀ vs H Q E, sp vs H Q E → vs.length = ps.length)
    (hbody : ∀ (f : Addr) (cdv : Value) (A : Around) (outer : List Env) (s : Shared) (H : Hp) (vs : List V) (Q : VK) (E : XK), Room k (A.deeper (envOfC x (defScope st) s.heap.objs.size f cdv)) → sp vs H Q E →
      ∃ t, PSs (cxOf CX0 P w K mg base N x (defScope st) f cdv A outer s H E).nox (defBody st) t ∧ t { nx := fun _ H' => Q .non H', rt := Q } (start N vs) H) :
    Cal K mg CX0 P w base (k + 1) x [] sp ∧ Cal K mg CX0 P w base (k + 1) x [dv] sp := by
  obtain ⟨f, fd, F, hm, b, ds, vd, b2⟩ := D.ex
  have G : FnOk P w K mg base CX0 (k + 1) f fd ps sp := F.ok S len fun cdv A outer s H vs Q E hr hsp => by
    obtain ⟨t, h, q⟩ := hbody f cdv A outer s H vs Q E hr hsp
    exact ⟨t, h.nox, q⟩
  exact ⟨⟨f, fd, ps, [], G, hm, F.kp, b, .nil⟩, ⟨f, fd, ps, ds, G, hm, F.kp, b2, vd⟩⟩
/-- a weaker promise -/
theorem Cal.imp {CX : CXT} {x : Str} {dvs : List V} {k : Nat} {sp sp' : Sp} (C : Cal K mg CX P w base k x dvs sp) (h : ∀ vs H Q E, sp' vs H Q E → sp vs H Q E) : Cal K mg CX P w base k x dvs sp' := by
  obtain ⟨f, fd, ps, ds, G, hm, kp, b, d⟩ := C.ex
  exact ⟨f, fd, ps, ds, G.imp h, hm, kp, b, d⟩
end
section
variable {X : Cx}
theorem pe_c {k j : Nat} {x : Str} {dvs : List V} {sp : Sp} {e : Expr} {es : List Expr} {t : TA} {p pos : Pos} (c : Cal X.K X.mg CX0 X.prog X.w X.base k x dvs sp) (hr : Room j X.A) (ha : PA X (e :: es) t) (hk : k ≤ j := by decide) (hg : Gl X x := by rfl)
    (hdb : (x == ("__debug__" : Str)) = false := by decide) (he : starEach (e :: es) X.env = (false, eval e X.env) :: starEach es X.env := by rfl) (hpl : (backTo pos (starEach es X.env)).any (·.1) = false := by rfl) :
    PE X (.Call (.Name x p) (e :: es) [] pos) (tCall sp dvs E0 t) := by
  obtain ⟨f, fd, ps, ds, F, hm, kp, b, d⟩ := c.ex
  exact pe_call F (hr.mono hk) hg hm kp b d pass0 ha hdb he hpl
end
/-- from what the top has left -/
theorem def_mk {K : PySem.W.Frag} {mg : Str → Option Value} {h : Heap} {x : Str} {st : Stmt} {ps : List Str} {f : Addr} {oc : Value} {od an : Option Addr} {osl : Array (Option Value)} {kV doc pm cdv ct : Value} (X : K.In h) (G : h.Ns mainGlobals mg)
    (hb : ∀ (kV doc pm : Value) (an : Option Addr) (cdv ct : Value) (us : List Value), us.length = ps.length → bindArgs (PySem.W.fnOf x x (defArgs st) (defBody st) (defScope st) .none kV doc pm an cdv ct) ⟨us, []⟩ = pure (ps.zip us))
    (a : PySem.W.nsIn K mainGlobals x = some (some (.ref f))) (l : K.lookup f = some ⟨oc, od, .func (PySem.W.fnOf x x (defArgs st) (defBody st) (defScope st) .none kV doc pm an cdv ct), osl⟩)
    (c : PySem.W.codeIn K cdv x = true) (k : PySem.W.keepIn K (.ref f) = true) : Def K mg x st ps :=
  have F := fun_mk (st := st) l c k
  ⟨f, _, F, PySem.W.mg_of X G a, F.binds hb⟩
theorem defD_mk {K : PySem.W.Frag} {mg : Str → Option Value} {h : Heap} {x : Str} {st : Stmt} {ps : List Str} {f T : Addr} {oc tc : Value} {od an td : Option Addr} {osl tsl : Array (Option Value)} {kV doc pm cdv ct : Value} {n m : Nat} (X : K.In h) (G : h.Ns mainGlobals mg)
    (hn : ps.length = m + 1)
    (hb2 : ∀ (T : Addr) (kV doc pm : Value) (an : Option Addr) (cdv ct : Value) (us its : List Value), us.length = m + 1 → its.length = 1 →
      ∃ k, bindArgs (PySem.W.fnOf x x (defArgs st) (defBody st) (defScope st) (.ref T) kV doc pm an cdv ct) ⟨us, []⟩ = seqItems? (.ref T) >>= k ∧ k (some its.toArray) = pure (ps.zip (us ++ its.drop 1)))
    (hb1 : ∀ (T : Addr) (kV doc pm : Value) (an : Option Addr) (cdv ct : Value) (us its : List Value), us.length = m → its.length = 1 →
      ∃ k, bindArgs (PySem.W.fnOf x x (defArgs st) (defBody st) (defScope st) (.ref T) kV doc pm an cdv ct) ⟨us, []⟩ = seqItems? (.ref T) >>= k ∧ k (some its.toArray) = pure (ps.zip (us ++ its.drop 0)))
    (a : PySem.W.nsIn K mainGlobals x = some (some (.ref f))) (l : K.lookup f = some ⟨oc, od, .func (PySem.W.fnOf x x (defArgs st) (defBody st) (defScope st) (.ref T) kV doc pm an cdv ct), osl⟩)
    (c : PySem.W.codeIn K cdv x = true) (k : PySem.W.keepIn K (.ref f) = true) (lT : K.lookup T = some ⟨tc, td, .seq #[.none] n, tsl⟩) : DefD K mg x st ps := by
  have F : FunD K x x (defArgs st) (defBody st) (defScope st) [V.non] [] f (PySem.W.fnOf x x (defArgs st) (defBody st) (defScope st) (.ref T) kV doc pm an cdv ct) :=
    ⟨⟨oc, od, .ref T, kV, doc, pm, an, cdv, ct, osl, rfl, l, c, .inr ⟨List.cons_ne_nil _ _, T, _, [.none], n, rfl, lT, rfl, .cons rfl .nil⟩, .inl rfl⟩, k⟩
  obtain ⟨d2, v2, b2⟩ := F.binds1 (m + 1) 1 (List.cons_ne_nil _ _) (by rw [hn]; rfl) (fun T kV doc pm an cdv ct us its h1 h2 => hb2 T kV doc pm an cdv ct us its h1 h2)
  obtain ⟨d1, v1, b1⟩ := F.binds1 m 0 (List.cons_ne_nil _ _) (by rw [hn]; rfl) (fun T kV doc pm an cdv ct us its h1 h2 => hb1 T kV doc pm an cdv ct us its h1 h2)
  have e2 : d2 = [] := by
    cases v2
    rfl
  subst e2
  exact ⟨f, _, F, PySem.W.mg_of X G a, b2, d1, v1, b1⟩
theorem defV_mk {K : PySem.W.Frag} {mg : Str → Option Value} {h : Heap} {x : Str} {st : Stmt} {ps : List Str} {dv : V} {u : Value} {f T : Addr} {oc tc : Value} {od an td : Option Addr} {osl tsl : Array (Option Value)} {kV doc pm cdv ct : Value} {n m : Nat} (X : K.In h) (G : h.Ns mainGlobals mg)
    (hn : ps.length = m + 1)
    (hb2 : ∀ (T : Addr) (kV doc pm : Value) (an : Option Addr) (cdv ct : Value) (us its : List Value), us.length = m + 1 → its.length = 1 →
      ∃ k, bindArgs (PySem.W.fnOf x x (defArgs st) (defBody st) (defScope st) (.ref T) kV doc pm an cdv ct) ⟨us, []⟩ = seqItems? (.ref T) >>= k ∧ k (some its.toArray) = pure (ps.zip (us ++ its.drop 1)))
    (hb1 : ∀ (T : Addr) (kV doc pm : Value) (an : Option Addr) (cdv ct : Value) (us its : List Value), us.length = m → its.length = 1 →
      ∃ k, bindArgs (PySem.W.fnOf x x (defArgs st) (defBody st) (defScope st) (.ref T) kV doc pm an cdv ct) ⟨us, []⟩ = seqItems? (.ref T) >>= k ∧ k (some its.toArray) = pure (ps.zip (us ++ its.drop 0)))
    (a : PySem.W.nsIn K mainGlobals x = some (some (.ref f))) (l : K.lookup f = some ⟨oc, od, .func (PySem.W.fnOf x x (defArgs st) (defBody st) (defScope st) (.ref T) kV doc pm an cdv ct), osl⟩)
    (c : PySem.W.codeIn K cdv x = true) (k : PySem.W.keepIn K (.ref f) = true) (hu : RelV dv u) (lT : K.lookup T = some ⟨tc, td, .seq #[u] n, tsl⟩) : DefV K mg x st ps dv := by
  have F : FunD K x x (defArgs st) (defBody st) (defScope st) [dv] [] f (PySem.W.fnOf x x (defArgs st) (defBody st) (defScope st) (.ref T) kV doc pm an cdv ct) :=
    ⟨⟨oc, od, .ref T, kV, doc, pm, an, cdv, ct, osl, rfl, l, c, .inr ⟨List.cons_ne_nil _ _, T, _, [u], n, rfl, lT, rfl, .cons hu .nil⟩, .inl rfl⟩, k⟩
  obtain ⟨d2, v2, b2⟩ := F.binds1 (m + 1) 1 (List.cons_ne_nil _ _) (by rw [hn]; rfl) (fun T kV doc pm an cdv ct us its h1 h2 => hb2 T kV doc pm an cdv ct us its h1 h2)
  obtain ⟨d1, v1, b1⟩ := F.binds1 m 0 (List.cons_ne_nil _ _) (by rw [hn]; rfl) (fun T kV doc pm an cdv ct us its h1 h2 => hb1 T kV doc pm an cdv ct us its h1 h2)
  have e2 : d2 = [] := by
    cases v2
    rfl
  subst e2
  exact ⟨f, _, F, PySem.W.mg_of X G a, b2, d1, v1, b1⟩
end Hr
/-! ### the text of this law -/
namespace Hr
open PySem PySem.Spec PyProof.Rows L2
def topS (i : Nat) : Stmt := PySem.Challenge.pw_hillrows_k14_whole_by_deeds.main.body.getD i (.Pass ⟨0, 0, 0, 0⟩)
abbrev sHill : Stmt := topS 12
abbrev sTable : Stmt := topS 13
abbrev sStep : Stmt := topS 14
abbrev sLow : Stmt := topS 15
abbrev sIsNum : Stmt := topS 16
abbrev sChNum : Stmt := topS 17
abbrev sChCei : Stmt := topS 18
abbrev sHeights : Stmt := topS 22
abbrev sIsHill : Stmt := topS 23
abbrev sIsRow : Stmt := topS 24
abbrev sChHill : Stmt := topS 25
abbrev sRank : Stmt := topS 27
abbrev sRowAt : Stmt := topS 28
abbrev sNext : Stmt := topS 29
abbrev sAhead : Stmt := topS 30
abbrev sBeside : Stmt := topS 31
abbrev sNumOf : Stmt := topS 32
abbrev sOfNum : Stmt := topS 33
abbrev sDown : Stmt := topS 34
abbrev sCount : Stmt := topS 35
abbrev s_folded : Stmt := topS 37
abbrev s_unfolded : Stmt := topS 38
abbrev s_trees_from_last : Stmt := topS 39
abbrev s_pairs : Stmt := topS 40
abbrev s_row_of_pairs : Stmt := topS 41
abbrev s_is_list_of_places : Stmt := topS 42
abbrev s_cut : Stmt := topS 43
abbrev s_parts : Stmt := topS 44
abbrev s_joined : Stmt := topS 47
abbrev s_lifted : Stmt := topS 48
abbrev s_mirrored : Stmt := topS 49
abbrev s_rank_told : Stmt := topS 50
abbrev s_row_told : Stmt := topS 51
abbrev s_runs : Stmt := topS 55
abbrev s_equal_signs : Stmt := topS 56
abbrev s_row_of : Stmt := topS 57
abbrev s_check_words : Stmt := topS 58
abbrev s_rise : Stmt := topS 59
abbrev s_is_run : Stmt := topS 60
abbrev s_is_length : Stmt := topS 61
abbrev sMixed : Stmt := topS 63
abbrev sNumber : Stmt := topS 64
abbrev sMir : Stmt := topS 65
abbrev sGone : Stmt := topS 66
abbrev sLaw : Stmt := topS 67
end Hr
/-! ### a text walked with its places -/
namespace Hr
open PySem PySem.Spec PyProof.Rows L2
/-- the signs of a text, each in a new pair behind its place -/
def ItEs (x : Str) : It :=
  { go := fun i _ => i < x.cps.size
    yld := fun i H v H' => ∃ T c, v = .ref T ∧ H T = none ∧ H' = upd H T (.tup [.int (i : Nat), .str ⟨#[c]⟩]) ∧ x.cps[i]? = some c
    stop := fun i _ => i = x.cps.size }
theorem two_mem {b e it : Addr} (h : b ∈ [e, it]) : b = e ∨ b = it := by simpa using h
theorem turn_es {P : Program} {w : World} {K : PySem.W.Frag} {elts : List Expr} {kk : Nat} {tpos : Pos} (x : Str) (t : Tok) (e it : Addr) :
    Turn P w K (.Tuple elts kk tpos) (ItEs x) [e, it] e (fun i h => (∃ old, IsEnum h e it ((i : Nat) : Int) old) ∧ h.IsStrIter it (strIterType x) x t i ∧ e ≠ it) := by
  refine { mem := List.mem_cons_self .., obj := ?_, keep := ?_, item := ?_, done := ?_, self := ?_ }
  · rintro i h ⟨⟨old, he⟩, ⟨o, ho, _, hd⟩, _⟩ b hb
    rcases two_mem hb with rfl | rfl
    · exact ⟨_, he, fun v q => (nomatch q)⟩
    · exact ⟨o, ho, fun v q => by rw [hd] at q; exact (nomatch q)⟩
  · rintro i h h' ⟨⟨old, he⟩, ⟨o, ho, r⟩, hne⟩ k
    exact ⟨⟨old, k e (by simp) _ he⟩, ⟨o, k it (by simp) o ho, r⟩, hne⟩
  · rintro X rfl rfl rfl hc i pins s σ H E I hf ⟨⟨old, he⟩, hit, hne⟩ hg
    have le : e < s.heap.objs.size := Heap.lt_size he
    have li : it < s.heap.objs.size := hit.elim fun _ q => Heap.lt_size q.1
    have D : Draws X.prog X.w X.A.in1 it [it] x.cps.size (fun i v => ∃ c u, x.cps[i]? = some c ∧ v = .str ⟨#[c]⟩ u) (fun i h => h.IsStrIter it (strIterType x) x t i) := Draws.text (A := X.A.in1) (show X.A.in1.handled = none from I.ok.hd hc) it x t
    refine wpAny_pyNext_enum_itemD D he hit hg hne (by simpa using hne) fun y h1 tk hy he1 hit1 hT hsz hk => ?_
    obtain ⟨c, u, hcx, rfl⟩ := hy
    refine ⟨_, rfl, wpAny_letOwnedTupleGo_enum (s := { s with heap := h1, toks := tk + 1 }) he1 fun h2 he2 sb => ?_⟩
    have hT2 := (sb.2 _ (Nat.ne_of_gt le)).trans hT
    have ok : ObjOk X.prog X.w (upd H s.heap.objs.size (.tup [.int (i : Nat), .str ⟨#[c]⟩])) h2 s.heap.objs.size (.tup [.int (i : Nat), .str ⟨#[c]⟩]) :=
      ⟨sz (show 2 ≤ 1000000 by decide), [.int i tk, .str ⟨#[c]⟩ u], .cons ⟨_, rfl⟩ (.cons ⟨_, rfl⟩ .nil), ⟨_, hT2, rfl, _, rfl⟩⟩
    have I2 := I.turnedNew (t' := tk + 1) (ch := [e, it]) (fun b ob hb q => (sb.2 b (fun z => hb (by simp [z]))).trans (hk b ob (fun z => hb (by simp [z])) (fun z => hb (by simp [z])) q)) hf (Nat.le_refl _) ok
    refine ⟨.ref s.heap.objs.size, _, I2, rfl, ⟨_, c, rfl, I.hok.fresh (Nat.le_refl _), rfl, hcx⟩, ⟨⟨.str ⟨#[c]⟩ u, ?_⟩, ?_, hne⟩, fun b hb => ?_⟩
    · rw [Int.natCast_add]
      exact he2
    · obtain ⟨o, ho, r⟩ := hit1
      exact ⟨o, (sb.2 it (Ne.symm hne)).trans ho, r⟩
    · have lb : b < s.heap.objs.size := by
        rcases two_mem hb with z | z
        · exact z ▸ le
        · exact z ▸ li
      rw [upd_ne (Nat.ne_of_lt lb)]
      exact (hf b hb).1
  · rintro X rfl rfl rfl hc i pins s σ H E I hf ⟨⟨old, he⟩, hit, hne⟩ hg
    have D : Draws X.prog X.w X.A.in1 it [it] x.cps.size (fun i v => ∃ c u, x.cps[i]? = some c ∧ v = .str ⟨#[c]⟩ u) (fun i h => h.IsStrIter it (strIterType x) x t i) := Draws.text (A := X.A.in1) (show X.A.in1.handled = none from I.ok.hd hc) it x t
    obtain ⟨f0, f1, f2, f3, f4, f5⟩ := hf it (by simp)
    have hit : s.heap.IsStrIter it (strIterType x) x t x.cps.size := (show i = x.cps.size from hg) ▸ hit
    exact wpAny_pyNext_enum_endD D he hit fun h1 eb => ⟨rfl, I.turned (t' := s.toks) (fun b o hb q => eb b o hb q) f0 f1 f3 f4 f5⟩
  · rintro A i s Q E ⟨⟨old, he⟩, _⟩ h
    exact wpAny_pyIter_enum he h
def iEs (ta : TA) : TI := fun σ H R => ta σ H fun vs H1 => ∃ x, vs = [.str x] ∧ R (ItEs x) H1
theorem pi_es {X : Cx} {e : Expr} {ta : TA} {p pos tpos : Pos} {elts : List Expr} {kk : Nat} (hg : Gl X "enumerate") (hm : X.mg "enumerate" = none) (ha : PA X [e] ta) (hs : starEach [e] X.env = [(false, eval e X.env)] := by rfl) :
    PI X (.Tuple elts kk tpos) (.Call (.Name "enumerate" p) [e] [] pos) (iEs ta) := by
  refine ⟨fun pins s σ H R I h => Call_ (ld_blt I hg hm boot_enumerate (PyProof.Rows.callWith_type1 (thn (ha.run pos pins s σ H _ I h) fun us s1 ⟨vs, H1, I1, r1, x, ex, q⟩ => ?_) hs rfl))⟩
  subst ex
  obtain ⟨u, rest, rfl⟩ : ∃ u rest, us = u :: rest := by
    cases r1
    exact ⟨_, _, rfl⟩
  cases r1 with
  | cons r rr =>
    cases rr
    obtain ⟨t, rfl⟩ := r
    refine call_enumerate_str fun h' he hit hsz hk => wpAny_pyIter_enum he ?_
    refine ⟨s1.heap.objs.size + 1, [s1.heap.objs.size + 1, s1.heap.objs.size], _, _, H1, rfl, I1.kept (t' := s1.toks) hk, turn_es x t (s1.heap.objs.size + 1) s1.heap.objs.size, ⟨⟨.none, he⟩, hit, Nat.succ_ne_self _⟩, fun b hb => ?_, q⟩
    have lb : s1.heap.objs.size ≤ b := by
      rcases two_mem hb with z | z
      · rw [z]
        exact Nat.le_succ _
      · rw [z]
        exact Nat.le_refl _
    exact I1.fpOk lb (I1.hok.fresh lb)
theorem walk_es {x : Str} : Walk (ItEs x) x.cps.size (fun _ => True) (YPair (fun i => some (.int (i : Nat))) (fun i => (x.cps[i]?).map fun c => V.str ⟨#[c]⟩)) := by
  refine ⟨fun _ _ hi _ => hi, fun _ _ => rfl, fun i H v H' _ _ y => ?_⟩
  obtain ⟨T, c, h1, h2, h3, h4⟩ := y
  exact ⟨T, .int (i : Nat), .str ⟨#[c]⟩, h1, h2, h3, rfl, by show (x.cps[i]?).map _ = _; rw [h4]; rfl⟩
end Hr
/-! ### errors that are caught and kept -/
namespace Hr
open PySem PySem.Spec PyProof.Rows L2
/-- an exception's object at a: its class, its own dict -/
def ExT (cls : Value) (d : Option Addr) (a : Addr) : HO := .ext fun h => ∃ (oe : Obj) (vs : Array Value), h.get? a = some oe ∧ Zc cls d oe ∧ oe.data = .fields vs
theorem exT_ok {P : Program} {w : World} {H : Hp} {h : Heap} {a : Addr} {cls : Value} {d : Option Addr} {oe : Obj} {vs : Array Value} (e : h.get? a = some oe) (z : Zc cls d oe) (dd : oe.data = .fields vs) : ObjOk P w H h a (ExT cls d a) :=
  ⟨⟨oe, vs, e, z, dd⟩, ⟨oe, e⟩, fun _ _ ⟨o, v, q, r⟩ k => ⟨o, v, k o q, r⟩⟩
/-- the wish of a try whose clause takes every error of its body and keeps it -/
def wKept (K : PySem.W.Frag) (c : Value) (i : Nat) (ts : Addr → TS) (D : Ends) : WX := fun cls d σ H =>
  PySem.W.exmOne K cls c = some true ∧ ∀ a, H a = none →
    ts a ⟨fun σ1 H1 => D.nx (σ1.set i none) (upd H1 a (ExT cls d a)), fun _ _ => False, fun _ _ => False, fun _ _ => False⟩ (σ.set i (some (.ref a))) H
section
variable {X : Cx} {x n : Str} {c : Value} {i : Nat} {body suite : List Stmt} {b₀ : Stmt} {np pos pos' : Pos} {tb : WX → TS} {ts : Addr → TS}
theorem unsuite2 {pins : List (Addr × Obj)} {σ : L2.St} {H : Hp} {s : Shared} {a : Addr} {oe : Obj} (I : Inv (X.suite a ((a, oe) :: (X.pn ++ pins))) [] σ H s) (ok : X.Ok) : Inv X ((a, oe) :: pins) σ H s :=
  ⟨ok, I.os, I.bare, I.base, I.loc, I.cell, I.free, I.freeC, fun p hp => I.pin p (List.mem_append_left _ (by
    rcases List.mem_append.mp hp with z | z
    · exact List.mem_cons_of_mem _ (List.mem_append_left _ z)
    · rcases List.mem_cons.mp z with z | z
      · rw [z]
        exact List.mem_cons_self
      · exact List.mem_cons_of_mem _ (List.mem_append_right _ z))), I.hok, I.len⟩
theorem track {pins : List (Addr × Obj)} {σ : L2.St} {H : Hp} {s : Shared} {a : Addr} {oe : Obj} {vs : Array Value} {cls : Value} {d : Option Addr} (I : Inv X ((a, oe) :: pins) σ H s) (hz : Zc cls d oe) (hd : oe.data = .fields vs) (n0 : X.s_0.heap.get? a = none)
    (np : ∀ p ∈ X.pn ++ pins, p.1 ≠ a) : Inv X pins σ (upd H a (ExT cls d a)) s := by
  obtain ⟨ha, na, nL, nF, _⟩ := I.pin (a, oe) (List.mem_append_right _ List.mem_cons_self)
  have ha : s.heap.get? a = some oe := ha
  have na : H a = none := na
  have nb0 : ∀ b o, X.s_0.heap.get? b = some o → b ≠ a := fun b o e z => by
    rw [z, n0] at e
    cases e
  refine ⟨I.ok, I.os, I.bare, ⟨I.base.keep, I.base.slot, fun b o e n hx => ?_, I.base.there, fun b xs e => ?_, fun b o u e => ?_, fun b ps e => ?_⟩, I.loc, I.cell, ?_, fun y cc e => ?_, fun p hp => ?_, ?_, I.len⟩
  · rw [upd_ne (nb0 b o e)]
    exact I.base.free b o e n hx
  · have q := I.base.tups b xs e
    rw [upd_ne (ne_of_none q na)]
    exact q
  · have q := I.base.frzs b o u e
    rw [upd_ne (ne_of_none q na)]
    exact q
  · obtain ⟨m, q⟩ := I.base.tbls b ps e
    exact ⟨m, by rw [upd_ne (ne_of_none q na)]; exact q⟩
  · rw [upd_ne (Ne.symm nL)]
    exact I.free
  · obtain ⟨v, o, q1, q2⟩ := I.cell y cc e
    have nc : cc ≠ a := fun z => by
      rw [z, ha] at q1
      cases q1
      rw [hd] at q2
      cases q2
    rw [upd_ne nc]
    exact I.freeC y cc e
  · obtain ⟨q1, q2, q3, q4, q5⟩ := I.pin p (by
      rcases List.mem_append.mp hp with z | z
      · exact List.mem_append_left _ z
      · exact List.mem_append_right _ (List.mem_cons_of_mem _ z))
    exact ⟨q1, by rw [upd_ne (np p hp)]; exact q2, q3, q4, q5⟩
  · exact I.hok.laidN (fun _ _ z => z) na (exT_ok ha hz hd)
/-- what is caught is new since the def began -/
theorem caught_new {pins : List (Addr × Obj)} {σ : L2.St} {H : Hp} {g : Shared} {G : Heap} {a : Addr} (J : Inv X pins σ H g)
    (kp : ∀ b o, g.heap.get? b = some o → b ∉ frs X.stack → G.get? b = some o) (out : G.get? a = none) (nf : a ∉ frs X.stack) (hex : X.ex = []) :
    X.s_0.heap.get? a = none ∧ ∀ p ∈ X.pn ++ pins, p.1 ≠ a := by
  have g0 : g.heap.get? a = none := by
    cases e : g.heap.get? a with
    | none => rfl
    | some o => exact absurd ((kp a o e nf).symm.trans out) (fun z => nomatch z)
  refine ⟨?_, fun p hp z => ?_⟩
  · cases e : X.s_0.heap.get? a with
    | none => rfl
    | some o =>
      obtain ⟨u, hu⟩ := J.base.there a o e (hex ▸ fun z => nomatch z)
      exact absurd (hu.symm.trans g0) (fun z => nomatch z)
  · have hp1 := (J.pin p hp).1
    rw [z, g0] at hp1
    exact nomatch hp1
theorem kept_try (hs : X.stack = X.env :: X.outer) (hf : X.env.frame = some X.env.locals)
    (hex : X.ex = []) (hN : X.N.Nodup) (hi : X.N[i]? = some n)
    (hln : X.env.kindOf n = some .local) (hc : Names X x c)
    (inner : ∀ W pn xe, Takes (X.tr pn xe) W → PassesOwn (model X.prog X.w) X.A X.env xe → PSs (X.tr pn xe) body (tb W))
    (clause : ∀ a q, PSs (X.suite a q) (b₀ :: suite) (ts a)) :
    PS X (.Try body [.ExceptHandler (some (.Name x np)) (some n) (b₀ :: suite) pos'] [] [] pos)
      (fun D σ H => tb (wKept X.K c i ts D) D σ H) := by
  constructor
  intro pins s σ H D I h
  have frames : X.A.frames = some (X.env :: X.outer) := by
    rw [← hs]
    exact I.ok.frames
  apply wpAny_Try_except
  refine wpAny_mono ((inner (wKept X.K c i ts D) (X.pn ++ pins) _ ?later PassesOwn.looking).run
    [] s σ H D (I.toTry _) h) ?done fun _ _ z => z
  case later =>
    rintro u t ⟨a, G, g, pq, σ1, H1, cls, d, rfl, J0, kp, up, sky, na, os, ag, hb, go⟩
    have J := J0.ofTry I.ok
    rw [hs] at sky
    refine Sky.land Zc.steady frames hf sky fun h3 f3 u3 => ?_
    obtain ⟨e3, v3, at3, z3, d3⟩ := f3.there
    -- it is none of the frames
    have away : a ∉ frs (X.env :: X.outer) := by
      intro z
      obtain ⟨_, o, ho, no⟩ := f3.2.2.1.mem z
      rw [at3] at ho
      injection ho with ho
      subst ho
      exact no _ d3
    have a1 : a ≠ X.env.locals := fun z =>
      away (List.mem_filterMap.mpr ⟨X.env, .head _, z ▸ hf⟩)
    have a2 : a ∉ X.fs := by
      intro z
      obtain ⟨e, he, q⟩ := List.mem_filterMap.mp z
      exact away (List.mem_filterMap.mpr ⟨e, .tail _ he, q⟩)
    obtain ⟨n0, apart⟩ := caught_new J kp f3.2.1 (hs ▸ away) hex
    have J3 := J.landed (s' := { t with heap := h3 }) kp f3.1 (up.trans u3) os ag
    have S3 := J3.suite at3 d3 na a1 a2
    refine wpAny_handleBy_cons (codeAny_handlers_test ?_) (fun z => nomatch z)
    have ty : PySem.W.Looks (model X.prog X.w) h3 (typeOf (.ref a)) cls := fun _ _ _ _ k q =>
      wpAny_typeOf_ref (k _ _ at3) (z3.1 ▸ q)
    have hit := PySem.W.exm_one J3.kIn ty hb
    have named : ∀ {Q E : Value → Shared → Prop}, Q c { t with heap := h3 } →
        wpAny (model X.prog X.w) (X.A.mark (some (.ref a))) (eval (.Name x np) X.env) Q E { t with heap := h3 } := by
      intro Q E q
      obtain ⟨gl, dbg, mine | ⟨none', boot, other⟩⟩ := hc
      · exact ld_glob S3 gl mine q dbg
      · exact ld_blt S3 gl none' boot q other dbg
    refine named (hit.here (codeAny_handlers_suite_as ?_))
    refine HandSPX.lands_againZ f3 fun h4 f4 u4 => ?_
    obtain ⟨e4, v4, at4, z4, d4⟩ := f4.there
    have J4 := J.landed (s' := { t with heap := h4 }) kp f4.1 ((up.trans u3).trans u4) os ag
    refine store_ok (X := X.suite a ((a, e4) :: (X.pn ++ pins)))
      (J4.suite at4 d4 na a1 a2) (v := .ref a) hN hi (.inl hln) rfl (fun s5 S5 => ?_) (.inr hln)
    have fin := (clause a ((a, e4) :: (X.pn ++ pins))).run [] s5 _ H1 _ S5 (go a na)
    refine wpAny_mono fin (fun fl s6 done => ?_) fun _ _ z => z.elim
    cases fl with
    | next =>
      obtain ⟨σ6, H6, S6, q6⟩ := done
      refine gone_ok (unsuite2 S6 I.ok) hN hi hln fun s7 J7 => ?_
      exact ⟨_, _, track J7 z4 d4 n0 apart, q6⟩
    | brk => exact (let ⟨_, _, _, z⟩ := done; z.elim)
    | cont => exact (let ⟨_, _, _, z⟩ := done; z.elim)
    | ret u => exact (let ⟨_, _, _, _, _, z⟩ := done; z.elim)
  intro fl s1 done
  cases fl with
  | next => exact (let ⟨_, _, J, z⟩ := done; wpAny_execs_nil ⟨_, _, J.ofTry I.ok, z⟩)
  | brk => exact (let ⟨_, _, J, z⟩ := done; ⟨_, _, J.ofTry I.ok, z⟩)
  | cont => exact (let ⟨_, _, J, z⟩ := done; ⟨_, _, J.ofTry I.ok, z⟩)
  | ret u => exact (let ⟨_, _, _, J, r, z⟩ := done; ⟨_, _, _, J.ofTry I.ok, r, z⟩)
/-- isinstance(e, c), e an error that was kept -/
def rIsT (K : PySem.W.Frag) : List V → Hp → VK → Prop := fun xs H Q => ∃ (a D : Addr) (cc : V) (cv : Value) (b : Bool), xs = [.ref a, cc] ∧ H a = some (ExT (.ref D) none a) ∧ ExcC K D ∧ (∀ u, RelV cc u → u = cv) ∧ PySem.W.kitOne K (.ref D) cv = some b ∧ Q (.bl b) H
theorem call_isT : CallR X (.builtin "isinstance") (rIsT X.K) := by
  intro pins s σ H xs us Q I r h
  obtain ⟨a, D, cc, cv, b, rfl, ea, C, hcv, e, q⟩ := h
  cases r with
  | cons rx rr =>
    cases rr with
    | cons rt rr =>
      cases rr
      cases rx
      have ec := hcv _ rt
      subst ec
      obtain ⟨⟨oe, vs, hget, hz, hv⟩, _⟩ := I.hok a _ ea
      have J : PySem.W.InstAt s.heap a oe D none := by
        obtain ⟨oc, od, oda, osl⟩ := oe
        obtain ⟨h1, h2⟩ := hz
        dsimp only at h1 h2 hv
        subst h1 h2 hv
        exact ⟨hget, rfl, rfl, trivial⟩
      exact PySem.W.kia_one (PySem.W.handS_kitx_exc C.hg C.hk C.hs C.hd C.ha C.hn C.ht C.hm) I.kIn J e (fun z => nomatch z) fun tk => ⟨.bl b, H, I.kept (t' := tk) fun _ _ z => z, rfl, q⟩
end
section
variable {X : Cx}
/-- a def that may raise, called where it does not -/
theorem pe_cL {k j : Nat} {x : Str} {dvs : List V} {sp : Sp} {e : Expr} {es : List Expr} {t : TA} {p pos : Pos} (c : Cal X.K X.mg (L2.CX X.prog X.w) X.prog X.w X.base k x dvs sp) (hr : Room j X.A) (ha : PA X (e :: es) t) (hk : k ≤ j := by decide) (hg : Gl X x := by rfl)
    (hdb : (x == ("__debug__" : Str)) = false := by decide) (he : starEach (e :: es) X.env = (false, eval e X.env) :: starEach es X.env := by rfl) (hpl : (backTo pos (starEach es X.env)).any (·.1) = false := by rfl) :
    PE X (.Call (.Name x p) (e :: es) [] pos) (tCall sp dvs E0 t) := by
  obtain ⟨f, fd, ps, ds, F, hm, kp, b, d⟩ := c.ex
  exact pe_call F (hr.mono hk) hg hm kp b d passL ha hdb he hpl
/-- .. in a def that lets it out -/
theorem pe_cX {k j : Nat} {x : Str} {dvs : List V} {sp : Sp} {E : XK} {e : Expr} {es : List Expr} {t : TA} {p pos : Pos} (c : Cal X.K X.mg (L2.CX X.prog X.w) X.prog X.w X.base k x dvs sp) (hr : Room j X.A) (tk : Takes X fun cls d _ H => E cls d H) (ha : PA X (e :: es) t) (hk : k ≤ j := by decide) (hg : Gl X x := by rfl)
    (hdb : (x == ("__debug__" : Str)) = false := by decide) (he : starEach (e :: es) X.env = (false, eval e X.env) :: starEach es X.env := by rfl) (hpl : (backTo pos (starEach es X.env)).any (·.1) = false := by rfl) :
    PE X (.Call (.Name x p) (e :: es) [] pos) (tCall sp dvs E t) := by
  obtain ⟨f, fd, ps, ds, F, hm, kp, b, d⟩ := c.ex
  exact pe_call F (hr.mono hk) hg hm kp b d (passes_call tk fun _ _ _ _ h => h) ha hdb he hpl
/-- .. in a try's body, at the slots -/
def tCallT (sp : Sp) (dvs : List V) (E : L2.St → XK) (t : TA) : TE := fun σ H Q => t σ H fun vs H1 => sp (vs ++ dvs) H1 Q (E σ)
end
end Hr
/-! ### errors of the text, defs that raise them -/
namespace Hr
open PySem PySem.Spec PyProof.Rows L2
/-- the class x of errors at C -/
structure Err (K : PySem.W.Frag) (mg : Str → Option Value) (x : Str) (C : Addr) : Prop where
  g : mg x = some (.ref C)
  x : PySem.W.excIn K C [.type "ValueError", .type "Exception", .type "BaseException", .type "object"] "ValueError.__new__" = true
  k : PySem.W.keepIn K (.ref C) = true
  b : PySem.W.subIn K (.ref C) (.type "BaseException") = some true
  t : PySem.W.typeIn K (.ref C) = some (.type "type")
section
variable {P : Program} {w : World} {K : PySem.W.Frag} {mg : Str → Option Value} {base : Heap}
theorem Def.calX {x : Str} {st : Stmt} {N ps : List Str} {k : Nat} {sp : Sp} (D : Def K mg x st ps) (S : FnScope N ps (defScope st)) (len : ∀ vs H Q E, sp vs H Q E → vs.length = ps.length)
    (hbody : ∀ (f : Addr) (cdv : Value) (A : Around) (outer : List Env) (s : Shared) (H : Hp) (vs : List V) (Q : VK) (E : XK), Room k (A.deeper (envOfC x (defScope st) s.heap.objs.size f cdv)) → sp vs H Q E →
      ∃ t, PSs (cxOf (L2.CX P w) P w K mg base N x (defScope st) f cdv A outer s H E) (defBody st) t ∧ t { nx := fun _ H' => Q .non H', rt := Q } (start N vs) H) : Cal K mg (L2.CX P w) P w base (k + 1) x [] sp := by
  obtain ⟨f, fd, F, hm, b⟩ := D.ex
  exact ⟨f, fd, ps, [], F.okX S len (hbody f), hm, F.kp, b, .nil⟩
theorem DefD.okX {x : Str} {st : Stmt} {N ps : List Str} {k : Nat} {sp : Sp} (D : DefD K mg x st ps) (S : FnScope N ps (defScope st)) (len : ∀ vs H Q E, sp vs H Q E → vs.length = ps.length)
    (hbody : ∀ (f : Addr) (cdv : Value) (A : Around) (outer : List Env) (s : Shared) (H : Hp) (vs : List V) (Q : VK) (E : XK), Room k (A.deeper (envOfC x (defScope st) s.heap.objs.size f cdv)) → sp vs H Q E →
      ∃ t, PSs (cxOf (L2.CX P w) P w K mg base N x (defScope st) f cdv A outer s H E) (defBody st) t ∧ t { nx := fun _ H' => Q .non H', rt := Q } (start N vs) H) :
    Cal K mg (L2.CX P w) P w base (k + 1) x [] sp ∧ Cal K mg (L2.CX P w) P w base (k + 1) x [.non] sp := by
  obtain ⟨f, fd, F, hm, b, ds, vd, b2⟩ := D.ex
  have G : FnOk P w K mg base (L2.CX P w) (k + 1) f fd ps sp := F.ok S len (hbody f)
  exact ⟨⟨f, fd, ps, [], G, hm, F.kp, b, .nil⟩, ⟨f, fd, ps, ds, G, hm, F.kp, b2, vd⟩⟩
theorem DefV.okX {x : Str} {st : Stmt} {N ps : List Str} {k : Nat} {sp : Sp} {dv : V} (D : DefV K mg x st ps dv) (S : FnScope N ps (defScope st)) (len : ∀ vs H Q E, sp vs H Q E → vs.length = ps.length)
    (hbody : ∀ (f : Addr) (cdv : Value) (A : Around) (outer : List Env) (s : Shared) (H : Hp) (vs : List V) (Q : VK) (E : XK), Room k (A.deeper (envOfC x (defScope st) s.heap.objs.size f cdv)) → sp vs H Q E →
      ∃ t, PSs (cxOf (L2.CX P w) P w K mg base N x (defScope st) f cdv A outer s H E) (defBody st) t ∧ t { nx := fun _ H' => Q .non H', rt := Q } (start N vs) H) :
    Cal K mg (L2.CX P w) P w base (k + 1) x [] sp ∧ Cal K mg (L2.CX P w) P w base (k + 1) x [dv] sp := by
  obtain ⟨f, fd, F, hm, b, ds, vd, b2⟩ := D.ex
  have G : FnOk P w K mg base (L2.CX P w) (k + 1) f fd ps sp := F.ok S len (hbody f)
  exact ⟨⟨f, fd, ps, [], G, hm, F.kp, b, .nil⟩, ⟨f, fd, ps, ds, G, hm, F.kp, b2, vd⟩⟩
end
end Hr
/-! ### the law's own numbers -/
namespace Hr
open PySem PySem.Spec PyProof.Rows L2
/-- what _law_mixed makes of a cell at its place -/
def mixed (z k : Int) : Int :=
  let m := (z % 2147483629 + 104729 * (k + 1)) * 16807 % 2147483647
  m * m % 2147483629 * 48271 % 2147483647
theorem mixed_nonneg (z k : Int) : 0 ≤ mixed z k := Int.emod_nonneg _ (by decide)
theorem mixed_lt (z k : Int) : mixed z k < 2147483647 := Int.emod_lt_of_pos _ (by decide)
theorem scMixed : FnScope ["_law_cell", "_law_k", "_law_mark"] ["_law_cell", "_law_k"] (defScope sMixed) := ⟨rfl, rfl, rfl, by decide +kernel, rfl, by decide +kernel, by decide +kernel⟩
section
variable {P : Program} {w : World} {K : PySem.W.Frag} {mg : Str → Option Value} {base : Heap}
def spMixed : Sp := fun vs H Q _ => ∃ (z k : Int), vs = [.int z, .int k] ∧ Q (.int (mixed z k)) H
theorem cal_mixed (D : Def K mg "_law_mixed" sMixed ["_law_cell", "_law_k"]) : Cal K mg CX0 P w base 1 "_law_mixed" [] spMixed := by
  refine D.cal scMixed (fun vs H Q E h => ?_) (fun f cdv A outer s H vs Q E hr h => ?_)
  · obtain ⟨z, k, rfl, _⟩ := h
    rfl
  · obtain ⟨z, k, rfl, q⟩ := h
    refine ⟨_, pss_cons (ps_set (i := 2) scMixed.nd rfl (.inl rfl) (pe_op op_mod (pe_op op_mul (pe_op op_add (pe_op op_mod (pv 0) pe_int) (pe_op op_mul pe_int (pe_op op_add (pv 1) pe_int))) pe_int) pe_int))
      (pss_one (ps_ret (pe_op op_mod (pe_op op_mul (pe_op op_mod (pe_op op_mul (pv 2) (pv 2)) pe_int) pe_int) pe_int))), ?_⟩
    refine ⟨.int z, rfl, z, 2147483629, rfl, rfl, (by show (0 : Int) < 2147483629; decide), .int k, rfl, k, 1, rfl, rfl, 104729, k + 1, rfl, rfl, .inl ⟨by decide, by decide⟩, z % 2147483629, 104729 * (k + 1), rfl, rfl, _, 16807, rfl, rfl, .inr ⟨by decide, by decide⟩,
      _, 2147483647, rfl, rfl, (by show (0 : Int) < 2147483647; decide), ?_⟩
    have h0 : 0 ≤ (z % 2147483629 + 104729 * (k + 1)) * 16807 % 2147483647 := Int.emod_nonneg _ (by decide)
    have h1 : (z % 2147483629 + 104729 * (k + 1)) * 16807 % 2147483647 < 2147483647 := Int.emod_lt_of_pos _ (by decide)
    refine ⟨_, rfl, _, rfl, _, _, rfl, rfl, .inl ⟨by omega, by omega⟩, _, 2147483629, rfl, rfl, (by show (0 : Int) < 2147483629; decide), _, 48271, rfl, rfl, .inr ⟨by decide, by decide⟩, _, 2147483647, rfl, rfl, (by show (0 : Int) < 2147483647; decide), ?_⟩
    exact q
end
end Hr
namespace Hr
open PySem PySem.Spec PyProof.Rows L2
/-- a ceiling as a value -/
def cV : Option Nat → V
  | none => .non
  | some k => .int (k : Int)
/-- a ceiling in its bounds -/
def cOk (m : Nat) : Option Nat → Prop
  | none => True
  | some k => k ≤ m
end Hr
/-! ### counts and ranks, with what they refuse -/
namespace Hr
open PySem PySem.Spec PyProof.Rows L2
/-- a whole number from 0 to m -/
def numL : V → Int → Int → Bool
  | .int i, l, m => decide (l ≤ i ∧ i ≤ m)
  | _, _, _ => false
def numB (v : V) (m : Int) : Bool := numL v 0 m
def ceilB : V → Bool
  | .non => true
  | v => numB v 200
theorem numB_of {v : V} {m : Int} (h : numB v m = true) : ∃ n : Nat, v = .int (n : Int) ∧ (n : Int) ≤ m := by
  cases v with
  | int i =>
    have := of_decide_eq_true h
    exact ⟨i.toNat, by rw [Int.toNat_of_nonneg this.1], by omega⟩
  | _ => cases h
theorem numB_nat {n : Nat} {m : Int} (h : (n : Int) ≤ m) : numB (.int (n : Int)) m = true := decide_eq_true ⟨by omega, h⟩
theorem ceilB_of {v : V} (h : ceilB v = true) : ∃ c : Option Nat, v = cV c ∧ cOk 200 c := by
  cases v with
  | non => exact ⟨none, rfl, trivial⟩
  | int i =>
    obtain ⟨n, e, hn⟩ := numB_of (v := .int i) (m := 200) h
    exact ⟨some n, e, by show n ≤ 200; omega⟩
  | _ => cases h
theorem ceilB_cV {c : Option Nat} (h : cOk 200 c) : ceilB (cV c) = true := by
  cases c with
  | none => rfl
  | some k =>
    have h : k ≤ 200 := h
    exact numB_nat (by omega)
theorem flat_cV (c : Option Nat) : flatV (cV c) = true := by cases c <;> rfl
theorem scIsNum : FnScope ["value", "most", "least"] ["value", "most", "least"] (defScope sIsNum) := ⟨rfl, rfl, rfl, by decide +kernel, rfl, by decide +kernel, by decide +kernel⟩
theorem scChNum : FnScope ["value", "most", "least"] ["value", "most", "least"] (defScope sChNum) := ⟨rfl, rfl, rfl, by decide +kernel, rfl, by decide +kernel, by decide +kernel⟩
section
variable {P : Program} {w : World} {K : PySem.W.Frag} {mg : Str → Option Value} {base : Heap} {CC CN CR CP : Addr}
def spIsNumV : Sp := fun vs H Q _ => ∃ (v : V) (m : Int), vs = [v, .int m, .int 0] ∧ flatV v = true ∧ Q (.bl (numB v m)) H
def spIsNumL : Sp := fun vs H Q _ => ∃ (v : V) (m l : Int), vs = [v, .int m, .int l] ∧ flatV v = true ∧ Q (.bl (numL v l m)) H
theorem cal_isNumL (D : DefV K mg "is_number" sIsNum ["value", "most", "least"] (.int 0)) (misi : mg "isinstance" = none) (mint : mg "int" = none) (mbool : mg "bool" = none) : Cal K mg CX0 P w base 1 "is_number" [] spIsNumL ∧ Cal K mg CX0 P w base 1 "is_number" [.int 0] spIsNumL := by
  refine D.ok scIsNum (fun vs H Q E h => ?_) (fun f cdv A outer s H vs Q E hr h => ?_)
  · obtain ⟨i, m, l, rfl, _⟩ := h
    rfl
  · obtain ⟨v, m, l, rfl, hv, q⟩ := h
    refine ⟨_, pss_one (ps_ret (pe_and (pe_callB call_isi (by rfl) misi (by decide +kernel) (pa_cons (pv 0) (pa_cons (pe_bltn (v := .ty "int") (u := .type "int") (by rfl) mint (by decide +kernel) rfl) pa_nil)))
      (pe_and (pe_not (pe_callB call_isi (by rfl) misi (by decide +kernel) (pa_cons (pv 0) (pa_cons (pe_bltn (v := .ty "bool") (u := .type "bool") (by rfl) mbool (by decide +kernel) rfl) pa_nil))))
      (pe_one (pe_chain op_le op_le (pv 2) (pv 0) (pv 1)))))), ?_⟩
    cases v with
    | int i =>
      refine ⟨.int i, rfl, .int i, .ty "int", _, _, true, rfl, .ty "int", .base (.int i), kit_ty (by decide +kernel), true, rfl, iteT ?_⟩
      refine ⟨.int i, rfl, .int i, .ty "bool", _, _, false, rfl, .ty "bool", .base (.int i), kit_ty (by decide +kernel), false, rfl, true, rfl, iteT ?_⟩
      refine ⟨.int l, rfl, .int i, rfl, l, i, rfl, rfl, decide (l ≤ i), rfl, ite2 (fun e => ?_) (fun e => ?_)⟩
      · refine ⟨.int m, rfl, i, m, rfl, rfl, ?_⟩
        have e0 : l ≤ i := of_decide_eq_true e
        show Q (.bl (decide (i ≤ m))) H
        rw [show decide (i ≤ m) = decide (l ≤ i ∧ i ≤ m) from decide_eq_decide.mpr ⟨fun z => ⟨e0, z⟩, fun z => z.2⟩]
        exact q
      · have e0 : ¬ l ≤ i := fun z => e (decide_eq_true z)
        have en : numL (.int i) l m = false := decide_eq_false (fun z => e0 z.1)
        rw [en] at q
        exact q
    | bl b =>
      refine ⟨.bl b, rfl, .bl b, .ty "int", _, _, true, rfl, .ty "int", .base (.bl b), kit_ty (by decide +kernel), true, rfl, iteT ?_⟩
      refine ⟨.bl b, rfl, .bl b, .ty "bool", _, _, true, rfl, .ty "bool", .base (.bl b), kit_ty (by decide +kernel), true, rfl, false, rfl, iteF ?_⟩
      exact q
    | non =>
      refine ⟨.non, rfl, .non, .ty "int", _, _, false, rfl, .ty "int", .base .non, kit_ty (by decide +kernel), false, rfl, iteF ?_⟩
      exact q
    | str z =>
      refine ⟨.str z, rfl, .str z, .ty "int", _, _, false, rfl, .ty "int", .base (.str z), kit_ty (by decide +kernel), false, rfl, iteF ?_⟩
      exact q
    | byt _ => cases hv
    | flt _ => cases hv
    | ref _ => cases hv
    | ty _ => cases hv
theorem cal_isNumV (D : DefV K mg "is_number" sIsNum ["value", "most", "least"] (.int 0)) (misi : mg "isinstance" = none) (mint : mg "int" = none) (mbool : mg "bool" = none) : Cal K mg CX0 P w base 1 "is_number" [] spIsNumL ∧ Cal K mg CX0 P w base 1 "is_number" [.int 0] spIsNumV := by
  obtain ⟨C1, C2⟩ := cal_isNumL (P := P) (w := w) (base := base) D misi mint mbool
  exact ⟨C1, C2.imp fun vs H Q E ⟨v, m, e, hv, q⟩ => ⟨v, m, 0, e, hv, q⟩⟩
def spChNumX (CC : Addr) : Sp := fun vs H Q E => ∃ (v : V) (m : Int), vs = [v, .int m, .int 0] ∧ flatV v = true ∧ (m = 200 ∨ m = 400) ∧ (numB v m = true → Q .non H) ∧ (numB v m = false → E (.ref CC) none H)
def spChNumL (CC : Addr) : Sp := fun vs H Q E => ∃ (v : V) (m l : Int), vs = [v, .int m, .int l] ∧ flatV v = true ∧ (0 ≤ m ∧ m ≤ 400) ∧ (0 ≤ l ∧ l ≤ 400) ∧ (numL v l m = true → Q .non H) ∧ (numL v l m = false → E (.ref CC) none H)
theorem num_fits : ∀ k : Fin 401, (Str.ofString (toString ((k.val : Nat) : Int))).length ≤ 1000 ∧ ((k.val : Nat) : Int).natAbs.log2 < 1920 := by decide +kernel
theorem num_fit {m : Int} (h : 0 ≤ m ∧ m ≤ 400) : (Str.ofString (toString m)).length ≤ 1000 ∧ m.natAbs.log2 < 1920 := by
  have := num_fits ⟨m.toNat, by omega⟩
  have e : ((m.toNat : Nat) : Int) = m := Int.toNat_of_nonneg h.1
  dsimp only at this
  rw [e] at this
  exact this
theorem cal_chNumL (er : Err K mg "NoCount" CC) (D : DefV K mg "check_number" sChNum ["value", "most", "least"] (.int 0)) (C : Cal K mg CX0 P w base 1 "is_number" [] spIsNumL) : Cal K mg (L2.CX P w) P w base 2 "check_number" [] (spChNumL CC) ∧ Cal K mg (L2.CX P w) P w base 2 "check_number" [.int 0] (spChNumL CC) := by
  refine D.okX scChNum (fun vs H Q E h => ?_) (fun f cdv A outer s H vs Q E hr h => ?_)
  · obtain ⟨i, m, l, rfl, _⟩ := h
    rfl
  · obtain ⟨v, m, l, rfl, hv, hm, hl, q, qe⟩ := h
    refine ⟨_, pss_one (ps_if (pt_not (pt_val (pe_c C hr (pa_cons (pv 0) (pa_cons (pv 1) (pa_cons (pv 2) pa_nil)))))) (pss_one (ps_raise rfl (takes_of rfl rfl rfl rfl) (SkE.pmk_own1 PySem.F.excBase_ValueError er.x er.g er.k (raises_own er.b er.t) rfl (pe_joined (.cons pe_str (.cons (pe_fmt (pv 2)) (.cons pe_str (.cons (pe_fmt (pv 1)) .nil)))))))) pss_nil), ?_⟩
    refine ⟨v, rfl, .int m, rfl, .int l, rfl, v, m, l, rfl, hv, numL v l m, rfl, ?_⟩
    cases hn : numL v l m with
    | true =>
      refine iteF ?_
      exact q hn
    | false =>
      refine iteT ?_
      have f1 := num_fit hm
      have f2 := num_fit hl
      have h1 : (Str.empty ++ ("no whole number from " : Str)).length ≤ 100 := by decide +kernel
      have h2 : ((" to " : Str)).length ≤ 100 := by decide +kernel
      refine ⟨_, rfl, by decide +kernel, _, rfl, .inr ⟨l, rfl, f2.2, _, rfl, ?_, _, rfl, ?_, _, rfl, .inr ⟨m, rfl, f1.2, _, rfl, ?_, qe hn⟩⟩⟩
      · rw [PySem.Str.length_append]
        refine sz ?_
        have := f2.1
        omega
      · rw [PySem.Str.length_append, PySem.Str.length_append]
        refine sz ?_
        have := f2.1
        omega
      · rw [PySem.Str.length_append, PySem.Str.length_append, PySem.Str.length_append]
        refine sz ?_
        have := f2.1
        have := f1.1
        omega
theorem cal_chNumX (er : Err K mg "NoCount" CC) (D : DefV K mg "check_number" sChNum ["value", "most", "least"] (.int 0)) (C : Cal K mg CX0 P w base 1 "is_number" [] spIsNumL) : Cal K mg (L2.CX P w) P w base 2 "check_number" [] (spChNumL CC) ∧ Cal K mg (L2.CX P w) P w base 2 "check_number" [.int 0] (spChNumX CC) := by
  obtain ⟨C1, C2⟩ := cal_chNumL (P := P) (w := w) (base := base) er D C
  refine ⟨C1, C2.imp fun vs H Q E ⟨v, m, e, hv, hm, q, qe⟩ => ⟨v, m, 0, e, hv, ?_, by omega, q, qe⟩⟩
  omega
end
end Hr
/-! ### rows as texts -/
namespace Hr
open PySem PySem.Spec PyProof.Rows L2
def code (b : Bool) : Nat := if b = true then 117 else 100
def txt (l : List Bool) : Str := ⟨(l.map code).toArray⟩
def sgn (b : Bool) : Str := ⟨#[code b]⟩
theorem txt_len (l : List Bool) : (txt l).length = l.length := by
  show ((l.map code).toArray).size = _
  rw [List.size_toArray, List.length_map]
theorem txt_size (l : List Bool) : (txt l).cps.size = l.length := txt_len l
theorem txt_at (l : List Bool) (i : Nat) : (txt l).cps[i]? = (l[i]?).map code := by
  show ((l.map code).toArray)[i]? = _
  rw [List.getElem?_toArray, List.getElem?_map]
theorem code_inj {a b : Bool} (h : code a = code b) : a = b := by
  cases a <;> cases b <;> first | rfl | (exact absurd h (by decide))
theorem map_code_inj : ∀ {a b : List Bool}, a.map code = b.map code → a = b
  | [], [], _ => rfl
  | [], _ :: _, e => by cases e
  | _ :: _, [], e => by cases e
  | x :: a, y :: b, e => by
    rw [List.map_cons, List.map_cons] at e
    injection e with e1 e2
    rw [code_inj e1, map_code_inj e2]
theorem txt_inj {a b : List Bool} (h : txt a = txt b) : a = b := by
  have := congrArg (fun z : Str => z.cps.toList) h
  exact map_code_inj (by simpa [txt] using this)
theorem txt_append (a b : List Bool) : txt a ++ txt b = txt (a ++ b) := by
  have := SX.S_cat (a.map code) (b.map code)
  rw [← List.map_append] at this
  exact this
theorem eU : ("u" : Str) = ⟨#[117]⟩ := by decide +kernel
theorem eD : ("d" : Str) = ⟨#[100]⟩ := by decide +kernel
theorem eE : ("" : Str) = ⟨#[]⟩ := by decide +kernel
theorem sgn_u : sgn true = ("u" : Str) := eU.symm
theorem sgn_d : sgn false = ("d" : Str) := eD.symm
theorem one_inj {a b : Nat} : ((⟨#[a]⟩ : Str) = ⟨#[b]⟩) ↔ a = b := by
  constructor
  · intro h
    have := congrArg (fun z : Str => z.cps.toList) h
    simpa using this
  · intro h
    rw [h]
theorem is_u (c : Nat) : decide (V.str ⟨#[c]⟩ = V.str ("u" : Str)) = decide (c = 117) := by
  refine decide_eq_decide.mpr ?_
  rw [eU]
  exact ⟨fun z => one_inj.mp (V.str.inj z), fun z => by rw [z]⟩
theorem code_u (b : Bool) : decide (code b = 117) = b := by cases b <;> rfl
/-- a text of ups and downs alone -/
def isS (c : Nat) : Bool := decide (c = 117) || decide (c = 100)
def isRowB (z : Str) : Bool := z.cps.toList.all isS
theorem isRowB_txt (l : List Bool) : isRowB (txt l) = true := by
  show (l.map code).toArray.toList.all isS = true
  rw [List.all_eq_true]
  intro c hc
  have hc : c ∈ l.map code := hc
  obtain ⟨b, _, rfl⟩ := List.mem_map.mp hc
  cases b <;> rfl
/-- the signs of a text -/
def signs (z : Str) : List Bool := z.cps.toList.map fun c => decide (c = 117)
theorem signs_txt (l : List Bool) : signs (txt l) = l := by
  show (l.map code).map _ = l
  rw [List.map_map]
  refine (List.map_congr_left fun b _ => ?_).trans (List.map_id l)
  exact code_u b
theorem txt_signs {z : Str} (h : isRowB z = true) : txt (signs z) = z := by
  obtain ⟨⟨l⟩⟩ := z
  have h : l.all isS = true := h
  show (⟨((l.map fun c => decide (c = 117)).map code).toArray⟩ : Str) = ⟨l.toArray⟩
  congr 2
  rw [List.map_map]
  refine (List.map_congr_left fun c hc => ?_).trans (List.map_id l)
  have := List.all_eq_true.mp h c hc
  unfold isS at this
  show code (decide (c = 117)) = c
  by_cases e : c = 117
  · rw [e]
    rfl
  · have e2 : c = 100 := by simpa [e] using this
    rw [e2]
    rfl
theorem signs_len (z : Str) : (signs z).length = z.length := by
  unfold signs
  rw [List.length_map, Array.length_toList]
  rfl
/-- whether a text is a hill row under a ceiling -/
def hillB (c : Option Nat) (z : Str) : Bool := isRowB z && okb c 0 (signs z)
theorem hillB_txt (c : Option Nat) (l : List Bool) : hillB c (txt l) = okb c 0 l := by
  unfold hillB
  rw [isRowB_txt, signs_txt, Bool.true_and]
theorem in_signs (c : Nat) : inV (.str ⟨#[c]⟩) [.str "u", .str "d"] = isS c := by
  have e : ∀ (k : Nat), ((⟨#[k]⟩ : Str) == ⟨#[c]⟩) = decide (c = k) := fun k => by
    by_cases h : c = k
    · rw [h]
      simp
    · rw [decide_eq_false h]
      refine beq_eq_false_iff_ne.mpr fun z => h (one_inj.mp z).symm
  show (("u" : Str) == ⟨#[c]⟩ || (("d" : Str) == ⟨#[c]⟩ || false)) = _
  rw [eU, eD, e, e, Bool.or_false]
  rfl
theorem take_snoc {α : Type} {l : List α} {i : Nat} {x : α} (h : l[i]? = some x) : l.take (i + 1) = l.take i ++ [x] := by
  rw [List.take_add_one, h]
  rfl
theorem scIsRow : FnScope ["text", "sign"] ["text"] (defScope sIsRow) := ⟨rfl, rfl, rfl, by decide +kernel, rfl, by decide +kernel, by decide +kernel⟩
theorem scHeights : FnScope ["row", "height", "found", "sign"] ["row"] (defScope sHeights) := ⟨rfl, rfl, rfl, by decide +kernel, rfl, by decide +kernel, by decide +kernel⟩
theorem scIsHill : FnScope ["row", "ceiling", "found"] ["row", "ceiling"] (defScope sIsHill) := ⟨rfl, rfl, rfl, by decide +kernel, rfl, by decide +kernel, by decide +kernel⟩
section
variable {P : Program} {w : World} {K : PySem.W.Frag} {mg : Str → Option Value} {base : Heap}
def spIsRow : Sp := fun vs H Q _ => ∃ (z : Str), vs = [.str z] ∧ z.length ≤ 1000 ∧ ∀ H', Same H H' → Q (.bl (isRowB z)) H'
theorem cal_isRow (D : Def K mg "is_row" sIsRow ["text"]) (misi : mg "isinstance" = none) (mstr : mg "str" = none) (mall : mg "all" = none) {t1 t2 : Tok} (gU : mg "UP" = some (.str "u" t1)) (gD : mg "DOWN" = some (.str "d" t2)) : Cal K mg CX0 P w base 1 "is_row" [] spIsRow := by
  refine D.cal scIsRow (fun vs H Q E h => ?_) (fun f cdv A outer s H vs Q E hr h => ?_)
  · obtain ⟨z, rfl, _⟩ := h
    rfl
  · obtain ⟨z, rfl, hz, q⟩ := h
    refine ⟨_, pss_one (ps_ret (pe_and (pe_callB call_isi (by rfl) misi (by decide +kernel) (pa_cons (pv 0) (pa_cons (pe_bltn (v := .ty "str") (u := .type "str") (by rfl) mstr (by decide +kernel) rfl) pa_nil)))
      (pe_one (pe_callB (cr_all rfl) (by rfl) mall (by decide +kernel) (pa_cons (pe_lc (own := [("sign", 1)]) (g := gName 1) (tt := tYes) rfl scIsRow.nd (pi_str (pv 0))
        (blkOk_by (N := ["text", "sign"]) (sc := defScope sIsRow) (by decide +kernel)) (fun _ _ _ _ _ => pg_name (i := 1) scIsRow.nd rfl (Or.inl rfl)) (fun _ _ _ _ _ => pts_nil)
        (fun _ _ _ _ _ => pe_cmpR (r := rIn K false) op_in_seq (pv 1) (pe_tup (pa_cons (pe_glob (v := .str "u") (by rfl) gU ⟨_, rfl⟩) (pa_cons (pe_glob (v := .str "d") (by rfl) gD ⟨_, rfl⟩) pa_nil))) (by rfl))) pa_nil))))), ?_⟩
    refine ⟨.str z, rfl, .str z, .ty "str", _, _, true, rfl, .ty "str", .base (.str z), kit_ty (by decide +kernel), true, rfl, iteT ?_⟩
    refine ⟨.str z, rfl, z, rfl, fun D nD => ?_⟩
    refine lc_it walk_str (fun i H' => Same H H' ∧ H' D = some (.lst (((z.cps.toList.take i).map isS).map V.bl))) ⟨same_upd nD, upd_same⟩ (fun _ _ _ _ => trivial) ?_ ?_
    · rintro i x H1 H2 hi ⟨sm, eD⟩ ⟨rfl, c, hc, rfl⟩
      have hc' : z.cps.toList[i]? = some c := by rw [Array.getElem?_toList]; exact hc
      refine ⟨rfl, ?_⟩
      unfold tYes
      refine iteT ?_
      refine ⟨_, rfl, sz (show 2 ≤ 1000000 by decide), fun t nt => ?_⟩
      have nDt : D ≠ t := ne_of_none eD nt
      refine ⟨t, _, rfl, .inr (.inl (.inl upd_same)), rfl, rfl, _, by rw [upd_ne nDt]; exact eD, szl ?_, same_updN (sm.trans (same_upd nt)) nD, ?_⟩
      · rw [List.length_map, List.length_map, List.length_take]
        have : z.cps.toList.length = z.length := rfl
        omega
      · rw [upd_same, take_snoc hc', List.map_append, List.map_append]
        show some (HO.lst (_ ++ [V.bl (inV (.str ⟨#[c]⟩) [.str "u", .str "d"])])) = _
        rw [in_signs]
        rfl
    · rintro H1 ⟨sm, eD⟩
      refine ⟨D, _, rfl, .inl (.inl eD), ?_⟩
      have e : (((z.cps.toList.take z.cps.size).map isS).all id) = isRowB z := by
        rw [List.take_of_length_le (by rw [Array.length_toList]; exact Nat.le_refl _), List.all_map]
        rfl
      rw [e]
      exact q H1 sm
end
end Hr
namespace Hr
open PySem PySem.Spec PyProof.Rows L2
section
variable {P : Program} {w : World} {K : PySem.W.Frag} {mg : Str → Option Value} {base : Heap}
def spHeightsX (CN : Addr) : Sp := fun vs H Q E => ∃ (z : Str), vs = [.str z] ∧ z.length ≤ 1000 ∧ (isRowB z = true → ∀ H' p, Same H H' → H p = none → H' p = some (.lst ((hts 0 (signs z)).map V.int)) → Q (.ref p) H') ∧ (isRowB z = false → ∀ H', Same H H' → E (.ref CN) none H')
theorem cal_heightsX {CN : Addr} (er : Err K mg "NoRow" CN) (D : Def K mg "heights" sHeights ["row"]) (C : Cal K mg CX0 P w base 1 "is_row" [] spIsRow) {t1 : Tok} (gU : mg "UP" = some (.str "u" t1)) : Cal K mg (L2.CX P w) P w base 2 "heights" [] (spHeightsX CN) := by
  refine D.calX scHeights (fun vs H Q E h => ?_) (fun f cdv A outer s H vs Q E hr h => ?_)
  · obtain ⟨z, rfl, _⟩ := h
    rfl
  · obtain ⟨z, rfl, hz, q, qe⟩ := h
    have nd := scHeights.nd
    refine ⟨_, pss_cons (ps_if (pt_not (pt_val (pe_c C hr (pa_cons (pv 0) pa_nil)))) (pss_one (ps_raise rfl (takes_of rfl rfl rfl rfl) (pmk_own PySem.F.excBase_ValueError er.x er.g er.k (raises_own er.b er.t) rfl))) pss_nil)
      (pss_cons (ps_set (i := 1) nd rfl (.inl rfl) pe_int)
      (pss_cons (ps_set (i := 2) nd rfl (.inl rfl) (pe_lst (pa_cons (pv 1) pa_nil)))
      (pss_cons (ps_for PassesOwn.leaving rfl (pi_str (pv 0)) (pg_name (i := 3) nd rfl (.inl rfl))
        (pss_cons (ps_aug (i := 1) nd rfl (.inl rfl) (pe_ifExp (pt_cmpR op_eq (pv 3) (pe_glob (v := .str "u") (by rfl) gU ⟨_, rfl⟩) (nomark _)) pe_int (pe_un un_neg pe_int)) ip_add)
        (pss_one (ps_expr (pe_bm PySem.F.plainAttrs_list PySem.F.slot_list_append PySem.F.type_list_append mt_append (pv 2) (pa_cons (pv 1) pa_nil))))))
      (pss_one (ps_ret (pv 2)))))), ?_⟩
    refine ⟨.str z, rfl, z, rfl, hz, fun H1 s1 => ⟨isRowB z, rfl, ?_⟩⟩
    by_cases hrow : isRowB z = true
    rotate_left
    · have hrow : isRowB z = false := by simpa using hrow
      rw [hrow]
      refine iteT ?_
      exact qe hrow H1 s1
    rw [hrow]
    refine iteF ?_
    obtain ⟨l, rfl⟩ : ∃ l, z = txt l := ⟨signs z, (txt_signs hrow).symm⟩
    rw [txt_len] at hz
    have hl := hz
    have q := q hrow
    rw [signs_txt] at q
    refine ⟨.int 0, rfl, sz (show 1 ≤ 1000000 by decide), fun o no => ?_⟩
    have n0 : H o = none := s1.free no
    refine ⟨.str (txt l), rfl, txt l, rfl, ?_⟩
    refine for_it walk_str (fun i σ H' => ∃ y, σ = [some (.str (txt l)), some (.int ((l.take i).map sg).sum), some (.ref o), y] ∧ Same H H' ∧ H' o = some (.lst ((hts 0 (l.take i)).map V.int))) ?_ (fun _ _ _ _ _ => trivial) ?_ ?_
    · exact ⟨none, rfl, same_updN s1 n0, upd_same⟩
    · rintro i x σ H2 H3 hi ⟨y, rfl, sm, eo⟩ ⟨rfl, c, hc, rfl⟩
      rw [txt_at] at hc
      obtain ⟨b, hb, rfl⟩ := Option.map_eq_some_iff.mp hc
      have e1 : ((l.take (i + 1)).map sg).sum = ((l.take i).map sg).sum + sg b := by
        rw [take_snoc hb, List.map_append, List.sum_append]
        show _ + (sg b + 0) = _
        omega
      have e2 : hts 0 (l.take (i + 1)) = hts 0 (l.take i) ++ [((l.take (i + 1)).map sg).sum] := by
        rw [e1, take_snoc hb, hts_snoc, Int.zero_add]
      have hlen : ((hts 0 (l.take i)).map V.int).length < sizeLine := szl (by rw [List.length_map, hts_len, List.length_take]; omega)
      refine ⟨_, rfl, .str ⟨#[code b]⟩, rfl, rfl, decide (code b = 117), congrArg V.bl (is_u _), ?_⟩
      rw [code_u]
      cases b with
      | true =>
        refine iteT ?_
        refine ⟨_, 1, rfl, rfl, .ref o, rfl, .inl ⟨rfl, _, .inl (.inl eo)⟩, _, rfl, o, _, _, rfl, rfl, eo, hlen, some (.str ⟨#[code true]⟩), ?_, same_updN sm n0, ?_⟩
        · rw [e1]
          rfl
        · rw [upd_same, e2, e1, List.map_append]
          rfl
      | false =>
        refine iteF ?_
        refine ⟨1, rfl, _, -1, rfl, rfl, .ref o, rfl, .inl ⟨rfl, _, .inl (.inl eo)⟩, _, rfl, o, _, _, rfl, rfl, eo, hlen, some (.str ⟨#[code false]⟩), ?_, same_updN sm n0, ?_⟩
        · rw [e1]
          rfl
        · rw [upd_same, e2, e1, List.map_append]
          rfl
    · rintro σ H2 ⟨y, rfl, sm, eo⟩
      rw [txt_size, List.take_length] at eo
      exact ⟨.ref o, rfl, q H2 o sm n0 eo⟩
def spIsHill : Sp := fun vs H Q _ => ∃ (z : Str) (c : Option Nat), vs = [.str z, cV c] ∧ z.length ≤ 1000 ∧ ∀ H', Same H H' → Q (.bl (hillB c z)) H'
theorem cal_isHill {CN : Addr} (D : DefD K mg "is_hill" sIsHill ["row", "ceiling"]) (C : Cal K mg CX0 P w base 1 "is_row" [] spIsRow) (C2 : Cal K mg (L2.CX P w) P w base 2 "heights" [] (spHeightsX CN)) (mmin : mg "min" = none) (mmax : mg "max" = none) :
    Cal K mg CX0 P w base 3 "is_hill" [] spIsHill ∧ Cal K mg CX0 P w base 3 "is_hill" [.non] spIsHill := by
  refine D.ok scIsHill (fun vs H Q E h => ?_) (fun f cdv A outer s H vs Q E hr h => ?_)
  · obtain ⟨z, c, rfl, _⟩ := h
    rfl
  · obtain ⟨z, c, rfl, hz, q⟩ := h
    have nd := scIsHill.nd
    refine ⟨_, pss_cons (ps_if (pt_not (pt_val (pe_c C hr (pa_cons (pv 0) pa_nil)))) (pss_one (ps_ret pe_bl)) pss_nil)
      (pss_cons (ps_set (i := 2) nd rfl (.inl rfl) (pe_cL C2 hr (pa_cons (pv 0) pa_nil)))
      (pss_cons (ps_if (PW.pt (pw_or (pt_cmpR op_ne (pe_ix ix_list (pv 2) (pe_un un_neg pe_int) (fun _ _ => rfl)) pe_int (nomark _)) (pw_or1 (pt_cmpR op_lt (pe_callB (cr_min rfl) (by rfl) mmin boot_min (pa_cons (pv 2) pa_nil)) pe_int (nomark _))))) (pss_one (ps_ret pe_bl)) pss_nil)
      (pss_one (ps_ret (pe_or (pe_cmp (pc_isN (pv 1))) (pe_one (pe_cmpR op_le (pe_callB (cr_max rfl) (by rfl) mmax boot_max (pa_cons (pv 2) pa_nil)) (pv 1) (nomark _)))))))), ?_⟩
    refine ⟨.str z, rfl, z, rfl, hz, fun H1 s1 => ⟨isRowB z, rfl, ?_⟩⟩
    by_cases hrow : isRowB z = true
    · rw [hrow]
      refine iteF ?_
      obtain ⟨l, rfl⟩ : ∃ l, z = txt l := ⟨signs z, (txt_signs hrow).symm⟩
      rw [txt_len] at hz
      refine ⟨.str (txt l), rfl, txt l, rfl, by rw [txt_len]; exact hz, fun _ H2 p s2 np ep => ?_, fun z => absurd (z.symm.trans (isRowB_txt l)) (by decide)⟩
      rw [signs_txt] at ep
      have hS : SqL K H2 p ((hts 0 l).map V.int) := .inl (.inl ep)
      have hne : 0 < (hts 0 l).length := by rw [hts_len]; omega
      have hlast : (hts 0 l).map V.int = ((hts 0 l).dropLast).map V.int ++ [.int (l.map sg).sum] := by
        conv => lhs; rw [hts_last l 0]
        rw [List.map_append, Int.zero_add]
        rfl
      have iff := okb_iff c l 0 (fun k _ => Nat.zero_le _)
      have qq : ∀ b : Bool, (b = true ↔ okb c 0 l = true) → ∀ H', Same H H' → Q (.bl b) H' := fun b hb H' sm => by
        have := q H' sm
        rw [hillB_txt] at this
        have e : b = okb c 0 l := Bool.eq_iff_iff.mpr hb
        rw [e]
        exact this
      have sm := s1.trans s2
      refine ⟨.ref p, rfl, 1, rfl, p, _, -1, .int (l.map sg).sum, rfl, rfl, hS, by rw [hlast]; exact atI_last _ _, rfl, _, rfl, ite2 (fun e => ?_) (fun e => ?_)⟩
      · refine iteT ?_
        refine qq false ⟨fun z => (nomatch z), fun z => ?_⟩ H2 sm
        have := (iff.mp z).1
        have e' : ¬ (V.int (l.map sg).sum = V.int 0) := by simpa using e
        exact absurd (congrArg V.int (by have : ((0 : Nat) : Int) + (l.map sg).sum = 0 := this; omega)) e'
      · have e0 : (l.map sg).sum = 0 := by
          have : V.int (l.map sg).sum = V.int 0 := by simpa using e
          exact V.int.inj this
        refine ⟨.ref p, rfl, p, hts 0 l, rfl, hS, hne, fun m hm hmin => ⟨_, _, rfl, rfl, _, rfl, ite2 (fun g => ?_) (fun g => ?_)⟩⟩
        · have g0 : m < 0 := of_decide_eq_true g
          refine qq false ⟨fun z => (nomatch z), fun z => ?_⟩ H2 sm
          have := (iff.mp z).2.1 m hm
          omega
        · have g0 : ¬ m < 0 := fun z => g (decide_eq_true z)
          have hpos : ∀ x ∈ hts 0 l, 0 ≤ x := fun x hx => by
            have := hmin x hx
            omega
          cases c with
          | none =>
            refine ⟨.non, rfl, true, rfl, iteT ?_⟩
            refine qq true ⟨fun _ => iff.mpr ⟨by show ((0 : Nat) : Int) + _ = 0; omega, hpos, fun k z => by cases z⟩, fun _ => rfl⟩ H2 sm
          | some k =>
            refine ⟨.int (k : Int), rfl, false, rfl, iteF ?_⟩
            refine ⟨.ref p, rfl, p, hts 0 l, rfl, hS, hne, fun M hM hmax => ⟨.int (k : Int), rfl, M, (k : Int), rfl, rfl, ?_⟩⟩
            refine qq (decide (M ≤ (k : Int))) ⟨fun z => ?_, fun z => ?_⟩ H2 sm
            · have hk := of_decide_eq_true z
              refine iff.mpr ⟨by show ((0 : Nat) : Int) + _ = 0; omega, hpos, fun k' z' x hx => ?_⟩
              cases z'
              have := hmax x hx
              omega
            · exact decide_eq_true ((iff.mp z).2.2 k rfl M hM)
    · have hrow' : isRowB z = false := by simpa using hrow
      rw [hrow']
      refine iteT ?_
      have e : hillB c z = false := by
        unfold hillB
        rw [hrow', Bool.false_and]
      have := q H1 s1
      rw [e] at this
      exact this
end
end Hr
namespace Hr
open PySem PySem.Spec PyProof.Rows L2
theorem scChHill : FnScope ["row", "ceiling"] ["row", "ceiling"] (defScope sChHill) := ⟨rfl, rfl, rfl, by decide +kernel, rfl, by decide +kernel, by decide +kernel⟩
section
variable {P : Program} {w : World} {K : PySem.W.Frag} {mg : Str → Option Value} {base : Heap} {CC CN CR CP : Addr}
def spChHillX (CN : Addr) : Sp := fun vs H Q E => ∃ (z : Str) (c : Option Nat), vs = [.str z, cV c] ∧ z.length ≤ 1000 ∧ (hillB c z = true → ∀ H', Same H H' → Q .non H') ∧ (hillB c z = false → ∀ H', Same H H' → E (.ref CN) none H')
theorem cal_chHillX (er : Err K mg "NoRow" CN) (D : DefD K mg "check_hill" sChHill ["row", "ceiling"]) (C : Cal K mg CX0 P w base 3 "is_hill" [] spIsHill) : Cal K mg (L2.CX P w) P w base 4 "check_hill" [] (spChHillX CN) ∧ Cal K mg (L2.CX P w) P w base 4 "check_hill" [.non] (spChHillX CN) := by
  refine D.okX scChHill (fun vs H Q E h => ?_) (fun f cdv A outer s H vs Q E hr h => ?_)
  · obtain ⟨l, c, rfl, _⟩ := h
    rfl
  · obtain ⟨z, c, rfl, hz, q, qe⟩ := h
    refine ⟨_, pss_one (ps_if (pt_not (pt_val (pe_c C hr (pa_cons (pv 0) (pa_cons (pv 1) pa_nil))))) (pss_one (ps_raise rfl (takes_of rfl rfl rfl rfl) (pmk_own PySem.F.excBase_ValueError er.x er.g er.k (raises_own er.b er.t) rfl))) pss_nil), ?_⟩
    refine ⟨.str z, rfl, cV c, rfl, z, c, rfl, hz, fun H' sm => ⟨hillB c z, rfl, ?_⟩⟩
    cases hh : hillB c z with
    | true =>
      refine iteF ?_
      exact q hh H' sm
    | false =>
      refine iteT ?_
      exact qe hh H' sm
end
end Hr
/-! ### cut texts -/
namespace Hr
open PySem PySem.Spec PyProof.Rows L2
theorem cutS_from {l : List Bool} {k : Nat} (h : k ≤ l.length) : cutS (txt l) (some (k : Int)) none = txt (l.drop k) := by
  unfold cutS
  rw [txt_len, HT.sIx_nat, Nat.min_eq_left h]
  show (⟨(((l.map code).drop k).take (l.length - k)).toArray⟩ : Str) = _
  rw [List.take_of_length_le (by rw [List.length_drop, List.length_map]; exact Nat.le_refl _), ← List.map_drop]
  rfl
theorem cutS_to {l : List Bool} {k : Nat} (h : k ≤ l.length) : cutS (txt l) none (some (k : Int)) = txt (l.take k) := by
  unfold cutS
  rw [txt_len, HT.sIx_nat, Nat.min_eq_left h]
  show (⟨(((l.map code).drop 0).take (k - 0)).toArray⟩ : Str) = _
  rw [List.drop_zero, Nat.sub_zero, ← List.map_take]
  rfl
theorem is_d (b : Bool) : decide (V.str ⟨#[code b]⟩ = V.str ("d" : Str)) = !b := by
  cases b
  · exact decide_eq_true (by rw [eD]; rfl)
  · refine decide_eq_false fun z => ?_
    rw [eD] at z
    exact absurd (one_inj.mp (V.str.inj z)) (by decide)
theorem cutS_mid {l : List Bool} {a b : Nat} (ha : a ≤ b) (hb : b ≤ l.length) : cutS (txt l) (some (a : Int)) (some (b : Int)) = txt ((l.drop a).take (b - a)) := by
  unfold cutS
  rw [txt_len, HT.sIx_nat, HT.sIx_nat, Nat.min_eq_left hb, Nat.min_eq_left (Nat.le_trans ha hb)]
  show (⟨(((l.map code).drop a).take (b - a)).toArray⟩ : Str) = _
  rw [← List.map_drop, ← List.map_take]
  rfl
/-- text[1:-1] -/
theorem cutS_in (x y : Bool) (l : List Bool) : cutS (txt (x :: (l ++ [y]))) (some 1) (some (-1)) = txt l := by
  unfold cutS
  have e1 : (txt (x :: (l ++ [y]))).length = l.length + 2 := by
    rw [txt_len, List.length_cons, List.length_append]
    rfl
  have e2 : HT.sIx (l.length + 2) 0 (some 1) = 1 := by
    rw [show (1 : Int) = ((1 : Nat) : Int) from rfl, HT.sIx_nat]
    omega
  have e3 : HT.sIx (l.length + 2) (l.length + 2) (some (-1)) = l.length + 1 := by
    show (if (-1 : Int) < 0 then ((-1 : Int) + ((l.length + 2 : Nat) : Int)).toNat else min (-1 : Int).toNat (l.length + 2)) = _
    rw [if_pos (by decide)]
    omega
  rw [e1, e2, e3]
  show (⟨((((x :: (l ++ [y])).map code).drop 1).take (l.length + 1 - 1)).toArray⟩ : Str) = _
  rw [← List.map_drop, ← List.map_take, List.drop_succ_cons, List.drop_zero, Nat.add_sub_cancel, List.take_left']
  · rfl
  · rfl
end Hr
namespace Hr
open PySem PySem.Spec PyProof.Rows L2
theorem sgn_sum : ∀ l : List Bool, ((l.map sgn).map (·.length)).sum = l.length
  | [] => rfl
  | b :: r => by
    rw [List.map_cons, List.map_cons, List.sum_cons, sgn_sum r, List.length_cons]
    show 1 + _ = _
    omega
theorem join_signs (l : List Bool) : Txt.join ("" : Str) (l.map sgn) = txt l := by
  have h := SX.join_S [] (l.map fun b => [code b])
  have e1 : (l.map fun b => [code b]).map SX.S = l.map sgn := by
    rw [List.map_map]
    rfl
  rw [e1] at h
  have e2 : ∀ l : List Bool, TL.joinL [] (l.map fun b => [code b]) = l.map code := by
    intro l
    induction l with
    | nil => rfl
    | cons b l ih =>
      cases l with
      | nil => rfl
      | cons b2 l =>
        show [code b] ++ ([] ++ TL.joinL [] ((b2 :: l).map fun b => [code b])) = _
        rw [ih]
        rfl
  rw [e2] at h
  rw [eE]
  exact h
end Hr
/-! ### lists as data -/
namespace Hr
open PySem PySem.Spec PyProof.Rows L2
section
variable {K : PySem.W.Frag} {H : Hp}
theorem dp_ints : ∀ ns : List Int, DpAll K H (ns.map V.int) (ns.map PyData.int)
  | [] => .nil
  | n :: r => .cons (.int n) (dp_ints r)
theorem dp_strs : ∀ xs : List Str, DpAll K H (xs.map V.str) (xs.map PyData.str)
  | [] => .nil
  | x :: r => .cons (.str x) (dp_strs r)
end
theorem lay_ints : ∀ ns : List Int, PyData.canLayAll0 (ns.map PyData.int) = true
  | [] => rfl
  | n :: r => by
    show (true && PyData.canLayAll0 (r.map PyData.int)) = true
    rw [lay_ints r]
    rfl
theorem dep_ints : ∀ ns : List Int, PyData.depthAll (ns.map PyData.int) = 0
  | [] => rfl
  | n :: r => by
    show max 0 (PyData.depthAll (r.map PyData.int)) = 0
    rw [dep_ints r]
    rfl
theorem lay_txts : ∀ ls : List (List Bool), PyData.canLayAll0 ((ls.map txt).map PyData.str) = true
  | [] => rfl
  | l :: r => by
    show (PyData.strOk (txt l) && PyData.canLayAll0 ((r.map txt).map PyData.str)) = true
    rw [lay_txts r, Bool.and_true]
    show (l.map code).toArray.all (· < 0x110000) = true
    rw [List.all_toArray, List.all_eq_true]
    intro c hc
    obtain ⟨b, _, rfl⟩ := List.mem_map.mp hc
    cases b <;> rfl
theorem dep_strs : ∀ xs : List Str, PyData.depthAll (xs.map PyData.str) = 0
  | [] => rfl
  | n :: r => by
    show max 0 (PyData.depthAll (r.map PyData.str)) = 0
    rw [dep_strs r]
    rfl
theorem sh_ints (ns : List Int) : SeqAt.shaped (.list (ns.map PyData.int)) = true := by
  show (PyData.canLayAll0 (ns.map PyData.int) && decide (PyData.depthAll (ns.map PyData.int) + 1 ≤ 64)) = true
  rw [lay_ints, dep_ints]
  rfl
theorem sh_txts (ls : List (List Bool)) : SeqAt.shaped (.list ((ls.map txt).map PyData.str)) = true := by
  show (PyData.canLayAll0 ((ls.map txt).map PyData.str) && decide (PyData.depthAll ((ls.map txt).map PyData.str) + 1 ≤ 64)) = true
  rw [lay_txts, dep_strs]
  rfl
end Hr
/-! ### how often a sign stands in a text; a sign so many times -/
namespace Hr
open PySem PySem.Spec PyProof.Rows L2
open PySem.Builtin PySem.Builtin.Str in
theorem occ_run (x : Str) (c : Nat) : ∀ (m a : Nat) (acc : Array Nat) (free : Nat), a + m = x.length + 1 → free ≤ a → acc.size ≤ a →
    (forIn (List.range' a m) (acc, free) (StrLaws.occBody x ⟨#[c]⟩ x.length (x.length + 1))).run.fst.size = acc.size + ((x.cps.toList.drop a).filter fun k => k == c).length
  | 0, a, acc, free, e, _, _ => by
    have : x.cps.toList.drop a = [] := List.drop_eq_nil_of_le (by
      have : x.cps.toList.length = x.length := rfl
      omega)
    rw [this]
    rfl
  | m + 1, a, acc, free, e, hf, hs => by
    rw [List.range'_succ, List.forIn_cons]
    unfold StrLaws.occBody
    by_cases hc : x.cps.toList[a]? = some c
    · obtain ⟨h1, h2⟩ := (StrLaws.subAt_one x c a).mpr hc
      rw [if_pos ⟨⟨⟨(show acc.size < x.length + 1 by omega), hf⟩, h1⟩, h2⟩]
      have ih := occ_run x c m (a + 1) (acc.push a) (a + (⟨#[c]⟩ : Str).length) (by omega) (Nat.le_refl _) (by rw [Array.size_push]; omega)
      have hlt : a < x.cps.toList.length := (List.getElem?_eq_some_iff.mp hc).1
      rw [List.drop_eq_getElem_cons hlt, List.filter_cons_of_pos (by rw [(List.getElem?_eq_some_iff.mp hc).2]; simp), List.length_cons]
      rw [Array.size_push] at ih
      exact ih.trans (by omega)
    · rw [if_neg (fun z => hc ((StrLaws.subAt_one x c a).mp ⟨z.1.2, z.2⟩))]
      have ih := occ_run x c m (a + 1) acc free (by omega) (by omega) (by omega)
      have hd : ((x.cps.toList.drop a).filter fun k => k == c).length = ((x.cps.toList.drop (a + 1)).filter fun k => k == c).length := by
        by_cases hlt : a < x.cps.toList.length
        · rw [List.drop_eq_getElem_cons hlt, List.filter_cons_of_neg (by
            intro z
            have z : x.cps.toList[a] = c := by simpa using z
            exact hc (by rw [List.getElem?_eq_getElem hlt, z]))]
        · rw [List.drop_eq_nil_of_le (by omega), List.drop_eq_nil_of_le (by omega)]
      rw [hd]
      exact ih
theorem count_one (x : Str) (c : Nat) : Txt.count x ⟨#[c]⟩ = ((x.cps.toList.filter fun k => k == c).length : Nat) := by
  have h := occ_run x c (x.length + 1) 0 #[] 0 (by omega) (Nat.le_refl _) (Nat.le_refl _)
  show (((Builtin.Str.occurrences x ⟨#[c]⟩ 0 x.length (x.length + 1)).length : Nat) : Int) = _
  rw [StrLaws.occ_eq, Array.length_toList]
  rw [show x.length + 1 - 0 = x.length + 1 from rfl]
  have h2 : ((#[] : Array Nat).size + ((x.cps.toList.drop 0).filter fun k => k == c).length) = (x.cps.toList.filter fun k => k == c).length := by
    rw [List.drop_zero]
    exact Nat.zero_add _
  exact congrArg (fun n : Nat => (n : Int)) (h.trans h2)
theorem count_u (l : List Bool) : Txt.count (txt l) ("u" : Str) = ((l.filter id).length : Nat) := by
  rw [eU, count_one]
  show ((((l.map code).filter fun k => k == 117).length : Nat) : Int) = _
  rw [List.filter_map, List.length_map]
  congr 2
  refine List.filter_congr fun b _ => ?_
  cases b <;> rfl
theorem rep_txt (b : Bool) : ∀ k, (⟨(List.replicate k (sgn b).cps).foldl (· ++ ·) #[]⟩ : Str) = txt (List.replicate k b)
  | k => by
    have h : ∀ (k : Nat) (acc : Array Nat), (List.replicate k (sgn b).cps).foldl (· ++ ·) acc = acc ++ (List.replicate k (code b)).toArray := by
      intro k
      induction k with
      | zero => intro acc; simp
      | succ k ih =>
        intro acc
        rw [List.replicate_succ, List.foldl_cons, ih, List.replicate_succ]
        apply Array.ext'
        show (acc ++ #[code b] ++ (List.replicate k (code b)).toArray).toList = (acc ++ (code b :: List.replicate k (code b)).toArray).toList
        rw [Array.toList_append, Array.toList_append, Array.toList_append, List.append_assoc]
        rfl
    rw [h]
    unfold txt
    rw [List.map_replicate]
    simp
theorem op_mul_sgn {X : Cx} : OpR X (binaryOp .Mult) (fun x y H Q => ∃ (b : Bool) (k : Nat), x = .str (sgn b) ∧ y = .int (k : Int) ∧ k ≤ 1000 ∧ Q (.str (txt (List.replicate k b))) H) := by
  intro pins s σ H x y v u Q I rx ry h
  obtain ⟨b, k, rfl, rfl, hk, q⟩ := h
  obtain ⟨t, rfl⟩ := rx
  obtain ⟨t', rfl⟩ := ry
  have hz : ((sgn b).length : Int) = 1 := rfl
  refine PySem.P.mul_str ?_ (fun h1 _ => ?_) (fun h1 _ => ?_) ?_
  · rw [decide_eq_false (by omega), decide_eq_false (by omega)]
    rfl
  · rw [hz]
    have h3 : (1 : Int) ≤ (2 ^ 63 - 1) / (k : Int) := by
      refine (Int.le_ediv_iff_mul_le (by omega)).mpr ?_
      omega
    omega
  · rw [Int.toNat_natCast]
    show decide (sizeLine < 1 * k) = false
    exact decide_eq_false (by have := sz (show k ≤ 1000000 by omega); omega)
  · by_cases h1 : (k : Int) < 1
    · rw [if_pos h1]
      have e0 : k = 0 := by omega
      subst e0
      exact ⟨by decide, .str (txt []), H, I.tok _, ⟨_, rfl⟩, q⟩
    · rw [if_neg h1]
      by_cases h2 : ((k : Int) == 1 || (sgn b).length == 0) = true
      · rw [if_pos h2]
        have e1 : k = 1 := by
          have : (sgn b).length = 1 := rfl
          rw [this] at h2
          simp at h2
          omega
        subst e1
        exact ⟨.str (sgn b), H, I, ⟨_, rfl⟩, q⟩
      · rw [if_neg h2, Int.toNat_natCast, rep_txt]
        refine ⟨?_, .str (txt (List.replicate k b)), H, I.tok _, ⟨_, rfl⟩, q⟩
        rw [txt_len, List.length_replicate]
        exact sz (by omega)
end Hr
namespace Hr
open PySem PySem.Spec PyProof.Rows L2
/-- the eight classes by their numbers -/
def eight (c0 c1 c2 c3 c4 c5 c6 c7 : Addr) : Nat → Addr
  | 0 => c0 | 1 => c1 | 2 => c2 | 3 => c3 | 4 => c4 | 5 => c5 | 6 => c6 | _ => c7
theorem kit_eight {K : PySem.W.Frag} {t : Value} {k : Nat} {c0 c1 c2 c3 c4 c5 c6 c7 : Addr} (h0 : PySem.W.kitOne K t (.ref c0) = some (decide (0 = k))) (h1 : PySem.W.kitOne K t (.ref c1) = some (decide (1 = k))) (h2 : PySem.W.kitOne K t (.ref c2) = some (decide (2 = k)))
    (h3 : PySem.W.kitOne K t (.ref c3) = some (decide (3 = k))) (h4 : PySem.W.kitOne K t (.ref c4) = some (decide (4 = k))) (h5 : PySem.W.kitOne K t (.ref c5) = some (decide (5 = k))) (h6 : PySem.W.kitOne K t (.ref c6) = some (decide (6 = k))) (h7 : PySem.W.kitOne K t (.ref c7) = some (decide (7 = k))) :
    ∀ j, j < 8 → PySem.W.kitOne K t (.ref (eight c0 c1 c2 c3 c4 c5 c6 c7 j)) = some (decide (j = k))
  | 0, _ => h0 | 1, _ => h1 | 2, _ => h2 | 3, _ => h3 | 4, _ => h4 | 5, _ => h5 | 6, _ => h6 | 7, _ => h7
  | j + 8, h => absurd h (by omega)
end Hr
/-! ### rows that are none; lists and tuples as data -/
namespace Hr
open PySem PySem.Spec PyProof.Rows L2
theorem isRowB_append (a b : Str) : isRowB (a ++ b) = (isRowB a && isRowB b) := by
  show (a ++ b).cps.toList.all isS = _
  rw [show (a ++ b).cps.toList = a.cps.toList ++ b.cps.toList from TL.tl_append a b, List.all_append]
  rfl
theorem okb_any {c : Option Nat} : ∀ {l : List Bool} {h : Nat}, okb c h l = true → okb none h l = true
  | [], _, e => e
  | true :: l, h, e => by
    show (true && okb none (h + 1) l) = true
    rw [Bool.true_and]
    exact okb_any (okb_up e).2
  | false :: l, h, e => by
    obtain ⟨a, b⟩ := okb_down e
    show ((h != 0) && okb none (h - 1) l) = true
    rw [okb_any b, Bool.and_true]
    simpa using a
theorem hill_ext {l : List Bool} (h : okb none 0 l = true) (r : List Bool) : okb none 0 (l ++ r) = okb none 0 r := by
  have := okb_app (r := r) (h := 0) h
  rw [Nat.add_zero] at this
  exact this
theorem eu1 : ("u" : Str) = txt [true] := by decide +kernel
theorem ed1 : ("d" : Str) = txt [false] := by decide +kernel
theorem edu : ("du" : Str) = txt [false, true] := by decide +kernel
theorem eud : ("ud" : Str) = txt [true, false] := by decide +kernel
theorem enil : ("" : Str) = txt [] := by decide +kernel
theorem wrong_u {l : List Bool} (h : okb none 0 l = true) : hillB none (txt l ++ "u") = false := by
  rw [eu1, txt_append, hillB_txt, hill_ext h]
  rfl
theorem wrong_d (l : List Bool) : hillB none ("d" ++ txt l) = false := by
  rw [ed1, txt_append, hillB_txt]
  rfl
theorem wrong_ux (l : List Bool) : hillB none (txt l ++ "ux") = false := by
  unfold hillB
  rw [isRowB_append, show isRowB "ux" = false by decide +kernel, Bool.and_false, Bool.false_and]
theorem wrong_x (l : List Bool) : hillB none (txt l ++ "x") = false := by
  unfold hillB
  rw [isRowB_append, show isRowB "x" = false by decide +kernel, Bool.and_false, Bool.false_and]
theorem wrong_du {l : List Bool} (h : okb none 0 l = true) : hillB none (txt l ++ "du") = false := by
  rw [edu, txt_append, hillB_txt, hill_ext h]
  rfl
theorem row_hillB {l : List Bool} (h : okb none 0 l = true) : hillB none (txt l) = true := (hillB_txt none l).trans h
theorem cut_ints (ns : List Int) (lo hi : Option Int) : ∃ ms : List Int, cutV (ns.map V.int) lo hi = ms.map V.int ∧ ms.length ≤ ns.length := by
  refine ⟨(ns.drop (HT.sIx (ns.map V.int).length 0 lo)).take (HT.sIx (ns.map V.int).length (ns.map V.int).length hi - HT.sIx (ns.map V.int).length 0 lo), ?_, ?_⟩
  · unfold cutV
    rw [List.map_take, List.map_drop]
  · rw [List.length_take, List.length_drop]
    omega
theorem rev_ints (ns : List Int) : (ns.map V.int).reverse = ns.reverse.map V.int := (List.map_reverse ..).symm
theorem same_data {d : PyData} (h : SeqAt.shaped d = true) : PyData.eqv d d = true := SeqAt.eqv_refl d (SeqAt.canLay_of_shaped h)
theorem str_ok (l : List Bool) : PyData.strOk (txt l) = true := by
  show (l.map code).toArray.all (· < 0x110000) = true
  rw [List.all_toArray, List.all_eq_true]
  intro c hc
  obtain ⟨b, _, rfl⟩ := List.mem_map.mp hc
  cases b <;> rfl
theorem sh_pair (x y : List Bool) : SeqAt.shaped (.tuple [.str (txt x), .str (txt y)]) = true := by
  show ((PyData.strOk (txt x) && (PyData.strOk (txt y) && true)) && decide (max 0 (max 0 0) + 1 ≤ 64)) = true
  rw [str_ok, str_ok]
  rfl
theorem sh_nil : SeqAt.shaped (.list []) = true := by decide +kernel
end Hr
/-! ### the table of ways -/
namespace Hr
open PySem PySem.Spec PyProof.Rows L2
theorem scLow : FnScope ["height", "ceiling"] ["height", "ceiling"] (defScope sLow) := ⟨rfl, rfl, rfl, by decide +kernel, rfl, by decide +kernel, by decide +kernel⟩
theorem scChCei : FnScope ["ceiling"] ["ceiling"] (defScope sChCei) := ⟨rfl, rfl, rfl, by decide +kernel, rfl, by decide +kernel, by decide +kernel⟩
theorem scStep : FnScope ["found", "padded", "height"] ["found"] (defScope sStep) := ⟨rfl, rfl, rfl, by decide +kernel, rfl, by decide +kernel, by decide +kernel⟩
theorem scTable : FnScope ["left", "top", "table", "_"] ["left", "top"] (defScope sTable) := ⟨rfl, rfl, rfl, by decide +kernel, rfl, by decide +kernel, by decide +kernel⟩
theorem scHill : FnScope ["n", "ceiling"] ["n", "ceiling"] (defScope sHill) := ⟨rfl, rfl, rfl, by decide +kernel, rfl, by decide +kernel, by decide +kernel⟩
section
variable {P : Program} {w : World} {K : PySem.W.Frag} {mg : Str → Option Value} {base : Heap}
def spLow : Sp := fun vs H Q _ => ∃ (h : Nat) (c : Option Nat), vs = [.int (h : Int), cV c] ∧ Q (.int ((low h c : Nat) : Int)) H
theorem cal_low (D : Def K mg "lower_of" sLow ["height", "ceiling"]) (mmin : mg "min" = none) : Cal K mg CX0 P w base 1 "lower_of" [] spLow := by
  refine D.cal scLow (fun vs H Q E h => ?_) (fun f cdv A outer s H vs Q E hr h => ?_)
  · obtain ⟨h, c, rfl, _⟩ := h
    rfl
  · obtain ⟨h, c, rfl, q⟩ := h
    refine ⟨_, pss_one (ps_ret (pe_ifExp (pt_cmp (pc_isN (pv 1))) (pv 0) (pe_callB (call_min2 rfl) (by rfl) mmin boot_min (pa_cons (pv 0) (pa_cons (pv 1) pa_nil))))), ?_⟩
    cases c with
    | none => exact ⟨.non, rfl, true, rfl, iteT ⟨_, rfl, q⟩⟩
    | some k =>
      refine ⟨.int (k : Int), rfl, false, rfl, iteF ⟨_, rfl, _, rfl, _, _, rfl, ?_⟩⟩
      have e : (if (k : Int) < (h : Int) then (k : Int) else (h : Int)) = ((low h (some k) : Nat) : Int) := by
        show _ = ((min h k : Nat) : Int)
        split <;> omega
      rw [e]
      exact q
/-- one sign more -/
def spStep : Sp := fun vs H Q _ => ∃ (a : Addr) (T k : Nat), vs = [.ref a] ∧ H a = some (.lst ((rowW T k).map V.int)) ∧ T ≤ 1000 ∧
  ∀ H' p, Same H H' → H p = none → H' p = some (.lst ((rowW T (k + 1)).map V.int)) → Q (.ref p) H'
theorem cal_step (D : Def K mg "with_one_more_sign" sStep ["found"]) (mlen : mg "len" = none) (mrange : mg "range" = none) : Cal K mg CX0 P w base 1 "with_one_more_sign" [] spStep := by
  refine D.cal scStep (fun vs H Q E h => ?_) (fun f cdv A outer s H vs Q E hr h => ?_)
  · obtain ⟨a, T, k, rfl, _⟩ := h
    rfl
  · obtain ⟨a, T, k, rfl, ha, hT, q⟩ := h
    refine ⟨_, pss_cons (ps_set (i := 1) scStep.nd rfl (.inr rfl) (pe_op op_cat (pe_op op_cat (pe_lst (pa_cons pe_int pa_nil)) (pv 0)) (pe_lst (pa_cons pe_int pa_nil))))
      (pss_one (ps_ret (pe_lc (own := [("height", 2)]) (g := gName 2) (tt := tYes) rfl scStep.nd (pi_range1 (by rfl) mrange (pa_cons (pe_callB call_len_seq (by rfl) mlen PySem.boot_len (pa_cons (pv 0) pa_nil)) pa_nil))
        (blkOk_by (N := ["found", "padded", "height"]) (sc := defScope sStep) (by decide +kernel)) (fun _ _ _ _ _ => pg_name (i := 2) scStep.nd rfl (Or.inl rfl)) (fun _ _ _ _ _ => pts_nil)
        (fun _ _ _ _ _ => pe_op op_add (pe_ix (r := rIxL K) ix_list (pv 1) (pv 2) (fun _ _ => rfl)) (pe_ix (r := rIxL K) ix_list (pv 1) (pe_op op_add (pv 2) pe_int) (fun _ _ => rfl)))))), ?_⟩
    have hl : ((rowW T k).map V.int).length = T + 1 := by rw [List.length_map, rowW_len]
    refine ⟨sz (by decide), fun p1 n1 => ?_⟩
    have s1 := same_upd (o := .lst [.int 0]) n1
    refine ⟨.ref a, rfl, p1, a, _, _, rfl, rfl, upd_same, s1 _ _ ha, sz (by rw [hl]; show 1 + (T + 1) ≤ _; omega), fun p2 n2 => ?_⟩
    have s2 := s1.trans (same_upd (o := .lst ([.int 0] ++ (rowW T k).map V.int)) n2)
    refine ⟨sz (by decide), fun p3 n3 => ?_⟩
    have n23 : p2 ≠ p3 := ne_of_none upd_same n3
    have s3 := s2.trans (same_upd (o := .lst [.int 0]) n3)
    refine ⟨p2, p3, _, _, rfl, rfl, by rw [upd_ne n23]; exact upd_same, upd_same, sz (by rw [List.length_append, hl]; show 1 + (T + 1) + 1 ≤ _; omega), fun p4 n4 => ?_⟩
    have s4 := s3.trans (same_upd (o := .lst ([.int 0] ++ (rowW T k).map V.int ++ [.int 0])) n4)
    have ep : ([V.int 0] ++ (rowW T k).map V.int ++ [V.int 0]) = (padW (rowW T k)).map V.int := by
      unfold padW
      rw [List.map_cons, List.map_append]
      rfl
    -- the comprehension
    refine ⟨.ref a, rfl, a, _, rfl, .inl (.inl (.inl (s4 _ _ ha))), ((T + 1 : Nat) : Int), by rw [hl], by omega, by omega, fun D nD => ?_⟩
    have hp4 := s4
    have np4 : p4 ≠ D := ne_of_none (upd_same : (upd _ p4 (.lst ([.int 0] ++ (rowW T k).map V.int ++ [.int 0]))) p4 = some _) nD
    refine lc_range (lo := 0) (n := T + 1) (fun i H' => Same H H' ∧ H' p4 = some (.lst ((padW (rowW T k)).map V.int)) ∧ H' D = some (.lst (((rowW T (k + 1)).take i).map V.int))) ?_ ?_ ?_
    · refine ⟨same_updN s4 (s4.free nD), ?_, upd_same⟩
      rw [upd_ne np4, upd_same, ep]
    · intro i H' hi ⟨sm, e4, eD⟩
      obtain ⟨x, y, e1, e2, e3⟩ := row_step (T := T) (k := k) (h := i) (by omega)
      have g1 : ((padW (rowW T k)).map V.int)[i]? = some (.int x) := by rw [List.getElem?_map, e1]; rfl
      have g2 : ((padW (rowW T k)).map V.int)[i + 2]? = some (.int y) := by rw [List.getElem?_map, e2]; rfl
      refine ⟨rfl, ?_⟩
      unfold tYes
      refine iteT ?_
      refine ⟨.ref p4, rfl, .int (0 + (i : Int)), rfl, p4, _, _, .int x, rfl, rfl, .inl (.inl e4), at_of (by omega) g1, ?_⟩
      refine ⟨.ref p4, rfl, .int (0 + (i : Int)), rfl, _, _, rfl, rfl, p4, _, _, .int y, rfl, rfl, .inl (.inl e4), at_of (j := i + 2) (by omega) g2, ?_⟩
      refine ⟨x, y, rfl, rfl, _, eD, szl ?_, same_updN sm (s4.free nD), ?_, ?_⟩
      · rw [List.length_map, List.length_take]
        omega
      · rw [upd_ne np4]
        exact e4
      · rw [upd_same, List.take_add_one, e3, List.map_append]
        rfl
    · intro H' ⟨sm, e4, eD⟩
      rw [List.take_of_length_le (by rw [rowW_len]; omega)] at eD
      exact q H' D sm (s4.free nD) eD
end
end Hr
namespace Hr
open PySem PySem.Spec PyProof.Rows L2
/-- the table of ways at p: for each number of signs to n a list by heights to T -/
def Tbl (H : Hp) (p : Addr) (n T : Nat) : Prop := ∃ q : Nat → Addr, H p = some (.lst ((List.range (n + 1)).map fun k => V.ref (q k))) ∧ ∀ k, k ≤ n → H (q k) = some (.lst ((rowW T k).map V.int))
theorem Tbl.same {H H' : Hp} {p : Addr} {n T : Nat} (s : Same H H') (t : Tbl H p n T) : Tbl H' p n T := by
  obtain ⟨q, h1, h2⟩ := t
  exact ⟨q, s _ _ h1, fun k hk => s _ _ (h2 k hk)⟩
theorem range_get {n k : Nat} (q : Nat → Addr) (h : k ≤ n) : ((List.range (n + 1)).map fun k => V.ref (q k))[k]? = some (V.ref (q k)) := by
  rw [List.getElem?_map, List.getElem?_range (by omega)]
  rfl
theorem row0_lst (T : Nat) : [V.int 1] ++ (List.replicate T [V.int 0]).flatten = (rowW T 0).map V.int := by
  rw [rowW_zero, List.map_cons, List.map_replicate]
  have e : ∀ n : Nat, (List.replicate n [V.int 0]).flatten = List.replicate n (V.int 0) := by
    intro n
    induction n with
    | zero => rfl
    | succ n ih => rw [List.replicate_succ, List.replicate_succ, List.flatten_cons, ih]; rfl
  rw [e]
  rfl
section
variable {P : Program} {w : World} {K : PySem.W.Frag} {mg : Str → Option Value} {base : Heap}
def spTable : Sp := fun vs H Q _ => ∃ (n T : Nat), vs = [.int (n : Int), .int (T : Int)] ∧ n ≤ 1000 ∧ T ≤ 1000 ∧ ∀ H' p, Same H H' → H p = none → Tbl H' p n T → Q (.ref p) H'
theorem cal_table (D : Def K mg "ways_table" sTable ["left", "top"]) (C : Cal K mg CX0 P w base 1 "with_one_more_sign" [] spStep) (mrange : mg "range" = none) : Cal K mg CX0 P w base 2 "ways_table" [] spTable := by
  refine D.cal scTable (fun vs H Q E h => ?_) (fun f cdv A outer s H vs Q E hr h => ?_)
  · obtain ⟨n, T, rfl, _⟩ := h
    rfl
  · obtain ⟨n, T, rfl, hn, hT, q⟩ := h
    refine ⟨_, pss_cons (ps_set (i := 2) scTable.nd rfl (.inl rfl) (pe_lst (pa_cons (pe_op op_cat (pe_lst (pa_cons pe_int pa_nil)) (pe_op op_rep (pe_lst (pa_cons pe_int pa_nil)) (pv 1))) pa_nil)))
      (pss_cons (ps_for PassesOwn.never rfl (pi_range1 (by rfl) mrange (pa_cons (pv 0) pa_nil)) (pg_name (i := 3) scTable.nd rfl (.inl rfl))
        (pss_one (ps_expr (pe_bm PySem.F.plainAttrs_list PySem.F.slot_list_append PySem.F.type_list_append mt_append (pv 2) (pa_cons (pe_c C hr (pa_cons (pe_ix ix_list (pv 2) (pe_un un_neg pe_int) (fun _ _ => rfl)) pa_nil)) pa_nil)))))
      (pss_one (ps_ret (pv 2)))), ?_⟩
    refine ⟨sz (by decide), fun p1 n1 => ⟨sz (by decide), fun p2 n2 => ?_⟩⟩
    have s1 := same_upd (o := .lst [.int 1]) n1
    have s2 := s1.trans (same_upd (o := .lst [.int 0]) n2)
    refine ⟨.int (T : Int), rfl, p2, (T : Int), _, rfl, rfl, upd_same, by omega, by omega, sz (by show 1 * T ≤ _; omega), fun p3 n3 => ?_⟩
    have s3 := s2.trans (same_upd (o := .lst (List.replicate (T : Int).toNat [V.int 0]).flatten) n3)
    have n13 : p1 ≠ p3 := ne_of_none (by rw [upd_ne (ne_of_none upd_same n2)]; exact upd_same) n3
    have n12 : p1 ≠ p2 := ne_of_none upd_same n2
    have lz : (List.replicate (T : Int).toNat [V.int 0]).flatten.length = T := by
      have := congrArg List.length (row0_lst T)
      rw [List.length_append, List.length_map, rowW_len] at this
      have e : ([V.int 1] : List V).length = 1 := rfl
      rw [Int.toNat_natCast]
      omega
    refine ⟨p1, p3, _, _, rfl, rfl, by rw [upd_ne n13, upd_ne n12]; exact upd_same, upd_same, sz (by rw [lz]; show 1 + T ≤ _; omega), fun p4 n4 => ?_⟩
    rw [Int.toNat_natCast, row0_lst]
    rw [Int.toNat_natCast] at n4 s3
    have s4 := s3.trans (same_upd (o := .lst ((rowW T 0).map V.int)) n4)
    refine ⟨sz (show 1 ≤ 1000000 by decide), fun o no => ?_⟩
    have n4o : p4 ≠ o := ne_of_none upd_same no
    have s5 := same_updN (o := .lst [V.ref p4]) s4 (s4.free no)
    refine ⟨.int (n : Int), rfl, (n : Int), rfl, by omega, by omega, ?_⟩
    refine for_range (lo := 0) (n := n) (fun i σ H' => ∃ (y : Option V) (q : Nat → Addr), σ = [some (.int (n : Int)), some (.int (T : Int)), some (.ref o), y] ∧ Same H H' ∧
      H' o = some (.lst ((List.range (i + 1)).map fun k => V.ref (q k))) ∧ ∀ k, k ≤ i → H' (q k) = some (.lst ((rowW T k).map V.int)) ∧ q k ≠ o) ?_ ?_ ?_
    · refine ⟨none, fun _ => p4, rfl, s5, upd_same, fun k hk => ?_⟩
      have : k = 0 := by omega
      subst this
      refine ⟨?_, n4o⟩
      rw [upd_ne n4o]
      exact upd_same
    · rintro i σ H1 hi ⟨y, qa, rfl, sm, eo, er⟩
      have eL : ((List.range (i + 1)).map fun k => V.ref (qa k)) = ((List.range i).map fun k => V.ref (qa k)) ++ [V.ref (qa i)] := by
        rw [List.range_succ, List.map_append]
        rfl
      refine ⟨.ref o, rfl, .inl ⟨rfl, _, .inl (.inl eo)⟩, .ref o, rfl, 1, rfl, o, _, -1, .ref (qa i), rfl, rfl, .inl (.inl eo), by rw [eL]; exact atI_last _ _, ?_⟩
      refine ⟨qa i, T, i, rfl, (er i (Nat.le_refl _)).1, hT, fun H2 p sm2 np ep => ?_⟩
      have eo2 : H2 o = some (.lst ((List.range (i + 1)).map fun k => V.ref (qa k))) := sm2 _ _ eo
      have npo : p ≠ o := fun z => by
        rw [z, eo] at np
        cases np
      refine ⟨o, _, .ref p, rfl, rfl, eo2, szl (by rw [List.length_map, List.length_range]; omega), ?_⟩
      refine ⟨_, fun k => if k = i + 1 then p else qa k, rfl, same_updN (sm.trans sm2) (s4.free no), ?_, fun k hk => ?_⟩
      · rw [upd_same, List.range_succ (n := i + 1), List.map_append]
        congr 2
        congr 1
        · refine List.map_congr_left fun k hk => ?_
          have := List.mem_range.mp hk
          dsimp only
          rw [if_neg (by omega)]
        · show [V.ref p] = [V.ref (if i + 1 = i + 1 then p else qa (i + 1))]
          rw [if_pos rfl]
      · dsimp only
        by_cases e : k = i + 1
        · rw [if_pos e]
          refine ⟨?_, npo⟩
          rw [upd_ne npo, e]
          exact ep
        · rw [if_neg e]
          obtain ⟨h1, h2⟩ := er k (by omega)
          refine ⟨?_, h2⟩
          rw [upd_ne h2]
          exact sm2 _ _ h1
    · rintro σ H1 ⟨y, qa, rfl, sm, eo, er⟩
      exact ⟨.ref o, rfl, q H1 o sm (s4.free no) ⟨qa, eo, fun k hk => (er k hk).1⟩⟩
def spHill : Sp := fun vs H Q _ => ∃ (n : Nat) (c : Option Nat), vs = [.int (n : Int), cV c] ∧ n ≤ 400 ∧ ∀ H' p, Same H H' → H p = none → Tbl H' p (2 * n) (low n c) → Q (.ref p) H'
theorem low_le (n : Nat) (c : Option Nat) : low n c ≤ n := by
  cases c with
  | none => exact Nat.le_refl _
  | some k => exact Nat.min_le_left _ _
theorem cal_hill (D : Def K mg "hill_table" sHill ["n", "ceiling"]) (C : Cal K mg CX0 P w base 2 "ways_table" [] spTable) (C2 : Cal K mg CX0 P w base 1 "lower_of" [] spLow) : Cal K mg CX0 P w base 3 "hill_table" [] spHill := by
  refine D.cal scHill (fun vs H Q E h => ?_) (fun f cdv A outer s H vs Q E hr h => ?_)
  · obtain ⟨n, c, rfl, _⟩ := h
    rfl
  · obtain ⟨n, c, rfl, hn, q⟩ := h
    refine ⟨_, pss_one (ps_ret (pe_c C hr (pa_cons (pe_op op_mul pe_int (pv 0)) (pa_cons (pe_c C2 hr (pa_cons (pv 0) (pa_cons (pv 1) pa_nil))) pa_nil)))), ?_⟩
    have hl := low_le n c
    refine ⟨.int (n : Int), rfl, 2, _, rfl, rfl, .inl ⟨by decide, by decide⟩, .int (n : Int), rfl, cV c, rfl, n, c, rfl, 2 * n, low n c, ?_, by omega, by omega, q⟩
    rw [Int.natCast_mul]
    rfl
/-- as many as the hill rows of n under the ceiling -/
def spCounted : Sp := fun vs H Q _ => ∃ (n : Nat) (c : Option Nat), vs = [.int (n : Int), cV c] ∧ n ≤ 200 ∧ cOk 200 c ∧ ∀ H', Same H H' → Q (.int ((W (low n c) (2 * n) 0 : Nat) : Int)) H'
end
end Hr
namespace Hr
open PySem PySem.Spec PyProof.Rows L2
section
variable {P : Program} {w : World} {K : PySem.W.Frag} {mg : Str → Option Value} {base : Heap} {CC CN CR CP : Addr}
def spChCeiX (CC : Addr) : Sp := fun vs H Q E => ∃ (v : V), vs = [v] ∧ flatV v = true ∧ (ceilB v = true → Q .non H) ∧ (ceilB v = false → E (.ref CC) none H)
theorem cal_chCeiX (D : Def K mg "check_ceiling" sChCei ["ceiling"]) (C : Cal K mg (L2.CX P w) P w base 2 "check_number" [.int 0] (spChNumX CC)) {tk : Tok} (gM : mg "MOST_HEIGHT" = some (.int 200 tk)) : Cal K mg (L2.CX P w) P w base 3 "check_ceiling" [] (spChCeiX CC) := by
  refine D.calX scChCei (fun vs H Q E h => ?_) (fun f cdv A outer s H vs Q E hr h => ?_)
  · obtain ⟨c, rfl, _⟩ := h
    rfl
  · obtain ⟨v, rfl, hv, q, qe⟩ := h
    refine ⟨_, pss_one (ps_if (pt_cmp (pc_notN (pv 0))) (pss_one (ps_expr (pe_cX C hr (takes_of rfl rfl rfl rfl) (pa_cons (pv 0) (pa_cons (pe_glob (v := .int 200) (by rfl) gM ⟨_, rfl⟩) pa_nil))))) pss_nil), ?_⟩
    cases v with
    | non => exact ⟨.non, rfl, false, rfl, iteF (q rfl)⟩
    | int i => exact ⟨_, rfl, true, rfl, iteT ⟨_, rfl, _, 200, rfl, hv, .inl rfl, q, qe⟩⟩
    | bl b => exact ⟨_, rfl, true, rfl, iteT ⟨_, rfl, _, 200, rfl, hv, .inl rfl, q, qe⟩⟩
    | str z => exact ⟨_, rfl, true, rfl, iteT ⟨_, rfl, _, 200, rfl, hv, .inl rfl, q, qe⟩⟩
    | byt _ => cases hv
    | flt _ => cases hv
    | ref _ => cases hv
    | ty _ => cases hv
end
end Hr
/-! ### ranks -/
namespace Hr
open PySem PySem.Spec PyProof.Rows L2
theorem scRank : FnScope ["row", "ceiling"] ["row", "ceiling"] (defScope sRank) := ⟨rfl, rfl, rfl, by decide +kernel, rfl, by decide +kernel, by decide +kernel⟩
theorem scRowAt : FnScope ["n", "r", "ceiling", "table"] ["n", "r", "ceiling"] (defScope sRowAt) := ⟨rfl, rfl, rfl, by decide +kernel, rfl, by decide +kernel, by decide +kernel⟩
theorem scNumOf : FnScope ["row", "table", "r", "height", "left", "sign"] ["row", "table"] (defScope sNumOf) := ⟨rfl, rfl, rfl, by decide +kernel, rfl, by decide +kernel, by decide +kernel⟩
theorem scOfNum : FnScope ["r", "table", "signs", "height", "ahead", "left", "down"] ["r", "table"] (defScope sOfNum) := ⟨rfl, rfl, rfl, by decide +kernel, rfl, by decide +kernel, by decide +kernel⟩
theorem scDown : FnScope ["table", "height", "left"] ["table", "height", "left"] (defScope sDown) := ⟨rfl, rfl, rfl, by decide +kernel, rfl, by decide +kernel, by decide +kernel⟩
theorem scCount : FnScope ["table"] ["table"] (defScope sCount) := ⟨rfl, rfl, rfl, by decide +kernel, rfl, by decide +kernel, by decide +kernel⟩
theorem args_pik {p : Addr} {x y : Int} {h k : Nat} (hx : x = (h : Int)) (hy : y = (k : Int)) : [V.ref p, V.int x, V.int y] = [V.ref p, V.int (h : Int), V.int (k : Int)] := by
  rw [hx, hy]
section
variable {P : Program} {w : World} {K : PySem.W.Frag} {mg : Str → Option Value} {base : Heap}
def spDown : Sp := fun vs H Q _ => ∃ (p : Addr) (n T h k : Nat), vs = [.ref p, .int (h : Int), .int (k : Int)] ∧ Tbl H p n T ∧ k ≤ n ∧ h ≤ T + 1 ∧ Q (.int ((dn T k h : Nat) : Int)) H
theorem cal_down (D : Def K mg "ways_down" sDown ["table", "height", "left"]) : Cal K mg CX0 P w base 1 "ways_down" [] spDown := by
  refine D.cal scDown (fun vs H Q E h => ?_) (fun f cdv A outer s H vs Q E hr h => ?_)
  · obtain ⟨p, n, T, h, k, rfl, _⟩ := h
    rfl
  · obtain ⟨p, n, T, h, k, rfl, ⟨qa, e1, e2⟩, hk, hh, q⟩ := h
    refine ⟨_, pss_one (ps_ret (pe_ifExp (pt_cmpR op_gt (pv 1) pe_int (nomark _)) (pe_ix ix_list (pe_ix ix_list (pv 0) (pv 2) (fun _ _ => rfl)) (pe_op op_sub (pv 1) pe_int) (fun _ _ => rfl)) pe_int)), ?_⟩
    refine ⟨.int (h : Int), rfl, (h : Int), 0, rfl, rfl, _, rfl, ite2 (fun e => ?_) (fun e => ?_)⟩
    · have e0 : 0 < h := by
        have := of_decide_eq_true e
        omega
      refine ⟨.ref p, rfl, .int (k : Int), rfl, p, _, _, .ref (qa k), rfl, rfl, .inl (.inl e1), at_of rfl (range_get qa hk), ?_⟩
      refine ⟨.int (h : Int), rfl, (h : Int), 1, rfl, rfl, qa k, _, _, .int ((W T k (h - 1) : Nat) : Int), rfl, rfl, .inl (.inl (e2 k hk)), at_of (j := h - 1) (by omega) ?_, ?_⟩
      · rw [List.getElem?_map, rowW_get (by omega)]
        rfl
      · unfold dn at q
        rw [if_neg (by omega)] at q
        exact q
    · have e0 : h = 0 := by
        have : ¬ (0 : Int) < (h : Int) := fun z => e (decide_eq_true z)
        omega
      unfold dn at q
      rw [if_pos e0] at q
      exact q
def spCount : Sp := fun vs H Q _ => ∃ (p : Addr) (n T : Nat), vs = [.ref p] ∧ Tbl H p n T ∧ Q (.int ((W T n 0 : Nat) : Int)) H
theorem cal_count (D : Def K mg "row_count" sCount ["table"]) : Cal K mg CX0 P w base 1 "row_count" [] spCount := by
  refine D.cal scCount (fun vs H Q E h => ?_) (fun f cdv A outer s H vs Q E hr h => ?_)
  · obtain ⟨p, n, T, rfl, _⟩ := h
    rfl
  · obtain ⟨p, n, T, rfl, ⟨qa, e1, e2⟩, q⟩ := h
    refine ⟨_, pss_one (ps_ret (pe_ix ix_list (pe_ix ix_list (pv 0) (pe_un un_neg pe_int) (fun _ _ => rfl)) pe_int (fun _ _ => rfl))), ?_⟩
    have eL : ((List.range (n + 1)).map fun k => V.ref (qa k)) = ((List.range n).map fun k => V.ref (qa k)) ++ [V.ref (qa n)] := by
      rw [List.range_succ, List.map_append]
      rfl
    refine ⟨.ref p, rfl, 1, rfl, p, _, -1, .ref (qa n), rfl, rfl, .inl (.inl e1), by rw [eL]; exact atI_last _ _, ?_⟩
    refine ⟨qa n, _, 0, .int ((W T n 0 : Nat) : Int), rfl, rfl, .inl (.inl (e2 n (Nat.le_refl _))), at_of (j := 0) rfl ?_, q⟩
    rw [List.getElem?_map, rowW_get (Nat.zero_le _)]
    rfl
def spNumOf : Sp := fun vs H Q _ => ∃ (l : List Bool) (p : Addr) (T : Nat), vs = [.str (txt l), .ref p] ∧ Tbl H p l.length T ∧ okb (some T) 0 l = true ∧ l.length ≤ 1000 ∧ Q (.int ((rankOf T 0 l : Nat) : Int)) H
theorem cal_numOf (D : Def K mg "number_of" sNumOf ["row", "table"]) (C : Cal K mg CX0 P w base 1 "ways_down" [] spDown) (mlen : mg "len" = none) {t1 : Tok} (gU : mg "UP" = some (.str "u" t1)) : Cal K mg CX0 P w base 2 "number_of" [] spNumOf := by
  refine D.cal scNumOf (fun vs H Q E h => ?_) (fun f cdv A outer s H vs Q E hr h => ?_)
  · obtain ⟨l, p, T, rfl, _⟩ := h
    rfl
  · obtain ⟨l, p, T, rfl, tb, ok, hl, q⟩ := h
    have nd := scNumOf.nd
    refine ⟨_, pss_cons (ps_set (i := 2) nd rfl (.inl rfl) pe_int) (pss_cons (ps_set (i := 3) nd rfl (.inl rfl) pe_int)
      (pss_cons (ps_set (i := 4) nd rfl (.inl rfl) (pe_callB call_len_str (by rfl) mlen PySem.boot_len (pa_cons (pv 0) pa_nil)))
      (pss_cons (ps_for PassesOwn.never rfl (pi_str (pv 0)) (pg_name (i := 5) nd rfl (.inl rfl))
        (pss_cons (ps_aug (i := 4) nd rfl (.inl rfl) pe_int ip_sub)
        (pss_one (ps_if (pt_cmpR op_eq (pv 5) (pe_glob (v := .str "u") (by rfl) gU ⟨_, rfl⟩) (nomark _))
          (pss_cons (ps_aug (i := 2) nd rfl (.inl rfl) (pe_c C hr (pa_cons (pv 1) (pa_cons (pv 3) (pa_cons (pv 4) pa_nil)))) ip_add)
            (pss_one (ps_aug (i := 3) nd rfl (.inl rfl) pe_int ip_add)))
          (pss_one (ps_aug (i := 3) nd rfl (.inl rfl) pe_int ip_sub))))))
      (pss_one (ps_ret (pv 2)))))), ?_⟩
    refine ⟨.str (txt l), rfl, txt l, rfl, sz (by rw [txt_len]; omega), ?_⟩
    refine ⟨.str (txt l), rfl, txt l, rfl, ?_⟩
    refine for_it walk_str (fun i σ H' => ∃ (ri hi li : Int) (r h : Nat) (y : Option V), σ = [some (.str (txt l)), some (.ref p), some (.int ri), some (.int hi), some (.int li), y] ∧ H' = H ∧
      r + rankOf T h (l.drop i) = rankOf T 0 l ∧ okb (some T) h (l.drop i) = true ∧ h ≤ T ∧ ri = (r : Int) ∧ hi = (h : Int) ∧ li = ((l.drop i).length : Int)) ?_ (fun _ _ _ _ _ => trivial) ?_ ?_
    · refine ⟨_, _, _, 0, 0, none, rfl, rfl, Nat.zero_add _, ok, Nat.zero_le _, rfl, rfl, ?_⟩
      rw [txt_len]
      rfl
    · rintro i x σ H2 H3 hi ⟨ri, hh, li, r, h, y, rfl, rfl, e1, e2, hT, er, eh, el⟩ ⟨rfl, c, hc, rfl⟩
      rw [txt_at] at hc
      obtain ⟨b, hb, rfl⟩ := Option.map_eq_some_iff.mp hc
      have hil : i < l.length := (List.getElem?_eq_some_iff.mp hb).1
      have ed : l.drop i = b :: l.drop (i + 1) := by
        rw [List.drop_eq_getElem_cons hil]
        congr 1
        exact (List.getElem?_eq_some_iff.mp hb).2
      rw [ed] at e1 e2 el
      rw [List.length_cons] at el
      refine ⟨_, rfl, _, 1, rfl, rfl, ?_⟩
      refine ⟨_, rfl, rfl, decide (code b = 117), congrArg V.bl (is_u _), ?_⟩
      rw [code_u]
      have hlen : (l.drop (i + 1)).length ≤ l.length := by rw [List.length_drop]; omega
      cases b with
      | true =>
        obtain ⟨a1, a2⟩ := okb_up e2
        have a1 : h < T := of_decide_eq_true a1
        refine iteT ?_
        refine ⟨_, rfl, .ref p, rfl, _, rfl, _, rfl, p, l.length, T, h, (l.drop (i + 1)).length, args_pik eh (by show li - 1 = _; omega), tb, hlen, by omega, _, _, rfl, rfl, _, rfl, _, 1, rfl, rfl, _, _, _, r + dn T (l.drop (i + 1)).length h, h + 1, _, rfl, rfl, ?_, a2, a1, ?_, ?_, ?_⟩
        · rw [← e1]
          show _ = r + (dn T (l.drop (i + 1)).length h + rankOf T (h + 1) (l.drop (i + 1)))
          omega
        · show ri + ((dn T (l.drop (i + 1)).length h : Nat) : Int) = _
          omega
        · show hh + 1 = _
          omega
        · show li - 1 = _
          omega
      | false =>
        obtain ⟨a1, a2⟩ := okb_down e2
        refine iteF ?_
        refine ⟨_, rfl, _, 1, rfl, rfl, _, _, _, r, h - 1, _, rfl, rfl, e1, a2, by omega, er, ?_, ?_⟩
        · show hh - 1 = _
          omega
        · show li - 1 = _
          omega
    · rintro σ H2 ⟨ri, hh, li, r, h, y, rfl, rfl, e1, e2, hT, er, eh, el⟩
      refine ⟨_, rfl, ?_⟩
      have e : l.drop (txt l).cps.size = [] := List.drop_eq_nil_of_le (by rw [txt_size]; exact Nat.le_refl _)
      rw [e] at e1
      have e1 : r = rankOf T 0 l := e1
      rw [er, e1]
      exact q
def spOfNum : Sp := fun vs H Q _ => ∃ (r n T : Nat) (p : Addr), vs = [.int (r : Int), .ref p] ∧ Tbl H p n T ∧ r < W T n 0 ∧ n ≤ 1000 ∧ ∀ H', Same H H' → Q (.str (txt (unrank T n 0 r))) H'
theorem cal_ofNum (D : Def K mg "row_of_number" sOfNum ["r", "table"]) (C : Cal K mg CX0 P w base 1 "ways_down" [] spDown) (mlen : mg "len" = none) (mrange : mg "range" = none) (mrev : mg "reversed" = none) {t1 t2 : Tok} (gU : mg "UP" = some (.str "u" t1)) (gD : mg "DOWN" = some (.str "d" t2)) :
    Cal K mg CX0 P w base 2 "row_of_number" [] spOfNum := by
  refine D.cal scOfNum (fun vs H Q E h => ?_) (fun f cdv A outer s H vs Q E hr h => ?_)
  · obtain ⟨r, n, T, p, rfl, _⟩ := h
    rfl
  · obtain ⟨r, n, T, p, rfl, tb, hr0, hn, q⟩ := h
    have nd := scOfNum.nd
    refine ⟨_, pss_cons (ps_set (i := 2) nd rfl (.inl rfl) (pe_lst pa_nil)) (pss_cons (ps_set (i := 3) nd rfl (.inl rfl) pe_int) (pss_cons (ps_set (i := 4) nd rfl (.inl rfl) (pv 0))
      (pss_cons (ps_for PassesOwn.never rfl (pi_revR (by rfl) mrev (prg_1 (by rfl) mrange (pe_op op_sub (pe_callB call_len_seq (by rfl) mlen PySem.boot_len (pa_cons (pv 1) pa_nil)) pe_int))) (pg_name (i := 5) nd rfl (.inl rfl))
        (pss_cons (ps_set (i := 6) nd rfl (.inl rfl) (pe_c C hr (pa_cons (pv 1) (pa_cons (pv 3) (pa_cons (pv 5) pa_nil)))))
        (pss_one (ps_if (pt_cmpR op_lt (pv 4) (pv 6) (nomark _))
          (pss_cons (ps_expr (pe_bm PySem.F.plainAttrs_list PySem.F.slot_list_append PySem.F.type_list_append mt_append (pv 2) (pa_cons (pe_glob (v := .str "d") (by rfl) gD ⟨_, rfl⟩) pa_nil)))
            (pss_one (ps_aug (i := 3) nd rfl (.inl rfl) pe_int ip_sub)))
          (pss_cons (ps_aug (i := 4) nd rfl (.inl rfl) (pv 6) ip_sub)
            (pss_cons (ps_expr (pe_bm PySem.F.plainAttrs_list PySem.F.slot_list_append PySem.F.type_list_append mt_append (pv 2) (pa_cons (pe_glob (v := .str "u") (by rfl) gU ⟨_, rfl⟩) pa_nil)))
            (pss_one (ps_aug (i := 3) nd rfl (.inl rfl) pe_int ip_add))))))))
      (pss_one (ps_ret (pe_join pe_str (pv 2))))))), ?_⟩
    refine ⟨Nat.zero_le _, fun o no => ?_⟩
    have s1 := same_upd (o := .lst []) no
    refine ⟨_, rfl, ?_⟩
    have tb1 := tb.same s1
    obtain ⟨qa, e1, e2⟩ := tb1
    have hlen : ((List.range (n + 1)).map fun k => V.ref (qa k)).length = n + 1 := by rw [List.length_map, List.length_range]
    refine ⟨.ref p, rfl, p, _, rfl, .inl (.inl (.inl e1)), _, 1, rfl, rfl, _, rfl, ?_⟩
    rw [hlen]
    have e0 : ((((n + 1 : Nat) : Int) - 1 - 0).toNat) = n := by omega
    refine ⟨by decide, by decide, by omega, by omega, ?_⟩
    rw [e0]
    refine for_it walk_rangeC (fun i σ H' => ∃ (hh ai : Int) (pre : List Bool) (h a : Nat) (y5 y6 : Option V), σ = [some (.int (r : Int)), some (.ref p), some (.ref o), some (.int hh), some (.int ai), y5, y6] ∧ Same H H' ∧
      H' o = some (.lst (pre.map fun b => V.str (sgn b))) ∧ pre.length = i ∧ pre ++ unrank T (n - i) h a = unrank T n 0 r ∧ a < W T (n - i) h ∧ h ≤ T ∧ hh = (h : Int) ∧ ai = (a : Int)) ?_ (fun _ _ _ _ _ => trivial) ?_ ?_
    · exact ⟨0, _, [], 0, r, none, none, rfl, s1, upd_same, rfl, rfl, hr0, Nat.zero_le _, rfl, rfl⟩
    · rintro i x σ H2 H3 hi ⟨hh, ai, pre, h, a, y5, y6, rfl, sm, eo, el, eu, ha, hT, eh, ea⟩ ⟨rfl, rfl⟩
      have en : n - i = (n - (i + 1)) + 1 := by omega
      rw [en] at eu ha
      rw [unrank_succ] at eu
      rw [W_succ] at ha
      have hpl : (pre.map fun b => V.str (sgn b)).length < sizeLine := szl (by rw [List.length_map]; omega)
      refine ⟨.ref p, rfl, .int hh, rfl, _, rfl, p, n, T, h, n - (i + 1), args_pik eh (by omega), tb.same sm, by omega, by omega, ?_⟩
      refine ⟨.int ai, rfl, _, rfl, _, _, rfl, rfl, _, rfl, ite2 (fun e => ?_) (fun e => ?_)⟩
      · have e0 : a < dn T (n - (i + 1)) h := by
          have := of_decide_eq_true e
          omega
        have h0 : h ≠ 0 := fun z => by
          unfold dn at e0
          rw [if_pos z] at e0
          omega
        rw [if_pos e0] at eu
        have ha' : a < W T (n - (i + 1)) (h - 1) := by
          unfold dn at e0
          rw [if_neg h0] at e0
          exact e0
        refine ⟨.ref o, rfl, .inl ⟨rfl, _, .inl (.inl eo)⟩, o, _, _, rfl, rfl, eo, hpl, ?_⟩
        refine ⟨_, rfl, _, 1, rfl, rfl, _, _, pre ++ [false], h - 1, a, _, _, rfl, same_updN sm no, ?_, ?_, ?_, ha', by omega, ?_, ea⟩
        · rw [upd_same, List.map_append, ← sgn_d]
          rfl
        · rw [List.length_append, el]
          rfl
        · rw [List.append_assoc]
          exact eu
        · show hh - 1 = _
          omega
      · have e0 : ¬ a < dn T (n - (i + 1)) h := fun z => e (decide_eq_true (by omega))
        rw [if_neg e0] at eu
        have hT' : h < T := by
          by_cases z : h < T
          · exact z
          · rw [if_neg z] at ha
            omega
        rw [if_pos hT'] at ha
        refine ⟨_, rfl, _, rfl, _, _, rfl, rfl, ?_⟩
        refine ⟨.ref o, rfl, .inl ⟨rfl, _, .inl (.inl eo)⟩, o, _, _, rfl, rfl, eo, hpl, ?_⟩
        refine ⟨_, rfl, _, 1, rfl, rfl, _, _, pre ++ [true], h + 1, a - dn T (n - (i + 1)) h, _, _, rfl, same_updN sm no, ?_, ?_, ?_, by omega, by omega, ?_, ?_⟩
        · rw [upd_same, List.map_append, ← sgn_u]
          rfl
        · rw [List.length_append, el]
          rfl
        · rw [List.append_assoc]
          exact eu
        · show hh + 1 = _
          omega
        · show ai - ((dn T (n - (i + 1)) h : Nat) : Int) = _
          omega
    · rintro σ H2 ⟨hh, ai, pre, h, a, y5, y6, rfl, sm, eo, el, eu, ha, hT, eh, ea⟩
      rw [Nat.sub_self] at eu
      have eu : pre = unrank T n 0 r := by
        rw [← eu]
        show pre = pre ++ []
        rw [List.append_nil]
      have em : (pre.map fun b => V.str (sgn b)) = (pre.map sgn).map V.str := by rw [List.map_map]; rfl
      rw [em] at eo
      refine ⟨⟨_, rfl⟩, .ref o, rfl, _, o, pre.map sgn, rfl, rfl, .inl (.inl (.inl eo)), ?_, ?_⟩
      · have := sgn_sum pre
        rw [this]
        show pre.length + _ * 0 ≤ 16777216
        omega
      · rw [join_signs, eu]
        exact q H2 sm
end
end Hr
namespace Hr
open PySem PySem.Spec PyProof.Rows L2
/-- a row's rank, how many there are, the row of a rank: of n ups under the ceiling c -/
def rk (c : Option Nat) (n : Nat) (l : List Bool) : Nat := rankOf (low n c) 0 l
def cntc (c : Option Nat) (n : Nat) : Nat := W (low n c) (2 * n) 0
def rowOf (c : Option Nat) (n r : Nat) : List Bool := unrank (low n c) (2 * n) 0 r
theorem Hill.low {c : Option Nat} {n : Nat} {l : List Bool} (h : Hill c n l) : okb (some (low n c)) 0 l = true := okb_low (by rw [h.2]; omega) h.1
theorem Hill.rk_lt {c : Option Nat} {n : Nat} {l : List Bool} (h : Hill c n l) : rk c n l < cntc c n := by
  have := rank_lt h.low
  rw [h.2] at this
  exact this
theorem Hill.back {c : Option Nat} {n : Nat} {l : List Bool} (h : Hill c n l) : rowOf c n (rk c n l) = l := by
  have := unrank_rank h.low
  rw [h.2] at this
  exact this
theorem rowOf_hill {c : Option Nat} {n r : Nat} (h : r < cntc c n) : Hill c n (rowOf c n r) := by
  obtain ⟨a, b, _⟩ := unrank_ok h
  exact ⟨okb_up_of a, b⟩
theorem rowOf_rk {c : Option Nat} {n r : Nat} (h : r < cntc c n) : rk c n (rowOf c n r) = r := (unrank_ok h).2.2
theorem rowOf_len {c : Option Nat} {n r : Nat} (h : r < cntc c n) : (rowOf c n r).length = 2 * n := (rowOf_hill h).2
def nextV (c : Option Nat) (n : Nat) (l : List Bool) : V := if rk c n l + 1 < cntc c n then .str (txt (rowOf c n (rk c n l + 1))) else .non
def aheadV (c : Option Nat) (n : Nat) (l : List Bool) : V := if 0 < rk c n l then .str (txt (rowOf c n (rk c n l - 1))) else .non
theorem half_len (n : Nat) {z : Str} (h : z.length = 2 * n) : (z.length : Int) / 2 = (n : Int) := by
  rw [h]
  omega
def spRank : Sp := fun vs H Q _ => ∃ (l : List Bool) (c : Option Nat) (n : Nat), vs = [.str (txt l), cV c] ∧ cOk 200 c ∧ Hill c n l ∧ n ≤ 200 ∧ ∀ H', Same H H' → Q (.int ((rk c n l : Nat) : Int)) H'
theorem args_ic {x : Int} {c : Option Nat} {n : Nat} (h : x = (n : Int)) : [V.int x, cV c] = [V.int (n : Int), cV c] := by rw [h]
end Hr
namespace Hr
open PySem PySem.Spec PyProof.Rows L2
section
variable {P : Program} {w : World} {K : PySem.W.Frag} {mg : Str → Option Value} {base : Heap} {CC CN CR CP : Addr}
/-- what rank, next_row and ahead_row refuse -/
def Refuse (CC CN : Addr) (z : Str) (cv : V) (H : Hp) (E : XK) : Prop := (ceilB cv = false → E (.ref CC) none H) ∧ ∀ c, cv = cV c → cOk 200 c → hillB c z = false → ∀ H', Same H H' → E (.ref CN) none H'
def spRankX (CC CN : Addr) : Sp := fun vs H Q E => ∃ (z : Str) (cv : V), vs = [.str z, cv] ∧ flatV cv = true ∧ z.length ≤ 1000 ∧ Refuse CC CN z cv H E ∧ (∀ c, cv = cV c → cOk 200 c → hillB c z = true → spRank [.str z, cv] H Q E0)
theorem cal_rankX (D : DefD K mg "rank" sRank ["row", "ceiling"]) (C1 : Cal K mg (L2.CX P w) P w base 3 "check_ceiling" [] (spChCeiX CC)) (C2 : Cal K mg (L2.CX P w) P w base 4 "check_hill" [] (spChHillX CN)) (C3 : Cal K mg CX0 P w base 3 "hill_table" [] spHill) (C4 : Cal K mg CX0 P w base 2 "number_of" [] spNumOf) (mlen : mg "len" = none) :
    Cal K mg (L2.CX P w) P w base 5 "rank" [] (spRankX CC CN) ∧ Cal K mg (L2.CX P w) P w base 5 "rank" [.non] (spRankX CC CN) := by
  refine D.okX scRank (fun vs H Q E h => ?_) (fun f cdv A outer s H vs Q E hr h => ?_)
  · obtain ⟨z, cv, rfl, _⟩ := h
    rfl
  · obtain ⟨z, cv, rfl, hcv, hz, ⟨re, rn⟩, q⟩ := h
    refine ⟨_, pss_cons (ps_expr (pe_cX C1 hr (takes_of rfl rfl rfl rfl) (pa_cons (pv 1) pa_nil))) (pss_cons (ps_expr (pe_cX C2 hr (takes_of rfl rfl rfl rfl) (pa_cons (pv 0) (pa_cons (pv 1) pa_nil))))
      (pss_one (ps_ret (pe_c C4 hr (pa_cons (pv 0) (pa_cons (pe_c C3 hr (pa_cons (pe_op op_fdiv (pe_callB call_len_str (by rfl) mlen PySem.boot_len (pa_cons (pv 0) pa_nil)) pe_int) (pa_cons (pv 1) pa_nil))) pa_nil)))))), ?_⟩
    refine ⟨cv, rfl, cv, rfl, hcv, fun hk => ?_, re⟩
    obtain ⟨c, rfl, hc⟩ := ceilB_of hk
    refine ⟨.str z, rfl, cV c, rfl, z, c, rfl, hz, fun hh H1 s1 => ?_, fun hh => rn c rfl hc hh⟩
    obtain ⟨l, c', n, e, hc', hh', hn, q2⟩ := q c rfl hc hh
    obtain ⟨rfl, e2⟩ : z = txt l ∧ cV c = cV c' := by simpa using e
    have hz : (txt l).length = 2 * n := by rw [txt_len, hh'.2]
    refine ⟨.str (txt l), rfl, .str (txt l), rfl, txt l, rfl, sz (by rw [hz]; omega), _, 2, rfl, rfl, ⟨by decide, by decide⟩, cV c, rfl, n, c', by rw [e2]; exact args_ic (half_len n hz), by omega, fun H2 p s2 np tb => ?_⟩
    rw [← hh'.2] at tb
    exact ⟨l, p, low n c', rfl, tb, hh'.low, by rw [hh'.2]; omega, q2 H2 (s1.trans s2)⟩
/-- row_at: refused for its numbers, for its rank; else the row -/
def RefuseAt (CC CR : Addr) (v r cv : V) (H : Hp) (E : XK) : Prop := (numB v 200 = false ∨ ceilB cv = false → E (.ref CC) none H) ∧
  ∀ (n : Nat) c, v = .int (n : Int) → cv = cV c → n ≤ 200 → cOk 200 c → numB r (((cntc c n : Nat) : Int) - 1) = false → ∀ H', Same H H' → E (.ref CR) none H'
def spRowAtX (CC CR : Addr) : Sp := fun vs H Q E => ∃ (v r cv : V), vs = [v, r, cv] ∧ flatV v = true ∧ flatV r = true ∧ flatV cv = true ∧ RefuseAt CC CR v r cv H E ∧
  ∀ (n k : Nat) c, v = .int (n : Int) → r = .int (k : Int) → cv = cV c → n ≤ 200 → cOk 200 c → k < cntc c n → ∀ H', Same H H' → Q (.str (txt (rowOf c n k))) H'
theorem cal_rowAtX (er : Err K mg "NoRank" CR) (D : DefD K mg "row_at" sRowAt ["n", "r", "ceiling"]) (C0 : Cal K mg (L2.CX P w) P w base 2 "check_number" [.int 0] (spChNumX CC)) (C1 : Cal K mg (L2.CX P w) P w base 3 "check_ceiling" [] (spChCeiX CC)) (C2 : Cal K mg CX0 P w base 1 "is_number" [.int 0] spIsNumV) (C3 : Cal K mg CX0 P w base 3 "hill_table" [] spHill)
    (C4 : Cal K mg CX0 P w base 2 "row_of_number" [] spOfNum) (C5 : Cal K mg CX0 P w base 1 "row_count" [] spCount) {t1 : Tok} (gM : mg "MOST_UPS" = some (.int 200 t1)) : Cal K mg (L2.CX P w) P w base 4 "row_at" [] (spRowAtX CC CR) ∧ Cal K mg (L2.CX P w) P w base 4 "row_at" [.non] (spRowAtX CC CR) := by
  refine D.okX scRowAt (fun vs H Q E h => ?_) (fun f cdv A outer s H vs Q E hr h => ?_)
  · obtain ⟨v, r, cv, rfl, _⟩ := h
    rfl
  · obtain ⟨v, r, cv, rfl, hv, hrv, hcv, ⟨re, rr⟩, q⟩ := h
    have nd := scRowAt.nd
    refine ⟨_, pss_cons (ps_expr (pe_cX C0 hr (takes_of rfl rfl rfl rfl) (pa_cons (pv 0) (pa_cons (pe_glob (v := .int 200) (by rfl) gM ⟨_, rfl⟩) pa_nil)))) (pss_cons (ps_expr (pe_cX C1 hr (takes_of rfl rfl rfl rfl) (pa_cons (pv 2) pa_nil)))
      (pss_cons (ps_set (i := 3) nd rfl (.inl rfl) (pe_c C3 hr (pa_cons (pv 0) (pa_cons (pv 2) pa_nil))))
      (pss_cons (ps_if (pt_not (pt_val (pe_c C2 hr (pa_cons (pv 1) (pa_cons (pe_op op_sub (pe_c C5 hr (pa_cons (pv 3) pa_nil)) pe_int) pa_nil))))) (pss_one (ps_raise rfl (takes_of rfl rfl rfl rfl) (pmk_own PySem.F.excBase_ValueError er.x er.g er.k (raises_own er.b er.t) rfl))) pss_nil)
      (pss_one (ps_ret (pe_c C4 hr (pa_cons (pv 1) (pa_cons (pv 3) pa_nil)))))))), ?_⟩
    refine ⟨v, rfl, v, 200, rfl, hv, .inl rfl, fun hn => ?_, fun hn => re (.inl hn)⟩
    refine ⟨cv, rfl, cv, rfl, hcv, fun hk => ?_, fun hk => re (.inr hk)⟩
    obtain ⟨n, rfl, hn⟩ := numB_of hn
    obtain ⟨c, rfl, hc⟩ := ceilB_of hk
    refine ⟨.int (n : Int), rfl, cV c, rfl, n, c, rfl, by omega, fun H1 p s1 np tb => ?_⟩
    refine ⟨r, rfl, .ref p, rfl, p, 2 * n, low n c, rfl, tb, _, 1, rfl, rfl, r, _, rfl, hrv, _, rfl, ?_⟩
    cases hb : numB r (((W (low n c) (2 * n) 0 : Nat) : Int) - 1) with
    | true =>
      refine iteF ?_
      obtain ⟨x, rfl, hx⟩ := numB_of hb
      have hx' : x < cntc c n := by
        show x < W (low n c) (2 * n) 0
        omega
      exact ⟨_, rfl, .ref p, rfl, x, 2 * n, low n c, p, rfl, tb, hx', by omega, fun H2 s2 => q n x c rfl rfl rfl (by omega) hc hx' H2 (s1.trans s2)⟩
    | false =>
      refine iteT ?_
      exact rr n c rfl rfl (by omega) hc hb H1 s1
end
end Hr
/-! ### joined texts -/
namespace Hr
open PySem PySem.Spec PyProof.Rows L2
theorem join_txts (ls : List (List Bool)) : Txt.join ("" : Str) (ls.map txt) = txt ls.flatten := by
  have h := SX.join_S [] (ls.map fun l => l.map code)
  have e1 : (ls.map fun l => l.map code).map SX.S = ls.map txt := by
    rw [List.map_map]
    rfl
  rw [e1] at h
  have e2 : ∀ ls : List (List Bool), TL.joinL [] (ls.map fun l => l.map code) = ls.flatten.map code := by
    intro ls
    induction ls with
    | nil => rfl
    | cons l ls ih =>
      cases ls with
      | nil =>
        show l.map code = (l ++ []).map code
        rw [List.append_nil]
      | cons l2 ls =>
        show l.map code ++ ([] ++ TL.joinL [] ((l2 :: ls).map fun l => l.map code)) = _
        rw [ih, List.nil_append, ← List.map_append]
        rfl
  rw [e2] at h
  rw [eE]
  exact h
theorem sum_lens (ls : List (List Bool)) : ((ls.map txt).map (·.length)).sum = ls.flatten.length := by
  induction ls with
  | nil => rfl
  | cons l ls ih =>
    rw [List.map_cons, List.map_cons, List.sum_cons, ih, List.flatten_cons, List.length_append, txt_len]
theorem lens_le : ∀ (zs : List Str), (∀ z ∈ zs, z.length ≤ 1000) → (zs.map (·.length)).sum ≤ 1000 * zs.length
  | [], _ => Nat.le_refl _
  | z :: zs, h => by
    have := lens_le zs fun x hx => h x (List.mem_cons_of_mem _ hx)
    have := h z (List.mem_cons_self ..)
    rw [List.map_cons, List.sum_cons, List.length_cons]
    omega
theorem len_E : ("" : Str).length = 0 := by decide +kernel
end Hr
/-! ### joined -/
namespace Hr
open PySem PySem.Spec PyProof.Rows L2
theorem scJoined : FnScope ["rows", "row"] ["rows"] (defScope s_joined) := ⟨rfl, rfl, rfl, by decide +kernel, rfl, by decide +kernel, by decide +kernel⟩
section
variable {P : Program} {w : World} {K : PySem.W.Frag} {mg : Str → Option Value} {base : Heap} {CN CC : Addr}
def spJoinedX (K : PySem.W.Frag) (CN : Addr) : Sp := fun vs H Q E => ∃ (a : Addr) (zs : List Str), vs = [.ref a] ∧ SqL K H a (zs.map V.str) ∧ zs.length ≤ 1000 ∧ (∀ z ∈ zs, z.length ≤ 1000) ∧
  ((∀ z ∈ zs, hillB none z = true) → ∀ H', Same H H' → Q (.str (Txt.join "" zs)) H') ∧ ((∃ z ∈ zs, hillB none z = false) → ∀ H', Same H H' → E (.ref CN) none H')
theorem cal_joinedX (D : Def K mg "joined" s_joined ["rows"]) (C : Cal K mg (L2.CX P w) P w base 4 "check_hill" [.non] (spChHillX CN)) : Cal K mg (L2.CX P w) P w base 5 "joined" [] (spJoinedX K CN) := by
  refine D.calX scJoined (fun vs H Q E h => ?_) (fun f cdv A outer s H vs Q E hr h => ?_)
  · obtain ⟨a, zs, rfl, _⟩ := h
    rfl
  · obtain ⟨a, zs, rfl, hS, hn, hz, q, qe⟩ := h
    have nd := scJoined.nd
    refine ⟨_, pss_cons (ps_for PassesOwn.leaving rfl (pi_list (pv 0)) (pg_name (i := 1) nd rfl (.inl rfl)) (pss_one (ps_expr (pe_cX C hr (takes_of rfl rfl rfl rfl) (pa_cons (pv 1) pa_nil)))))
      (pss_one (ps_ret (pe_join pe_str (pv 0)))), ?_⟩
    refine ⟨.ref a, rfl, a, rfl, ⟨_, hS⟩, ?_⟩
    refine for_it (walk_list (K := K) (a := a) (xs := zs.map V.str)) (fun i σ H' => ∃ y, σ = [some (.ref a), y] ∧ Same H H' ∧ ∀ j z, j < i → zs[j]? = some z → hillB none z = true) ?_ ?_ ?_ ?_
    · exact ⟨none, rfl, fun _ _ h => h, fun j z hj => absurd hj (Nat.not_lt_zero _)⟩
    · rintro i σ H' _ ⟨y, rfl, sm, _⟩
      exact sm.seq hS
    · rintro i x σ H1 H2 hi ⟨y, rfl, sm, ok⟩ ⟨rfl, ex⟩
      have hi' : i < zs.length := by
        rw [List.length_map] at hi
        exact hi
      have hzi : zs[i]? = some zs[i] := List.getElem?_eq_getElem hi'
      have ex : x = .str zs[i] := by
        rw [List.getElem?_map, hzi] at ex
        exact (Option.some.inj ex).symm
      subst ex
      have hm : zs[i] ∈ zs := List.mem_of_getElem? hzi
      generalize zs[i] = z at hzi hm
      refine ⟨.str z, rfl, z, none, rfl, hz z hm, fun hh H3 s3 => ?_, fun hh H3 s3 => qe ⟨z, hm, hh⟩ H3 (sm.trans s3)⟩
      refine ⟨_, rfl, sm.trans s3, fun j z' hj hz' => ?_⟩
      by_cases e : j = i
      · subst e
        rw [hzi] at hz'
        cases hz'
        exact hh
      · exact ok j z' (by omega) hz'
    · rintro σ H1 ⟨y, rfl, sm, ok⟩
      rw [List.length_map] at ok
      have allok : ∀ z ∈ zs, hillB none z = true := fun z hm => by
        obtain ⟨j, hj, e⟩ := List.getElem_of_mem hm
        exact ok j z hj (by rw [List.getElem?_eq_getElem hj, e])
      refine ⟨⟨_, rfl⟩, .ref a, rfl, "", a, zs, rfl, rfl, .inl (sm.seq hS), ?_, q allok H1 sm⟩
      have := lens_le zs hz
      rw [len_E]
      omega
end
end Hr
/-! ### lifted -/
namespace Hr
open PySem PySem.Spec PyProof.Rows L2
theorem scLifted : FnScope ["row", "times"] ["row", "times"] (defScope s_lifted) := ⟨rfl, rfl, rfl, by decide +kernel, rfl, by decide +kernel, by decide +kernel⟩
section
variable {P : Program} {w : World} {K : PySem.W.Frag} {mg : Str → Option Value} {base : Heap} {CN CC : Addr}
def spLiftedX (CN CC : Addr) : Sp := fun vs H Q E => ∃ (z : Str) (v : V), vs = [.str z, v] ∧ flatV v = true ∧ z.length ≤ 1000 ∧
  (hillB none z = true → ∀ k : Nat, v = .int (k : Int) → k ≤ 200 → ∀ H', Same H H' → Q (.str (txt (List.replicate k true) ++ z ++ txt (List.replicate k false))) H') ∧
  (hillB none z = false → ∀ H', Same H H' → E (.ref CN) none H') ∧ (hillB none z = true → numB v 200 = false → ∀ H', Same H H' → E (.ref CC) none H')
theorem cal_liftedX (D : DefV K mg "lifted" s_lifted ["row", "times"] (.int 1)) (C : Cal K mg (L2.CX P w) P w base 4 "check_hill" [.non] (spChHillX CN)) (C2 : Cal K mg (L2.CX P w) P w base 2 "check_number" [.int 0] (spChNumX CC)) {t0 t1 t2 : Tok} (gM : mg "MOST_TIMES" = some (.int 200 t0)) (c_UP : mg "UP" = some (.str "u" t1)) (c_DOWN : mg "DOWN" = some (.str "d" t2)) :
    Cal K mg (L2.CX P w) P w base 5 "lifted" [] (spLiftedX CN CC) ∧ Cal K mg (L2.CX P w) P w base 5 "lifted" [.int 1] (spLiftedX CN CC) := by
  refine D.okX scLifted (fun vs H Q E h => ?_) (fun f cdv A outer s H vs Q E hr h => ?_)
  · obtain ⟨z, v, rfl, _⟩ := h
    rfl
  · obtain ⟨z, v, rfl, hv, hz, q, qr, qc⟩ := h
    refine ⟨_, (pss_cons (ps_expr (pe_cX C hr (takes_of rfl rfl rfl rfl) (pa_cons (pv 0) pa_nil)))
    (pss_cons (ps_expr (pe_cX C2 hr (takes_of rfl rfl rfl rfl) (pa_cons (pv 1) (pa_cons (pe_glob (v := .int 200) (by rfl) gM ⟨_, rfl⟩) pa_nil))))
    (pss_one (ps_ret (pe_op op_add_str (pe_op op_add_str (pe_op op_mul_sgn (pe_glob (v := .str "u") (by rfl) c_UP ⟨_, rfl⟩) (pv 1)) (pv 0)) (pe_op op_mul_sgn (pe_glob (v := .str "d") (by rfl) c_DOWN ⟨_, rfl⟩) (pv 1))))))), ?_⟩
    refine ⟨.str z, rfl, z, none, rfl, hz, fun hh H1 s1 => ?_, fun hh => qr hh⟩
    refine ⟨v, rfl, v, 200, rfl, hv, .inl rfl, fun hn => ?_, fun hn => qc hh hn H1 s1⟩
    obtain ⟨k, rfl, hk⟩ := numB_of hn
    have hk : k ≤ 200 := by omega
    refine ⟨_, rfl, true, k, congrArg V.str eU, rfl, by omega, ?_⟩
    refine ⟨_, rfl, _, _, rfl, rfl, sz ?_, ?_⟩
    · rw [txt_len, List.length_replicate]
      omega
    refine ⟨_, rfl, false, k, congrArg V.str eD, rfl, by omega, _, _, rfl, rfl, sz ?_, q hh k rfl hk H1 s1⟩
    rw [PySem.Str.length_append, txt_len, txt_len, List.length_replicate, List.length_replicate]
    omega
end
end Hr
/-! ### reversed(a text), sign by sign from its end -/
namespace Hr
open PySem PySem.Spec PyProof.Rows L2
theorem rv_none : typeLookup (.type "str") "__reversed__" = pure none := by
  rw [typeLookup_type, builtinLookup_eq_fast]
  kernel_rfl
theorem rv_get : typeLookup (.type "str") "__getitem__" = pure (some (.builtin "str.__getitem__")) := by
  rw [typeLookup_type, builtinLookup_eq_fast]
  kernel_rfl
/-- a reversed text at a, the next place i -/
def RvAt (h : Heap) (a : Addr) (z : Str) (t : Tok) (i : Int) : Prop :=
  ∃ o, h.get? a = some o ∧ o.cls = .type "reversed" ∧ o.data = .fields #[.str z t, rawInt i]
def rvO (z : Str) (t : Tok) (i : Int) : Obj := ⟨.type "reversed", none, .fields #[.str z t, rawInt i], #[]⟩
section
variable {prog : Program} {w : World} {A : Around} {E : Value → Shared → Prop} {s : Shared}
theorem rv_code {z : Str} {t : Tok} {Q₁ : Value → Shared → Prop} (hz : z.length ≤ sizeLine)
    (h : Q₁ (.ref s.heap.objs.size) { s with heap := s.heap.push (rvO z t ((z.length : Int) - 1)), toks := s.toks + 1 + 1 }) :
    codeAny (model prog w) A (.call (.builtin "reversed.__new__") ⟨[.type "reversed", .str z t], []⟩) (wants Q₁ E) s := by
  have hT : s.TypeIs (.str z t) "str" := typeIs_str s z t
  have hl := sizeLine_eq
  refine codeAny_of_tree ?_
  show wpAny _ A.in1 (checkBuiltinCall "reversed.__new__" _ >>= fun _ => again _) _ _ s
  refine wpAny_bind (wpAny_of_eq (F.newCall_reversed_1 _) (wpAny_pure ⟨plainId_quiet F.plain_reversed_new _, ?_⟩))
  refine codeAny_builtin F.entry_reversed_new ?_
  rw [Around.under_plainId F.plain_reversed_new _]
  unfold Builtin.«reversed.__new__»
  refine wpAny_bind (wpAny_of_eq (newClass_reversed _) ?_); try dsimp only
  refine wpAny_bind (wpAny_of_eq (a := ()) (by first | rfl | kernel_rfl) ?_); try dsimp only
  refine wpAny_bind (wpAny_of_eq (a := ()) (by first | rfl | kernel_rfl) ?_); try dsimp only
  refine wpAny_bind (wpAny_specialOf hT rv_none ?_); try dsimp only
  refine wpAny_bind ?_
  wp_delta
  refine wpAny_bind (wpAny_isInstance (T := "str") (U := "dict") (b := false) hT PySem.F.sub_str_dict ?_); try dsimp only
  (try rw [if_neg Bool.false_ne_true]); try dsimp only
  refine wpAny_bind (wpAny_specialOf hT rv_get ?_); try dsimp only
  try rw [if_pos (by decide +kernel)]
  refine wpAny_pure ?_; try dsimp only
  (try rw [if_neg (by decide)]); try dsimp only
  refine wpAny_bind (P.len_str (by omega) ?_)
  refine wpAny_bind (wpAny_of_eq (a := some ((z.length : Nat) : Int)) rfl ?_); try dsimp only
  refine wpAny_bind ?_
  show wpAny _ _ (newObj (.type "reversed") (.fields #[.str z t, rawInt ((z.length : Int) - 1)])) _ _ _
  exact wpAny_newObj_type (wpAny_pure h)
theorem rv_call {z : Str} {t : Tok} {Q : Value → Shared → Prop} (hz : z.length ≤ sizeLine)
    (h : Q (.ref s.heap.objs.size) { s with heap := s.heap.push (rvO z t ((z.length : Int) - 1)), toks := s.toks + 1 + 1 }) :
    wpAny (model prog w) A (call (.type "reversed") [.str z t]) Q E s := by
  refine callType_codes (Q₁ := fun v s₁ => s₁.TypeIs v "reversed" ∧ Q v s₁) RT.called_rt (F.typeCall_reversed_1 _) F.entry_object_init (rv_code (A := A.in1) hz ⟨⟨_, Heap.get?_push_size _ rfl, rfl⟩, h⟩) fun v s₁ g => ?_
  have I := RT.called_rt
  exact ⟨g.1, F.args_object_init_2 v _, object_init_meets I.init.lookup I.made (by decide) prog w A.in1 _ s₁ ⟨g.1, rfl, g.2⟩⟩
theorem RvAt.ty {a : Addr} {z : Str} {t : Tok} {i : Int} (x : RvAt s.heap a z t i) : s.TypeIs (.ref a) "reversed" := by
  obtain ⟨o, ho, hc, _⟩ := x
  exact ⟨o, ho, hc⟩
theorem rv_item {it : Addr} {z : Str} {t : Tok} {i c : Nat} {Q : Option Value → Shared → Prop} (hit : RvAt s.heap it z t (i : Int)) (hc : z.cps[i]? = some c) (hz : z.length ≤ sizeLine)
    (hQ : ∀ h' u, RvAt h' it z t ((i : Int) - 1) → Heap.SameBut it s.heap h' → Q (some (.str ⟨#[c]⟩ u)) { s with heap := h', toks := s.toks + 1 + 1 }) : wpAny (model prog w) A (pyNext (.ref it)) Q E s := by
  obtain ⟨o, ho, hcl, hd⟩ := id hit
  have hi : i < z.cps.size := (Array.getElem?_eq_some_iff.mp hc).1
  have hi' : i < z.length := hi
  have hT : s.TypeIs (.str z t) "str" := typeIs_str s z t
  rw [sizeLine_eq] at hz
  unfold pyNext
  refine wpAny_bind (wpAny_attempt (wpAny_callSpecial?_slot (name := Str.ofString "__next__") hit.ty RT.slot_rt_next (wpAny_call_entry RT.slot_rt_next hit.ty RT.entry_rt_next ?_ (RT.args_rt_next _))))
  unfold Builtin.«reversed.__next__»
  refine wpAny_bind (wpAny_of_eq (a := (Value.ref it, [])) rfl ?_); try dsimp only
  refine wpAny_bind (wpAny_field ho hd (x := .str z t) rfl ?_); try dsimp only
  refine wpAny_bind (wpAny_field ho hd (x := rawInt (i : Int)) rfl ?_)
  show wpAny _ _ (if (i : Int) < 0 then _ else _) _ _ s
  rw [if_neg (show ¬ (i : Int) < 0 by omega)]; try dsimp only
  refine wpAny_bind (wpAny_specialOf hT rv_get ?_); try dsimp only
  (try rw [if_neg (by decide)]); try dsimp only
  refine wpAny_bind (wpAny_mkInt ?_)
  refine wpAny_bind (wpAny_attempt ?_)
  have fin : (seqIndex? (i : Int) z.length).bind (z.cps[·]?) = some c := by
    rw [seqIndex_of (by omega) (by omega)]
    exact hc
  refine P.getItem_str (s := { s with toks := s.toks + 1 }) ?_ fin ?_
  · have h1 : ¬ (i : Int) < -(2 ^ 63 : Int) := by omega
    have h2 : ¬ (i : Int) ≥ 2 ^ 63 := by omega
    rw [decide_eq_false h1, decide_eq_false h2]
    rfl
  try dsimp only
  refine wpAny_bind (wpAny_field (s := { s with toks := s.toks + 1 + 1 }) ho hd (x := rawInt (i : Int)) rfl ?_); try dsimp only
  refine wpAny_bind (wpAny_setField (s := { s with toks := s.toks + 1 + 1 }) ho hd (by simp) ?_)
  have last : RvAt (s.heap.update it (Obj.mapFields (·.setIfInBounds 1 (rawInt ((i : Int) - 1))))) it z t ((i : Int) - 1) := by
    refine ⟨_, Heap.get?_update_self _ ho (Obj.isFreed_of_fields (Obj.data_mapFields hd _)), (Obj.cls_mapFields ..).trans hcl, ?_⟩
    rw [Obj.data_mapFields hd]
    simp
  first
  | exact wpAny_pure ⟨_, rfl, wpAny_pure (hQ _ _ last (Heap.SameBut.update ..))⟩
  | exact wpAny_bind (wpAny_pure (wpAny_pure ⟨_, rfl, wpAny_pure (hQ _ _ last (Heap.SameBut.update ..))⟩))
theorem rv_done {it : Addr} {z : Str} {t : Tok} {Q : Option Value → Shared → Prop} (hh : A.handled = none) (hit : RvAt s.heap it z t (-1)) (hQ : ∀ h', Heap.ExtBut it s.heap h' → Q none { s with heap := h' }) :
    wpAny (model prog w) A (pyNext (.ref it)) Q E s := by
  obtain ⟨o, ho, hcl, hd⟩ := id hit
  unfold pyNext
  refine wpAny_bind (wpAny_attempt (wpAny_callSpecial?_slot (name := Str.ofString "__next__") hit.ty RT.slot_rt_next (wpAny_call_entry RT.slot_rt_next hit.ty RT.entry_rt_next ?_ (RT.args_rt_next _))))
  unfold Builtin.«reversed.__next__»
  refine wpAny_bind (wpAny_of_eq (a := (Value.ref it, [])) rfl ?_); try dsimp only
  refine wpAny_bind (wpAny_field ho hd (x := .str z t) rfl ?_); try dsimp only
  refine wpAny_bind (wpAny_field ho hd (x := rawInt (-1)) rfl ?_)
  show wpAny _ _ (if (-1 : Int) < 0 then _ else _) _ _ s
  rw [if_pos (show (-1 : Int) < 0 by decide)]; try dsimp only
  refine wpAny_bind (wpAny_rule ?_)
  refine wpAny_bind ?_
  wp_delta
  refine wpAny_bind (wpAny_setField ho hd (by simp) ?_)
  have ho2 := Heap.get?_update_self (Obj.mapFields fun vs => vs.setIfInBounds 1 (rawInt (-1))) ho (Obj.isFreed_of_fields (Obj.data_mapFields hd _))
  refine wpAny_setField (s := { s with heap := s.heap.update it (Obj.mapFields fun vs => vs.setIfInBounds 1 (rawInt (-1))) }) ho2 (Obj.data_mapFields hd _) (by simp) ?_
  try dsimp only
  first
  | show wpAny _ _ (newExc (.type "StopIteration") [] >>= _) _ _ _
  | (refine wpAny_bind ?_
     show wpAny _ _ (newExc (.type "StopIteration") [] >>= _) _ _ _)
  | (refine wpAny_bind ?_
     wp_delta
     show wpAny _ _ (newExc (.type "StopIteration") [] >>= _) _ _ _)
  refine wpAny_bind ?_
  simp only [newExc, newTuple]
  refine wpAny_bind (wpAny_newObj_type ?_ (by size_fits))
  refine wpAny_bind (m := firstArgMember _ _) (wpAny_of_eq (a := Value.none) (by first | rfl | (simp only [firstArgMember]; rfl)) ?_)
  refine wpAny_newObj_type ?_ (by size_fits)
  simp only [raiseNew]
  refine wpAny_bind (wpAny_handled ?_)
  first | rw [show A.in1.handled = none from hh] | rw [hh]
  refine wpAny_bind (wpAny_pure (wpAny_throw ?_))
  refine wpAny_bind (wpAny_isInstance (T := "StopIteration") (b := true) ⟨_, Heap.get?_push_size _ rfl, rfl⟩ isSubtype_stop ?_)
  refine wpAny_pure (hQ _ (Heap.ExtBut.push (Heap.ExtBut.push ?_ _) _))
  intro b ob hb e
  have h1 := Heap.get?_update_other s.heap (Obj.mapFields fun vs => vs.setIfInBounds 1 (rawInt (-1))) (Ne.symm hb)
  exact (Heap.get?_update_other _ _ (Ne.symm hb)).trans (h1.trans e)
theorem rv_iter {it : Addr} {z : Str} {t : Tok} {i : Int} {Q : Value → Shared → Prop} (hit : RvAt s.heap it z t i) (h : Q (.ref it) s) : wpAny (model prog w) A (pyIter (.ref it)) Q E s := by
  refine wpAny_pyIter_slot hit.ty RT.slot_rt_iter ?_
  refine wpAny_call_entry RT.slot_rt_iter hit.ty RT.entry_rt_iter ?_ (RT.args_rt_iter _)
  exact wpAny_pure ⟨_, rfl, "reversed", _, hit.ty, RT.slot_rt_next.lookup, h⟩
end
/-- its turns -/
def ItsR (z : Str) : It := ⟨fun i _ => i < z.length, fun i H v H' => H' = H ∧ ∃ c, z.cps[z.length - 1 - i]? = some c ∧ v = .str ⟨#[c]⟩, fun i _ => z.length ≤ i⟩
theorem turn_rv {P : Program} {w : World} {K : PySem.W.Frag} {tg : Expr} (it : Addr) (z : Str) (t : Tok) (hz : z.length ≤ sizeLine) : Turn P w K tg (ItsR z) [it] it (fun i h => i ≤ z.length ∧ RvAt h it z t ((z.length : Int) - 1 - (i : Nat))) where
  mem := by simp
  obj := fun i h st b hb => by
    obtain rfl : b = it := by simpa using hb
    obtain ⟨_, o, e, c, d⟩ := st
    refine ⟨o, e, fun v q => ?_⟩
    rw [d] at q
    cases q
  keep := fun i h h' st k => by
    obtain ⟨h0, o, e, r⟩ := st
    exact ⟨h0, o, k it (by simp) o e, r⟩
  item := by
    intro X hP hw hK hc i pins s σ H E I hf st hg
    subst hP hw hK
    have hg : i < z.length := hg
    obtain ⟨f0, f1, f2, f3, f4, f5⟩ := hf it (by simp)
    obtain ⟨_, hit⟩ := st
    have e1 : (z.length : Int) - 1 - ((i : Nat) : Int) = ((z.length - 1 - i : Nat) : Int) := by omega
    have hlt : z.length - 1 - i < z.cps.size := by
      show z.length - 1 - i < z.length
      omega
    rw [e1] at hit
    refine rv_item hit (Array.getElem?_eq_getElem hlt) hz fun h' u st' sb => ?_
    have e2 : ((z.length - 1 - i : Nat) : Int) - 1 = (z.length : Int) - 1 - ((i + 1 : Nat) : Int) := by omega
    rw [e2] at st'
    have I1 : Inv X pins σ H { s with heap := h', toks := s.toks + 1 + 1 } := I.turned (fun b o hb e => (sb.2 b hb).trans e) f0 f1 f3 f4 f5
    obtain ⟨o, e, c, d⟩ := id st'
    refine ⟨_, rfl, go_of (s := { s with heap := h', toks := s.toks + 1 + 1 }) e c d (by decide) ?_⟩
    exact ⟨.str ⟨#[z.cps[z.length - 1 - i]]⟩, H, I1, ⟨u, rfl⟩, ⟨rfl, _, Array.getElem?_eq_getElem hlt, rfl⟩, ⟨hg, st'⟩, fun b hb => (hf b hb).1⟩
  done := by
    intro X hP hw hK hc i pins s σ H E I hf st hg
    subst hP hw hK
    have hg : z.length ≤ i := hg
    obtain ⟨f0, f1, f2, f3, f4, f5⟩ := hf it (by simp)
    obtain ⟨h0, hit⟩ := st
    have e1 : (z.length : Int) - 1 - ((i : Nat) : Int) = -1 := by omega
    rw [e1] at hit
    exact rv_done (I.ok.hd hc) hit fun h' eb => ⟨rfl, I.turned (t' := s.toks) (fun b o hb e => eb b o hb e) f0 f1 f3 f4 f5⟩
  self := fun A i s Q E st h => rv_iter st.2 h
def iRevS (te : TE) : TI := fun σ H R => te σ H fun v H1 => ∃ z : Str, v = .str z ∧ z.length ≤ sizeLine ∧ R (ItsR z) H1
theorem pi_revS {X : Cx} {tg e : Expr} {te : TE} {p pos : Pos} (hg : Gl X "reversed") (hm : X.mg "reversed" = none) (he : PE X e te) (hs : starEach [e] X.env = (false, eval e X.env) :: starEach [] X.env := by rfl) :
    PI X tg (.Call (.Name "reversed" p) [e] [] pos) (iRevS te) := by
  refine ⟨fun pins s σ H R I h => ?_⟩
  refine Call_ (ld_blt I hg hm PyProof.Rows.boot_reversed (PyProof.Rows.callWith_type1 (args_cons (thn (he.run pins s σ H _ I h) fun u s1 q0 => args_nil ?_) hs) hs rfl))
  obtain ⟨v, H1, I1, r1, z, rfl, hz, q⟩ := q0
  obtain ⟨t, rfl⟩ := r1
  have e1 : ((z.length : Nat) : Int) - 1 = (z.length : Int) - 1 - ((0 : Nat) : Int) := by omega
  refine rv_call hz (rv_iter (z := z) (t := t) (i := (z.length : Int) - 1) ⟨_, Heap.get?_push_size _ rfl, rfl, rfl⟩ ?_)
  refine pi_one (tk := s1.toks + 1 + 1) I1 _ (turn_rv _ z t hz) ⟨Nat.zero_le _, ?_⟩ q
  rw [← e1]
  exact ⟨_, Heap.get?_push_size _ rfl, rfl, rfl⟩
theorem walk_revS {z : Str} : Walk (ItsR z) z.length (fun _ => True) (fun i H v H' => H' = H ∧ ∃ c, z.cps[z.length - 1 - i]? = some c ∧ v = .str ⟨#[c]⟩) :=
  ⟨fun _ _ hi _ => hi, fun _ _ => Nat.le_refl _, fun _ _ _ _ _ _ y => y⟩
end Hr
/-! ### mirrored -/
namespace Hr
open PySem PySem.Spec PyProof.Rows L2
theorem scMir : FnScope ["row", "sign"] ["row"] (defScope s_mirrored) := ⟨rfl, rfl, rfl, by decide +kernel, rfl, by decide +kernel, by decide +kernel⟩
theorem hill_row {z : Str} (h : hillB none z = true) : ∃ l, z = txt l ∧ okb none 0 l = true := by
  obtain ⟨h1, h2⟩ := Bool.and_eq_true_iff.mp h
  exact ⟨signs z, (txt_signs h1).symm, h2⟩
theorem mir_get (l : List Bool) {i : Nat} {b : Bool} (hi : i < l.length) (h : l[l.length - 1 - i]? = some b) : (mir l)[i]? = some (!b) := by
  unfold mir
  rw [List.getElem?_map, List.getElem?_reverse hi, h]
  rfl
section
variable {P : Program} {w : World} {K : PySem.W.Frag} {mg : Str → Option Value} {base : Heap} {CN : Addr}
def spMirX (CN : Addr) : Sp := fun vs H Q E => ∃ z : Str, vs = [.str z] ∧ z.length ≤ 1000 ∧ (∀ l, z = txt l → okb none 0 l = true → ∀ H', Same H H' → Q (.str (txt (mir l))) H') ∧ (hillB none z = false → ∀ H', Same H H' → E (.ref CN) none H')
theorem cal_mirX (D : Def K mg "mirrored" s_mirrored ["row"]) (C : Cal K mg (L2.CX P w) P w base 4 "check_hill" [.non] (spChHillX CN)) (m_reversed : mg "reversed" = none) {t1 t2 : Tok} (c_UP : mg "UP" = some (.str "u" t1)) (c_DOWN : mg "DOWN" = some (.str "d" t2)) : Cal K mg (L2.CX P w) P w base 5 "mirrored" [] (spMirX CN) := by
  refine D.calX scMir (fun vs H Q E h => ?_) (fun f cdv A outer s H vs Q E hr h => ?_)
  · obtain ⟨z, rfl, _⟩ := h
    rfl
  · obtain ⟨z, rfl, hz, q, qe⟩ := h
    have nd := scMir.nd
    refine ⟨_, (pss_cons (ps_expr (pe_cX C hr (takes_of rfl rfl rfl rfl) (pa_cons (pv 0) pa_nil)))
    (pss_one (ps_ret (pe_join pe_str (pe_lc (own := [("sign", 1)]) (g := gName 1) (tt := tYes) rfl nd (pi_revS (by rfl) m_reversed (pv 0)) (blkOk_by (N := ["row", "sign"]) (sc := defScope s_mirrored) (by decide +kernel)) (fun _ _ _ _ _ => (pg_name (i := 1) nd rfl (Or.inl rfl) (Or.inr rfl))) (fun _ _ _ _ _ => pts_nil) (fun _ _ _ _ _ => (pe_ifExp (pt_cmpR op_eq (pv 1) (pe_glob (v := .str "u") (by rfl) c_UP ⟨_, rfl⟩) (nomark _)) (pe_glob (v := .str "d") (by rfl) c_DOWN ⟨_, rfl⟩) (pe_glob (v := .str "u") (by rfl) c_UP ⟨_, rfl⟩)))))))), ?_⟩
    refine ⟨.str z, rfl, z, none, rfl, hz, fun hh H1 s1 => ?_, fun hh => qe hh⟩
    obtain ⟨l, rfl, ok⟩ := hill_row hh
    have hzl : (txt l).length = l.length := txt_len l
    refine ⟨⟨_, rfl⟩, .str (txt l), rfl, txt l, rfl, sz (by rw [hzl]; omega), fun D nD => ?_⟩
    have n0 : H D = none := s1.free nD
    refine lc_it walk_revS (fun i H' => Same H H' ∧ H' D = some (.lst (((mir l).take i).map fun b => V.str (sgn b)))) ⟨same_updN s1 n0, upd_same⟩ (fun _ _ _ _ => trivial) ?_ ?_
    · rintro i x H2 H3 hi ⟨sm, eD⟩ ⟨rfl, c, hc, rfl⟩
      rw [hzl] at hi hc
      rw [txt_at] at hc
      obtain ⟨b, hb, rfl⟩ := Option.map_eq_some_iff.mp hc
      have hm := mir_get l hi hb
      refine ⟨rfl, ?_⟩
      unfold tYes
      refine iteT ?_
      have hsz : (((mir l).take i).map fun b => V.str (sgn b)).length < sizeLine := szl (by
        rw [List.length_map, List.length_take]
        omega)
      have fin : (((mir l).take (i + 1)).map fun b => V.str (sgn b)) = (((mir l).take i).map fun b => V.str (sgn b)) ++ [.str (sgn (!b))] := by
        rw [take_snoc hm, List.map_append]
        rfl
      refine ⟨.str ⟨#[code b]⟩, rfl, rfl, decide (code b = 117), congrArg V.bl (is_u _), ?_⟩
      rw [code_u]
      cases b with
      | true =>
        refine iteT ?_
        refine ⟨_, eD, hsz, same_updN sm n0, ?_⟩
        rw [upd_same, fin]
        rfl
      | false =>
        refine iteF ?_
        refine ⟨_, eD, hsz, same_updN sm n0, ?_⟩
        rw [upd_same, fin]
        rfl
    · rintro H2 ⟨sm, eD⟩
      rw [hzl, List.take_of_length_le (by rw [mir_len]; exact Nat.le_refl _)] at eD
      refine ⟨"", D, (mir l).map sgn, rfl, rfl, .inl (.inl (.inl (by rw [List.map_map]; exact eD))), ?_, ?_⟩
      · rw [sgn_sum, mir_len, len_E]
        omega
      · rw [join_signs]
        exact q l rfl ok H2 sm
end
end Hr
/-! ### parts and cut -/
namespace Hr
open PySem PySem.Spec PyProof.Rows L2
theorem scParts : FnScope ["row", "ends", "place", "height", "start", "end"] ["row"] (defScope s_parts) := ⟨rfl, rfl, rfl, by decide +kernel, rfl, by decide +kernel, by decide +kernel⟩
theorem scCut : FnScope ["row", "hills", "first"] ["row"] (defScope s_cut) := ⟨rfl, rfl, rfl, by decide +kernel, rfl, by decide +kernel, by decide +kernel⟩
/-- texts of rows as values -/
def rowsV (ls : List (List Bool)) : List V := ls.map fun l => V.str (txt l)
theorem rowsV_snoc (ls : List (List Bool)) (l : List Bool) : rowsV (ls ++ [l]) = rowsV ls ++ [.str (txt l)] := by
  unfold rowsV
  rw [List.map_append]
  rfl
theorem rowsV_strs (ls : List (List Bool)) : rowsV ls = (ls.map txt).map V.str := by
  unfold rowsV
  rw [List.map_map]
  rfl
def placesV (zs : List Nat) : List V := zs.map fun i : Nat => V.int (i : Int)
/-- the places of height 0 below n -/
def zeroB (l : List Bool) (n : Nat) : List Nat := (List.range n).filter fun i => decide (hgt l i = 0)
theorem zeroB_succ (l : List Bool) (n : Nat) : zeroB l (n + 1) = zeroB l n ++ (if hgt l n = 0 then [n] else []) := by
  unfold zeroB
  rw [List.range_succ, List.filter_append]
  congr 1
  by_cases h : hgt l n = 0
  · rw [if_pos h, List.filter_cons_of_pos (by simpa using h)]
    rfl
  · rw [if_neg h, List.filter_cons_of_neg (by simpa using h)]
    rfl
theorem zeroB_len (l : List Bool) (n : Nat) : (zeroB l n).length ≤ n := by
  unfold zeroB
  have := List.length_filter_le (fun i => decide (hgt l i = 0)) (List.range n)
  rw [List.length_range] at this
  exact this
theorem zeros_up (l : List Bool) : ∀ (n i a b : Nat), (zeroB l n)[i]? = some a → (zeroB l n)[i + 1]? = some b → a ≤ b ∧ b < n
  | 0, i, a, b, h, _ => by cases h
  | n + 1, i, a, b, h1, h2 => by
    have hb : b ∈ zeroB l (n + 1) := List.mem_of_getElem? h2
    have hb' : b < n + 1 := List.mem_range.mp (List.mem_filter.mp hb).1
    refine ⟨?_, hb'⟩
    have hp : (zeroB l (n + 1)).Pairwise (· < ·) := List.Pairwise.filter _ List.pairwise_lt_range
    obtain ⟨p1, e1⟩ := List.getElem?_eq_some_iff.mp h1
    obtain ⟨p2, e2⟩ := List.getElem?_eq_some_iff.mp h2
    have := List.pairwise_iff_getElem.mp hp i (i + 1) p1 p2 (by omega)
    rw [e1, e2] at this
    omega
section
variable {P : Program} {w : World} {K : PySem.W.Frag} {mg : Str → Option Value} {base : Heap} {CN : Addr}
/-- the hills of a row, or NoRow -/
def spPartsX (CN : Addr) : Sp := fun vs H Q E => ∃ z : Str, vs = [.str z] ∧ z.length ≤ 1000 ∧ (∀ g : Gv, z = txt g.row → ∀ H' p, Same H H' → H p = none → H' p = some (.lst (rowsV (hillsOf g))) → Q (.ref p) H') ∧ (hillB none z = false → ∀ H', Same H H' → E (.ref CN) none H')
theorem hill_grove {z : Str} (h : hillB none z = true) : ∃ g : Gv, z = txt g.row := by
  obtain ⟨h1, h2⟩ := Bool.and_eq_true_iff.mp h
  obtain ⟨g, hg⟩ := grove_row h2
  exact ⟨g, by rw [hg, txt_signs h1]⟩
theorem cal_partsX (D : Def K mg "parts" s_parts ["row"]) (C : Cal K mg (L2.CX P w) P w base 4 "check_hill" [.non] (spChHillX CN)) (C2 : Cal K mg (L2.CX P w) P w base 2 "heights" [] (spHeightsX CN)) (m_enumerate : mg "enumerate" = none) (m_zip : mg "zip" = none) : Cal K mg (L2.CX P w) P w base 5 "parts" [] (spPartsX CN) := by
  refine D.calX scParts (fun vs H Q E h => ?_) (fun f cdv A outer s H vs Q E hr h => ?_)
  · obtain ⟨z, rfl, _⟩ := h
    rfl
  · obtain ⟨z, rfl, hz, q, qe⟩ := h
    have nd := scParts.nd
    refine ⟨_, (pss_cons (ps_expr (pe_cX C hr (takes_of rfl rfl rfl rfl) (pa_cons (pv 0) pa_nil)))
    (pss_cons (ps_setLc (i := 1) (own := [("place", 2), ("height", 3)]) (g := gTup K 2 (gCons (gName 2) (gCons (gName 3) gNil))) rfl nd rfl rfl (sw_true rfl rfl rfl (by decide +kernel)) (pi_enum (by rfl) m_enumerate (pa_cons (pe_cX C2 hr (takes_of rfl rfl rfl rfl) (pa_cons (pv 0) pa_nil)) pa_nil)) (blkOk_by (N := ["row", "ends", "place", "height", "start", "end"]) (sc := defScope s_parts) (by decide +kernel)) (fun _ _ _ _ _ => (pg_tup rfl (pgs_cons (pg_name (i := 2) nd rfl (Or.inl rfl) (Or.inr rfl)) (pgs_cons (pg_name (i := 3) nd rfl (Or.inl rfl) (Or.inr rfl)) pgs_nil)))) (fun _ _ _ _ _ => pts_one (pt_cmpR op_eq (pv 3) pe_int (nomark _))) (fun _ _ _ _ _ => (pv 2)))
    (pss_one (ps_ret (pe_lc (own := [("start", 4), ("end", 5)]) (g := gTup K 2 (gCons (gName 4) (gCons (gName 5) gNil))) (tt := tYes) rfl nd (pi_zip (by rfl) m_zip (pa_cons (pv 1) (pa_cons (pe_slice sl_list (pv 1) (po_some pe_int) po_none) pa_nil))) (blkOk_by (N := ["row", "ends", "place", "height", "start", "end"]) (sc := defScope s_parts) (by decide +kernel)) (fun _ _ _ _ _ => (pg_tup rfl (pgs_cons (pg_name (i := 4) nd rfl (Or.inl rfl) (Or.inr rfl)) (pgs_cons (pg_name (i := 5) nd rfl (Or.inl rfl) (Or.inr rfl)) pgs_nil)))) (fun _ _ _ _ _ => pts_nil) (fun _ _ _ _ _ => (pe_slice sl_str (pv 0) (po_some (pv 4)) (po_some (pv 5))))))))), ?_⟩
    refine ⟨.str z, rfl, z, none, rfl, hz, fun hh H1 s1 => ?_, fun hh => qe hh⟩
    obtain ⟨g, rfl⟩ := hill_grove hh
    have q1 := q g rfl
    clear q
    have okl := g.row_hill
    have hsg := segs_zeros g
    have sgt : signs (txt g.row) = g.row := signs_txt _
    have rwb : isRowB (txt g.row) = true := isRowB_txt _
    rw [txt_len] at hz
    have hzl : (txt g.row).length = g.row.length := txt_len _
    generalize el : g.row = l at *
    refine ⟨.str (txt l), rfl, txt l, rfl, by rw [hzl]; exact hz, fun _ H2 p s2 np ep => ?_, fun e => absurd (rwb.symm.trans e) (by decide)⟩
    rw [sgt] at ep
    refine ⟨p, _, rfl, .inl (.inl ep), fun D nD => ?_⟩
    have s12 := s1.trans s2
    have hl0 : ((hts 0 l).map V.int).length = l.length + 1 := by rw [List.length_map, hts_len]
    have pD : p ≠ D := ne_of_none ep nD
    refine lc_it (walk_enum (K := K) (a := p) (xs := (hts 0 l).map V.int)) (fun i H' => Same H H' ∧ H' p = some (.lst ((hts 0 l).map V.int)) ∧ H' D = some (.lst (placesV (zeroB l i)))) ?_ ?_ ?_ ?_
    · refine ⟨same_updN s12 (s12.free nD), ?_, upd_same⟩
      rw [upd_ne pD]
      exact ep
    · rintro i H' _ ⟨_, ec, _⟩
      exact .inl (.inl ec)
    · rintro i x H3 H4 hi ⟨sm, ec, eD⟩ ⟨T, k0, v, rfl, nT, rfl, ek, ev⟩
      have ek : k0 = .int (i : Int) := (Option.some.inj ek).symm
      subst ek
      rw [hl0] at hi
      have ev : v = .int (hgt l i) := by
        have ev : ((hts 0 l).map V.int)[i]? = some v := ev
        rw [List.getElem?_map, hts_get l 0 i (by omega), Int.zero_add] at ev
        exact (Option.some.inj ev).symm
      subst ev
      have st := same_upd (o := .tup [.int (i : Int), .int (hgt l i)]) nT
      have nD0 : H D = none := s12.free nD
      have g1 := st _ _ ec
      have gD := st _ _ eD
      have sT := sm.trans st
      refine ⟨T, _, rfl, .inl (.inl upd_same), rfl, _, _, rfl, _, _, rfl, rfl, rfl, ?_⟩
      generalize upd H3 T (.tup [.int (i : Int), .int (hgt l i)]) = H5 at g1 gD sT ⊢
      refine ⟨_, rfl, rfl, _, rfl, ite2 (fun e => ?_) (fun e => ?_)⟩
      · have e0 : hgt l i = 0 := V.int.inj (of_decide_eq_true e)
        have hlen : (placesV (zeroB l i)).length < sizeLine := szl (by
          have := zeroB_len l i
          unfold placesV
          rw [List.length_map]
          omega)
        refine ⟨_, rfl, _, gD, hlen, same_updN sT nD0, by rw [upd_ne pD]; exact g1, ?_⟩
        rw [upd_same, zeroB_succ, if_pos e0]
        unfold placesV
        rw [List.map_append]
        rfl
      · have e0 : hgt l i ≠ 0 := fun z => e (decide_eq_true (by rw [z]))
        refine ⟨sT, g1, ?_⟩
        rw [gD, zeroB_succ, if_neg e0, List.append_nil]
    · rintro H3 ⟨sm, ec, eD⟩
      rw [hl0] at eD
      have ez : zeroB l (l.length + 1) = zeros l := rfl
      rw [ez] at eD
      have nzl := zeroB_len l (l.length + 1)
      rw [ez] at nzl
      refine ⟨_, rfl, _, rfl, 1, rfl, D, _, rfl, .inl (.inl eD), fun p2 np2 => ?_⟩
      have cutD : cutV (placesV (zeros l)) (some 1) none = placesV ((zeros l).drop 1) := by
        unfold cutV placesV
        rw [show (1 : Int) = ((1 : Nat) : Int) from rfl, HT.sIx_nat, List.length_map, HT.sIx_none]
        by_cases h1 : 1 ≤ (zeros l).length
        · rw [Nat.min_eq_left h1, List.take_of_length_le (by rw [List.length_drop, List.length_map]; exact Nat.le_refl _), List.map_drop]
        · have : zeros l = [] := List.eq_nil_of_length_eq_zero (by omega)
          rw [this]
          rfl
      rw [cutD]
      have s3 := sm.trans (same_upd (o := .lst (placesV ((zeros l).drop 1))) np2)
      have n2 : D ≠ p2 := ne_of_none eD np2
      have gD : (upd H3 p2 (.lst (placesV ((zeros l).drop 1)))) D = some (.lst (placesV (zeros l))) := by
        rw [upd_ne n2]
        exact eD
      have g2 : (upd H3 p2 (.lst (placesV ((zeros l).drop 1)))) p2 = some (.lst (placesV ((zeros l).drop 1))) := upd_same
      generalize upd H3 p2 (.lst (placesV ((zeros l).drop 1))) = H4 at s3 gD g2 ⊢
      refine ⟨D, p2, _, _, rfl, .inl (.inl gD), .inl (.inl g2), fun D2 nD2 => ?_⟩
      have d1 : D ≠ D2 := ne_of_none gD nD2
      have d2 : p2 ≠ D2 := ne_of_none g2 nD2
      have hn : (zeros l).length - 1 = min (placesV (zeros l)).length (placesV ((zeros l).drop 1)).length := by
        unfold placesV
        rw [List.length_map, List.length_map, List.length_drop]
        omega
      refine lc_it (walk_zip (K := K) (a := D) (b := p2) (xs := placesV (zeros l)) (ys := placesV ((zeros l).drop 1)) (n := (zeros l).length - 1) hn) (fun i H' => Same H H' ∧ H' D = some (.lst (placesV (zeros l))) ∧ H' p2 = some (.lst (placesV ((zeros l).drop 1))) ∧ H' D2 = some (.lst (rowsV ((segs l (zeros l)).take i)))) ?_ ?_ ?_ ?_
      · refine ⟨same_updN s3 (s3.free nD2), ?_, ?_, upd_same⟩
        · rw [upd_ne d1]
          exact gD
        · rw [upd_ne d2]
          exact g2
      · rintro i H' _ ⟨_, h1, h2, _⟩
        exact ⟨.inl (.inl h1), .inl (.inl h2)⟩
      · rintro i x H5 H6 hi ⟨sm5, h1, h2, hD⟩ ⟨T, u, v, rfl, nT, rfl, eu, ev⟩
        have hi1 : i < (zeros l).length := by omega
        have hi2 : i + 1 < (zeros l).length := by omega
        have z1 : (zeros l)[i]? = some (zeros l)[i] := List.getElem?_eq_getElem hi1
        have z2 : (zeros l)[i + 1]? = some (zeros l)[i + 1] := List.getElem?_eq_getElem hi2
        generalize (zeros l)[i] = a at z1
        generalize (zeros l)[i + 1] = b at z2
        have eu : u = .int (a : Int) := by
          have : (placesV (zeros l))[i]? = some u := eu
          unfold placesV at this
          rw [List.getElem?_map, z1] at this
          exact (Option.some.inj this).symm
        have ev : v = .int (b : Int) := by
          have : (placesV ((zeros l).drop 1))[i]? = some v := ev
          unfold placesV at this
          rw [List.getElem?_map, List.getElem?_drop, Nat.add_comm, z2] at this
          exact (Option.some.inj this).symm
        subst eu ev
        have hab : a ≤ b ∧ b < l.length + 1 := zeros_up l (l.length + 1) i a b z1 z2
        have st := same_upd (o := .tup [.int (a : Int), .int (b : Int)]) nT
        have g1' := st _ _ h1
        have g2' := st _ _ h2
        have gD' := st _ _ hD
        have sT := sm5.trans st
        refine ⟨T, _, rfl, .inl (.inl upd_same), rfl, _, _, rfl, _, _, rfl, rfl, rfl, ?_⟩
        generalize upd H5 T (.tup [.int (a : Int), .int (b : Int)]) = H7 at g1' g2' gD' sT ⊢
        unfold tYes
        refine iteT ?_
        refine ⟨_, rfl, _, rfl, _, rfl, _, rfl, _, rfl, txt l, rfl, sz (by rw [hzl]; omega), _, gD', ?_, ?_⟩
        · unfold rowsV
          rw [List.length_map, List.length_take, segs_len]
          exact szl (by omega)
        · refine ⟨same_updN sT (s3.free nD2), by rw [upd_ne d1]; exact g1', by rw [upd_ne d2]; exact g2', ?_⟩
          rw [upd_same, take_snoc (segs_get l (zeros l) i a b z1 z2), rowsV_snoc, cutS_mid hab.1 (by omega)]
      · rintro H5 ⟨sm5, h1, h2, hD⟩
        rw [List.take_of_length_le (by rw [segs_len]; exact Nat.le_refl _), hsg] at hD
        exact q1 H5 D2 sm5 (s3.free nD2) hD
/-- the first hill's inside and what is behind -/
def spCutX (CN : Addr) : Sp := fun vs H Q E => ∃ z : Str, vs = [.str z] ∧ z.length ≤ 1000 ∧ (∀ a b : Gv, z = txt (Gv.tree a b).row → ∀ H' p, Same H H' → H p = none → H' p = some (.tup [.str (txt a.row), .str (txt b.row)]) → Q (.ref p) H') ∧ ((z = txt [] ∨ hillB none z = false) → ∀ H', Same H H' → E (.ref CN) none H')
theorem tree_row (a b : Gv) : (Gv.tree a b).row = (true :: (a.row ++ [false])) ++ b.row := by
  show true :: (a.row ++ false :: b.row) = _
  rw [List.cons_append, List.append_assoc]
  rfl
theorem cal_cutX (er : Err K mg "NoRow" CN) (D : Def K mg "cut" s_cut ["row"]) (C : Cal K mg (L2.CX P w) P w base 5 "parts" [] (spPartsX CN)) (m_len : mg "len" = none) : Cal K mg (L2.CX P w) P w base 6 "cut" [] (spCutX CN) := by
  refine D.calX scCut (fun vs H Q E h => ?_) (fun f cdv A outer s H vs Q E hr h => ?_)
  · obtain ⟨z, rfl, _⟩ := h
    rfl
  · obtain ⟨z, rfl, hz, q, qe⟩ := h
    have nd := scCut.nd
    refine ⟨_, (pss_cons (ps_set (i := 1) nd rfl (.inl rfl) (pe_cX C hr (takes_of rfl rfl rfl rfl) (pa_cons (pv 0) pa_nil)))
    (pss_cons (ps_if (pt_not (pt_truth (pv 1) (by intro _; rfl))) (pss_one (ps_raise rfl (takes_of rfl rfl rfl rfl) (pmk_own PySem.F.excBase_ValueError er.x er.g er.k (raises_own er.b er.t) rfl))) pss_nil)
    (pss_cons (ps_set (i := 2) nd rfl (.inl rfl) (pe_ix ix_list (pv 1) pe_int (fun _ _ => rfl)))
    (pss_one (ps_ret (pe_tup (pa_cons (pe_slice sl_str (pv 2) (po_some pe_int) (po_some (pe_un un_neg pe_int))) (pa_cons (pe_slice sl_str (pv 0) (po_some (pe_callB call_len_str (by rfl) m_len PySem.boot_len (pa_cons (pv 2) pa_nil))) po_none) pa_nil)))))))), ?_⟩
    refine ⟨.str z, rfl, z, rfl, hz, fun g hg H1 p s1 np ep => ?_, fun hh => qe (.inr hh)⟩
    subst hg
    refine ⟨_, rfl, (!(rowsV (hillsOf g)).isEmpty), .inl ⟨_, .inl (.inl ep), rfl⟩, ?_⟩
    cases g with
    | no =>
      refine iteT ?_
      exact qe (.inl rfl) H1 s1
    | tree a b =>
      refine iteF ?_
      have hl : (txt (Gv.tree a b).row).length = a.row.length + 2 + b.row.length := by
        rw [txt_len, tree_row, List.length_append, List.length_cons, List.length_append]
        rfl
      have hf : (txt (true :: (a.row ++ [false]))).length = a.row.length + 2 := by
        rw [txt_len, List.length_cons, List.length_append]
        rfl
      refine ⟨_, rfl, p, _, _, .str (txt (true :: (a.row ++ [false]))), rfl, rfl, .inl (.inl ep), at_of (j := 0) rfl rfl, ?_⟩
      refine ⟨_, rfl, 1, rfl, 1, rfl, _, rfl, txt (true :: (a.row ++ [false])), rfl, sz (by omega), ?_⟩
      refine ⟨_, rfl, _, rfl, txt (true :: (a.row ++ [false])), rfl, sz (by omega), _, rfl, txt (Gv.tree a b).row, rfl, sz (by omega), ?_⟩
      refine ⟨sz (show 2 ≤ 1000000 by decide), fun t nt => ?_⟩
      refine q a b rfl _ t (s1.trans (same_upd nt)) (s1.free nt) ?_
      rw [upd_same]
      congr 2
      have e1 : cutS (txt (true :: (a.row ++ [false]))) (some 1) (some (-1)) = txt a.row := cutS_in _ _ _
      have e2 : cutS (txt (Gv.tree a b).row) (some ((txt (true :: (a.row ++ [false]))).length : Int)) none = txt b.row := by
        rw [txt_len, cutS_from (by rw [tree_row, List.length_append]; omega), tree_row, List.drop_left']
        rfl
      show [V.str (cutS (txt (true :: (a.row ++ [false]))) (some 1) (some (-1))), V.str (cutS (txt (Gv.tree a b).row) (some ((txt (true :: (a.row ++ [false]))).length : Int)) none)] = _
      rw [e1, e2]
end
end Hr
/-! ### list(reversed(a tuple)) -/
namespace Hr
open PySem PySem.Spec PyProof.Rows L2
theorem lr_nolen : typeLookup (.type "reversed") "__len__" = pure none := by
  rw [typeLookup_type, builtinLookup_eq_fast]
  kernel_rfl
theorem lr_slot : Slot "reversed" "__length_hint__" "reversed.__length_hint__" := by
  refine .of (owner := "reversed") (n := "__length_hint__") ?_ (by decide +kernel) (by decide +kernel) (by decide +kernel) ?_ ?_
  · rw [typeLookup_type, builtinLookup_eq_fast]
    kernel_rfl
  · first
    | exact .inl (by decide +kernel)
    | exact .inr (by decide +kernel)
  · rw [isSubtype_type]
    kernel_rfl
theorem lr_entry : entryFor table "reversed.__length_hint__" = some Builtin.«reversed.__length_hint__» := entryFor_of_tree (by kernel_rfl)
theorem lr_args (a : Value) : argsOk "reversed.__length_hint__" ⟨[a], []⟩ := by
  unfold argsOk
  rw [signature?_of (id := "reversed.__length_hint__") (n := ['_', '_', 't', 'n', 'i', 'h', '_', 'h', 't', 'g', 'n', 'e', 'l', '_', '_']) (o := ['d', 'e', 's', 'r', 'e', 'v', 'e', 'r']) (by kernel_rfl) RT.owner_rt]
  kernel_rfl
section
variable {prog : Program} {w : World} {A : Around} {E : Value → Shared → Prop} {s : Shared}
theorem lr_walks (hh : A.handled = none) (I t : Addr) (hne : t ≠ I) (items : Array Value) (hz : items.size ≤ sizeLine) :
    Walks prog w A I [I, t] [I] items.size (fun i v => items[items.size - 1 - i]? = some v) (fun i h => i ≤ items.size ∧ RT.IsRt h I t ((items.size : Int) - 1 - (i : Int)) ∧ IsTup h t items) where
  sub := fun b hb => by
    rw [List.mem_singleton.mp hb]
    exact List.mem_cons_self ..
  frame := fun i h h' x hk => by
    obtain ⟨h0, h1, o, ho, r⟩ := x
    exact ⟨h0, h1.at fun o e => hk I (by simp) o e, o, hk t (by simp) o ho, r⟩
  item := fun i s Q E hi x hQ => by
    obtain ⟨h0, hit, ht⟩ := x
    have e1 : (items.size : Int) - 1 - (i : Int) = ((items.size - 1 - i : Nat) : Int) := by omega
    rw [e1] at hit
    have hx : items[items.size - 1 - i]? = some (items[items.size - 1 - i]'(by omega)) := Array.getElem?_eq_getElem (by omega)
    refine RT.next_rt_item hit ht hx hz fun h' hit' sb => ?_
    have e2 : ((items.size - 1 - i : Nat) : Int) - 1 = (items.size : Int) - 1 - ((i + 1 : Nat) : Int) := by omega
    rw [e2] at hit'
    obtain ⟨o, ho, r⟩ := ht
    refine hQ _ h' (s.toks + 1) hx ⟨hi, hit', o, (sb.2 t hne).trans ho, r⟩ fun b o hb eo => ?_
    exact (sb.2 b fun z => hb (by simp [z])).trans eo
  done := fun s Q E x hQ => by
    obtain ⟨_, hit, _⟩ := x
    have e1 : (items.size : Int) - 1 - (items.size : Int) = -1 := by omega
    rw [e1] at hit
    refine RT.next_rt_end hh hit fun h' he => hQ h' s.toks fun b o hb eo => ?_
    exact he b o (fun z => hb (by simp [z])) eo
  self := fun i s Q E x hQ => RT.iter_rt x.2.1 hQ
theorem lr_hint {I t : Addr} {items : Array Value} {Q : Bool → Shared → Prop} (hit : RT.IsRt s.heap I t ((items.size : Int) - 1)) (ht : IsTup s.heap t items) (hz : items.size ≤ sizeLine)
    (h : ∀ tk, Q ((items.size : Int) != 0) { s with toks := tk }) : wpAny (model prog w) A (Builtin.List.listLengthHint (.ref I)) Q E s := by
  have hT : s.TypeIs (.ref I) "reversed" := hit.typeIs
  obtain ⟨o, ho, hc, hd⟩ := id hit
  rw [sizeLine_eq] at hz
  unfold Builtin.List.listLengthHint
  refine wpAny_bind (wpAny_specialOf hT lr_nolen ?_)
  show wpAny _ _ (specialOf (Value.ref I) (Str.ofString "__length_hint__") >>= _) _ _ _
  refine wpAny_bind (wpAny_specialOf hT lr_slot.lookup ?_)
  generalize hid : ("reversed.__length_hint__" : String) = id0
  wp_delta
  rw [show splitId id0 = some ("reversed", "__length_hint__") from by subst hid; decide +kernel]
  subst hid
  refine wpAny_bind (wpAny_isInstance (T := "reversed") (b := true) hT (by rw [isSubtype_type]; kernel_rfl) ?_)
  refine wpAny_ite_split (fun z => absurd z (by decide)) fun _ => ?_
  refine wpAny_ite_split (fun z => absurd z (by decide +kernel)) fun _ => ?_
  refine wpAny_bind (wpAny_rule ?_)
  refine wpAny_bind (wpAny_of_eq (lr_slot.bind _) ?_)
  refine wpAny_bind (wpAny_attempt (wpAny_call_entry lr_slot hT lr_entry ?_ (lr_args _)))
  unfold Builtin.«reversed.__length_hint__»
  refine wpAny_bind (wpAny_of_eq (a := Value.ref I) rfl ?_); try dsimp only
  refine wpAny_bind (wpAny_field ho hd (x := .ref t) rfl ?_); try dsimp only
  refine wpAny_ite_split (fun z => absurd z Bool.false_ne_true) fun _ => ?_
  refine wpAny_bind (len_tuple ht (by omega) ?_)
  refine wpAny_bind (wpAny_of_eq (a := some ((items.size : Nat) : Int)) rfl ?_); try dsimp only
  refine wpAny_bind (wpAny_field (s := { s with toks := s.toks + 1 + 1 }) ho hd (x := rawInt ((items.size : Int) - 1)) rfl ?_); try dsimp only
  refine wpAny_ite_split (fun z => absurd z (by omega)) fun _ => ?_
  refine wpAny_bind (wpAny_mkInt ?_)
  have en : (items.size : Int) - 1 + 1 = (items.size : Int) := by omega
  rw [en]
  refine wpAny_pure ⟨_, rfl, ?_⟩
  show wpAny _ _ (asInt? (Value.int (items.size : Int) _) >>= _) _ _ _
  refine wpAny_bind ?_
  have ea : ∀ t, asInt? (Value.int (items.size : Int) t) = pure (some (items.size : Int)) := fun t => rfl
  rw [ea]
  refine wpAny_pure ?_
  have n0 : 0 ≤ ((items.size : Nat) : Int) := by omega
  have n1 : ((items.size : Nat) : Int) ≤ 16777216 := by omega
  generalize ((items.size : Nat) : Int) = n at n0 n1 h ⊢
  have fit : (!Builtin.List.listFitsIndex n) = false := by
    unfold Builtin.List.listFitsIndex
    rw [decide_eq_true (show -(2 ^ 63 : Int) ≤ n by omega), decide_eq_true (show n < 2 ^ 63 by omega)]
    rfl
  have long : Builtin.List.listTooLong n.toNat = false := by
    simp [Builtin.List.listTooLong, sizeLine]
    omega
  simp only [fit, long]
  rw [if_neg Bool.false_ne_true, if_neg (show ¬ n < 0 by omega), if_neg Bool.false_ne_true]
  exact wpAny_pure (h _)
/-- list(I), I = reversed(t) -/
theorem lr_call {I t : Addr} {items : Array Value} {Q : Value → Shared → Prop} (hh : A.handled = none) (hit : RT.IsRt s.heap I t ((items.size : Int) - 1)) (ht : IsTup s.heap t items) (hne : t ≠ I) (hz : items.size ≤ sizeLine)
    (hQ : ∀ h' tk acc c, (∀ b o, b ≠ I → s.heap.get? b = some o → h'.get? b = some o) → h'.get? s.heap.objs.size = some (⟨.type "list", none, .seq acc c, #[]⟩ : Obj) →
      ItemsOf (fun i v => items[items.size - 1 - i]? = some v) acc items.size → Q (.ref s.heap.objs.size) { s with heap := h', toks := tk }) : wpAny (model prog w) A (call (.type "list") [.ref I]) Q E s := by
  refine callType_codes (Q₁ := fun v s₁ => v = .ref s.heap.objs.size ∧ s₁ = { s with heap := s.heap.push ⟨.type "list", none, .seq #[] 0, #[]⟩ }) F.called_list (F.typeCall_list_1 _) F.entry_list_init (code_list_new _ ⟨rfl, rfl⟩) fun v s₁ g => ?_
  obtain ⟨rfl, rfl⟩ := g
  obtain ⟨oi, hoi, _⟩ := id hit
  obtain ⟨ot, hot, _⟩ := id ht
  have hS : (s.heap.push (⟨.type "list", none, .seq #[] 0, #[]⟩ : Obj)).get? s.heap.objs.size = some (⟨.type "list", none, .seq #[] 0, #[]⟩ : Obj) := Heap.get?_push_size _ rfl
  have nI : s.heap.objs.size ≠ I := Nat.ne_of_gt (Heap.lt_size hoi)
  have nt : s.heap.objs.size ≠ t := Nat.ne_of_gt (Heap.lt_size hot)
  have hit1 : RT.IsRt (s.heap.push (⟨.type "list", none, .seq #[] 0, #[]⟩ : Obj)) I t ((items.size : Int) - 1) := hit.at fun o e => Heap.get?_push_of_some _ e
  have ht1 : IsTup (s.heap.push (⟨.type "list", none, .seq #[] 0, #[]⟩ : Obj)) t items := by
    obtain ⟨o, ho, r⟩ := ht
    exact ⟨o, Heap.get?_push_of_some _ ho, r⟩
  refine ⟨⟨_, hS, rfl⟩, F.args_list_init_2 _ _, ?_⟩
  generalize hS0 : s.heap.objs.size = S at *
  have old : ∀ b o, s.heap.get? b = some o → (s.heap.push (⟨.type "list", none, .seq #[] 0, #[]⟩ : Obj)).get? b = some o := fun b o e => Heap.get?_push_of_some _ e
  have bS : ∀ b o, s.heap.get? b = some o → b ≠ S := fun b o e z => by
    have := Heap.lt_size e
    rw [z, ← hS0] at this
    exact Nat.lt_irrefl _ this
  generalize s.heap.push (⟨.type "list", none, .seq #[] 0, #[]⟩ : Obj) = h1 at *
  show wpAny _ _ (Builtin.List.listItems (.ref S) >>= fun old => Builtin.List.listUpdate (.ref S) (fun _ => #[]) >>= fun _ => letGo old.toList.reverse >>= fun _ => Builtin.List.listExtendWith (.ref S) (.ref I) .none) _ _ _
  refine wpAny_bind ?_
  unfold Builtin.List.listItems
  refine wpAny_bind (wpAny_seqItems (s := { s with heap := h1 }) hS rfl (wpAny_pure ?_))
  refine wpAny_bind (wpAny_updateSeq (s := { s with heap := h1 }) hS rfl ?_)
  have hS2 := Heap.get?_update_self (Obj.mapSeq fun _ => (#[] : Array Value)) hS rfl
  have oth : ∀ b o, b ≠ S → h1.get? b = some o → (h1.update S (Obj.mapSeq fun _ => (#[] : Array Value))).get? b = some o := fun b o hb e => by
    rw [Heap.get?_update_other _ _ (Ne.symm hb)]
    exact e
  refine wpAny_bind (wpAny_letGo ?_)
  have hit2 : RT.IsRt (h1.update S (Obj.mapSeq fun _ => (#[] : Array Value))) I t ((items.size : Int) - 1) := hit1.at fun o e => oth I o (Ne.symm nI) e
  have ht2 : IsTup (h1.update S (Obj.mapSeq fun _ => (#[] : Array Value))) t items := by
    obtain ⟨o, ho, r⟩ := ht1
    exact ⟨o, oth t o (Ne.symm nt) ho, r⟩
  have old2 : ∀ b o, s.heap.get? b = some o → (h1.update S (Obj.mapSeq fun _ => (#[] : Array Value))).get? b = some o := fun b o e => oth b o (bS b o e) (old b o e)
  generalize h1.update S (Obj.mapSeq fun _ => (#[] : Array Value)) = h2 at hS2 hit2 ht2 old2 ⊢
  have W := (lr_walks (prog := prog) (w := w) (A := A.in1.in1) hh I t hne items hz).toS
  have hSf : S ∉ [I, t] := fun z => by
    rcases List.mem_cons.mp z with z | z
    · exact nI z
    · exact nt (List.mem_singleton.mp z)
  have key : ∀ (h3 : Heap) (c tk : Nat), RT.IsRt h3 I t ((items.size : Int) - 1) → IsTup h3 t items → (∀ b o, s.heap.get? b = some o → h3.get? b = some o) → h3.get? S = some (⟨.type "list", none, .seq #[] c, #[]⟩ : Obj) →
      codeAny (model prog w) A.in1 (.builtin "list.extend.loop" ⟨[.ref S, .ref I, .none], []⟩) (wants (fun r s₂ => r = Value.none ∧ Q (.ref S) s₂) E) { s with heap := h3, toks := tk } := fun h3 c tk i3 t3 o3 e3 => by
    have e0 : (items.size : Int) - 1 = (items.size : Int) - 1 - ((0 : Nat) : Int) := by omega
    rw [e0] at i3
    refine codeAny_extend_loopS W hz S hSf _ items.size 0 { s with heap := h3, toks := tk } #[] c rfl (Nat.zero_le _) ⟨Nat.zero_le _, i3, t3⟩ e3 (ItemsOf.nil _) fun s' acc c' hm hS' hacc => ?_
    rw [Moved.eq_with hm]
    refine ⟨rfl, hQ s'.heap s'.toks acc c' (fun b o hb e => ?_) hS' hacc⟩
    refine hm.heap b o (fun hmem => ?_) (o3 b o e)
    rcases List.mem_cons.mp hmem with z | z
    · exact bS b o e z
    · exact hb (List.mem_singleton.mp z)
  have hT2 : ({ s with heap := h2 } : Shared).TypeIs (.ref I) "reversed" := hit2.typeIs (s := { s with heap := h2 })
  have r1 : Builtin.List.listSameRef (.ref S) (.ref I) = false := by
    simp [Builtin.List.listSameRef, nI]
  have r2 : (Value.type "reversed" == Value.type "list") = false := by decide
  have r3 : (Value.type "reversed" == Value.type "tuple") = false := by decide
  unfold Builtin.List.listExtendWith
  refine wpAny_bind (wpAny_typeOf hT2 ?_)
  simp only [r1, r2, r3, Bool.or_false, Bool.false_eq_true, if_false]
  refine wpAny_bind (RT.iter_rt (s := { s with heap := h2 }) hit2 ?_)
  refine wpAny_bind (wpAny_holding (lr_hint (s := { s with heap := h2 }) hit2 ht2 hz fun tk => ?_))
  refine wpAny_ite_split (fun _ => ?_) fun _ => wpAny_pure ⟨plainId_quiet F.plain_extend_loop _, key h2 _ _ hit2 ht2 old2 hS2⟩
  refine wpAny_bind (wpAny_rule ?_)
  refine wpAny_bind ?_
  show wpAny _ _ (updateSeq S (fun vs => vs.push Value.none) >>= fun _ => updateSeq S fun vs => vs.pop) _ _ _
  refine wpAny_bind (wpAny_updateSeq (s := { s with heap := h2, toks := tk }) hS2 rfl ?_)
  have hS3 := Heap.get?_update_self (Obj.mapSeq fun vs => vs.push Value.none) hS2 rfl
  refine wpAny_updateSeq (hz := by seq_fits) hS3 rfl ?_
  have hS4 := Heap.get?_update_self (Obj.mapSeq fun vs => vs.pop) hS3 rfl
  have oth4 : ∀ b o, b ≠ S → h2.get? b = some o → ((h2.update S (Obj.mapSeq fun vs => vs.push Value.none)).update S (Obj.mapSeq fun vs => vs.pop)).get? b = some o := fun b o hb e => by
    rw [Heap.get?_update_other _ _ (Ne.symm hb), Heap.get?_update_other _ _ (Ne.symm hb)]
    exact e
  refine wpAny_pure ⟨plainId_quiet F.plain_extend_loop _, key _ _ _ (hit2.at fun o e => oth4 I o (Ne.symm nI) e) ?_ (fun b o e => oth4 b o (bS b o e) (old2 b o e)) hS4⟩
  obtain ⟨o, ho, r⟩ := ht2
  exact ⟨o, oth4 t o (Ne.symm nt) ho, r⟩
end
/-- list(reversed(x)), x a tuple: a new list -/
def tListRev (K : PySem.W.Frag) (te : TE) : TE := fun σ H Q => te σ H fun v H1 => ∃ (a : Addr) (xs : List V), v = .ref a ∧ SqT K H1 a xs ∧ ∀ p, H1 p = none → Q (.ref p) (upd H1 p (.lst xs.reverse))
section
variable {X : Cx}
theorem pe_listRev {e : Expr} {te : TE} {p p2 pos pos2 : Pos} (hc : X.calm = true) (hg : Gl X "list") (hm : X.mg "list" = none) (hg2 : Gl X "reversed") (hm2 : X.mg "reversed" = none) (he : PE X e te)
    (hs : starEach [e] X.env = (false, eval e X.env) :: starEach [] X.env := by rfl) (hs2 : starEach [.Call (.Name "reversed" p2) [e] [] pos2] X.env = (false, eval (.Call (.Name "reversed" p2) [e] [] pos2) X.env) :: starEach [] X.env := by rfl) :
    PE X (.Call (.Name "list" p) [.Call (.Name "reversed" p2) [e] [] pos2] [] pos) (tListRev X.K te) := by
  refine ⟨fun pins s σ H Q I h => ?_⟩
  refine Call_ (ld_blt I hg hm boot_list (PyProof.Rows.callWith_type1 (args_cons (Call_ (ld_blt I hg2 hm2 PyProof.Rows.boot_reversed (PyProof.Rows.callWith_type1 (args_cons (thn (he.run pins s σ H _ I h) fun u s1 q0 => args_nil ?_) hs) hs rfl))) hs2) hs2 rfl))
  obtain ⟨v, H1, I1, r1, a, xs, ev, hq, q⟩ := q0
  subst ev
  obtain rfl : u = Value.ref a := r1
  obtain ⟨its, rv, p', hz⟩ := I1.tuple hq
  have hn : its.toArray.size = its.length := List.size_toArray
  have hl := rv.length
  have hz' : its.toArray.size ≤ sizeLine := by rw [hn, ← hl]; exact hz
  have hline := sizeLine_eq
  refine RT.call_reversed_tup p' (fun A E Q k => len_tuple p' (by omega) k) (args_nil ?_)
  have k0 : ∀ b o, s1.heap.get? b = some o → (s1.heap.push (RT.rtObj a ((its.toArray.size : Int) - 1))).get? b = some o := fun b o e => Heap.get?_push_of_some _ e
  have I2 : Inv X pins σ H1 { s1 with heap := s1.heap.push (RT.rtObj a ((its.toArray.size : Int) - 1)), toks := s1.toks + 1 + 1 } := I1.kept (t' := s1.toks + 1 + 1) k0
  obtain ⟨o, ho, hcl, nn, hd⟩ := id p'
  have hne : a ≠ s1.heap.objs.size := Nat.ne_of_lt (Heap.lt_size ho)
  have ht2 : IsTup (s1.heap.push (RT.rtObj a ((its.toArray.size : Int) - 1))) a its.toArray := ⟨o, k0 _ _ ho, hcl, nn, hd⟩
  refine lr_call (s := { s1 with heap := s1.heap.push (RT.rtObj a ((its.toArray.size : Int) - 1)), toks := s1.toks + 1 + 1 }) (t := a) (items := its.toArray) (I1.ok.hd hc) ⟨_, Heap.get?_push_size _ rfl, rfl, rfl⟩ ht2 hne hz' fun h' tk acc c hk e' hi => ?_
  have kp : ∀ b o, s1.heap.get? b = some o → h'.get? b = some o := fun b o e => hk b o (Nat.ne_of_lt (Heap.lt_size e)) (k0 b o e)
  have hsz : (s1.heap.push (RT.rtObj a ((its.toArray.size : Int) - 1))).objs.size = s1.heap.objs.size + 1 := Heap.size_push ..
  have le : s1.heap.objs.size ≤ (s1.heap.push (RT.rtObj a ((its.toArray.size : Int) - 1))).objs.size := by
    rw [hsz]
    exact Nat.le_succ _
  have hlr : xs.reverse.length ≤ sizeLine := by
    rw [List.length_reverse]
    exact hz
  refine ⟨.ref _, _, I1.laid (t' := tk) kp le (show ObjOk X.prog X.w _ h' _ (.lst xs.reverse) from ⟨hlr, acc.toList, c, RT.vals_rev rv hi, ?_⟩), rfl, q _ (I1.hok.fresh le)⟩
  rw [Array.toArray_toList]
  exact e'
end
end Hr
/-! ### text[::-1] -/
namespace Hr
open PySem PySem.Spec PyProof.Rows L2
/-- a text from its end -/
def revT (z : Str) : Str := ⟨z.cps.toList.reverse.toArray⟩
theorem rs_pick (z : Str) (k : Tok) : (slicePicked z none none (some (-1, k))).filterMap (z.cps[·]?) = z.cps.toList.reverse := by
  have h := PySem.W.krv_sliceRange z.cps.size
  show (PySem.sliceRange ((z.cps.size : Int) - 1) (-1) (-1)).filterMap (z.cps[·]?) = _
  rw [h, PySem.W.krv_range, List.filterMap_reverse, PySem.W.krv_all]
def tRevT (te : TE) : TE := fun σ H Q => te σ H fun x H1 => ∃ z : Str, x = .str z ∧ z.length ≤ sizeLine ∧ Q (.str (revT z)) H1
theorem pe_revT {X : Cx} {e : Expr} {te : TE} {k : Nat} {p1 p2 p3 pos : Pos} (he : PE X e te) : PE X (.Subscript e (.Slice none none (some (.UnaryOp .USub (.Constant (.int 1) k p1) p2)) p3) pos) (tRevT te) := by
  refine ⟨fun pins s σ H Q I h => ?_⟩
  refine Subscript_ (thn (he.run pins s σ H _ I h) fun v s1 q0 => ?_)
  obtain ⟨x, H1, I1, r1, z, rfl, hz, q⟩ := q0
  obtain ⟨t, rfl⟩ := r1
  have hst : PO X (some (.UnaryOp .USub (.Constant (.int 1) k p1) p2)) (tPart (tUn (rU fun i => .int (-i)) (tC (.int 1)))) := po_some (pe_un un_neg pe_int)
  have hn : ∀ (s2 : Shared) (H2 : Hp), Inv X pins σ H2 s2 → wpAny (model X.prog X.w) X.A (evalPart none X.env) (fun u s3 => ∃ l H3, Inv X pins σ H3 s3 ∧ IsPart u l ∧ l = none ∧ H3 = H2) X.xe s2 := fun s2 H2 I2 => (po_none (X := X)).run pins s2 σ H2 (fun o H3 => o = none ∧ H3 = H2) I2 ⟨rfl, rfl⟩
  refine wpAny_Slice (thn (hn s1 H1 I1) fun vl s2 g2 => ?_)
  obtain ⟨l, H2, I2, pl, rfl, rfl⟩ := g2
  refine thn (hn s2 H2 I2) fun vu s3 g3 => ?_
  obtain ⟨u, H3, I3, pu, rfl, rfl⟩ := g3
  refine thn (hst.run pins s3 σ H3 (fun o H4 => o = some (-1) ∧ H4 = H3) I3 ⟨1, rfl, -1, rfl, rfl, rfl⟩) fun vs s4 g4 => ?_
  obtain ⟨o, H4, I4, ps, rfl, rfl⟩ := g4
  obtain ⟨l', rfl, el⟩ := IsPart.raw pl
  obtain ⟨u', rfl, eu⟩ := IsPart.raw pu
  obtain ⟨o', rfl, eo⟩ := IsPart.raw ps
  have I5 : Inv X pins σ H4 { s4 with heap := s4.heap.push ⟨.type "slice", none, .fields #[partValue l', partValue u', partValue o'], #[]⟩ } := I4.kept (t' := s4.toks) fun b ob g => Heap.get?_push_of_some _ g
  show wpAny (model X.prog X.w) X.A (subscriptTail e _ (.str z t) (.ref s4.heap.objs.size)) (EP X pins σ Q) X.xe { s4 with heap := s4.heap.push ⟨.type "slice", none, .fields #[partValue l', partValue u', partValue o'], #[]⟩ }
  refine tail_any (ops := [.str z t, .ref s4.heap.objs.size]) (typeIs_str _ z t) F.slot_str_getitem.lookup ?_ (by with_unfolding_all rfl)
  refine wpAny_getItem_str_slice (l := l') (u := u') (st := o') ⟨_, Heap.get?_push_size _ rfl, rfl, rfl⟩ ?_ ?_
  · rw [eo]
    rfl
  · have e1 : l' = none := by
      cases l' with
      | none => rfl
      | some x => cases el
    have e2 : u' = none := by
      cases u' with
      | none => rfl
      | some x => cases eu
    obtain ⟨k', rfl⟩ : ∃ k', o' = some (-1, k') := by
      cases o' with
      | none => cases eo
      | some x =>
        obtain ⟨i, k'⟩ := x
        have : i = -1 := Option.some.inj eo
        subst this
        exact ⟨k', rfl⟩
    subst e1 e2
    have em : sliceMade z t none none (some (-1, k')) = .str (revT z) := by
      unfold sliceMade
      rw [rs_pick]
      exact if_neg (by
        show ¬ ((((-1 : Int) == 1) && _) = true)
        rw [show ((-1 : Int) == 1) = false from rfl, Bool.false_and]
        decide)
    rw [em]
    have hl : (revT z).length ≤ sizeLine := by
      have : (revT z).length = z.length := by
        show z.cps.toList.reverse.toArray.size = z.cps.size
        rw [List.size_toArray, List.length_reverse, Array.length_toList]
      rw [this]
      exact hz
    exact ⟨hl, .str _, H4, I5.tok _, ⟨_, rfl⟩, q⟩
theorem revT_txt (l : List Bool) : revT (txt l) = txt l.reverse := by
  show (⟨(l.map code).reverse.toArray⟩ : Str) = _
  rw [← List.map_reverse]
  rfl
end Hr
/-! ### groves in the heap -/
namespace Hr
open PySem PySem.Spec PyProof.Rows L2
/-- what may be handed in: trees, and things that are none -/
inductive Xv where
  | no : Xv
  | tree : Xv → Xv → Xv
  | bad : Xv → Xv
def Xv.row : Xv → List Bool
  | .no => []
  | .tree a b => true :: (a.row ++ false :: b.row)
  | .bad _ => []
def Xv.good : Xv → Bool
  | .no => true
  | .tree a b => a.good && b.good
  | .bad _ => false
def Xv.nodes : Xv → Nat
  | .no => 0
  | .tree a b => a.nodes + b.nodes + 1
  | .bad b => b.nodes + 1
def Gv.x : Gv → Xv
  | .no => .no
  | .tree a b => .tree a.x b.x
theorem Gv.x_row : ∀ g : Gv, g.x.row = g.row
  | .no => rfl
  | .tree a b => by
    show true :: (a.x.row ++ false :: b.x.row) = true :: (a.row ++ false :: b.row)
    rw [x_row a, x_row b]
theorem Gv.x_good : ∀ g : Gv, g.x.good = true
  | .no => rfl
  | .tree a b => by
    show (a.x.good && b.x.good) = true
    rw [x_good a, x_good b]
    rfl
theorem Gv.x_nodes : ∀ g : Gv, 2 * g.x.nodes = g.row.length
  | .no => rfl
  | .tree a b => by
    have h1 := x_nodes a
    have h2 := x_nodes b
    show 2 * (a.x.nodes + b.x.nodes + 1) = (true :: (a.row ++ false :: b.row)).length
    rw [List.length_cons, List.length_append, List.length_cons]
    omega
/-- no tuple -/
def NotTup (H : Hp) (v : V) : Prop := (∃ z, v = .str z) ∨ (∃ i, v = .int i) ∨ v = .non ∨ ∃ p xs, v = .ref p ∧ H p = some (.lst xs)
def XIn (H : Hp) : Xv → List V → Prop
  | .no, vs => vs = []
  | .tree a b, vs => ∃ p ws r, vs = .ref p :: r ∧ H p = some (.tup ws) ∧ XIn H a ws ∧ XIn H b r
  | .bad b, vs => ∃ v r, vs = v :: r ∧ NotTup H v ∧ XIn H b r
def TreesIn (H : Hp) : Gv → List V → Prop
  | .no, vs => vs = []
  | .tree a b, vs => ∃ p ws r, vs = .ref p :: r ∧ H p = some (.tup ws) ∧ TreesIn H a ws ∧ TreesIn H b r
theorem NotTup.same {H H' : Hp} {v : V} (s : Same H H') (h : NotTup H v) : NotTup H' v := by
  rcases h with h | h | h | ⟨p, xs, h1, h2⟩
  · exact .inl h
  · exact .inr (.inl h)
  · exact .inr (.inr (.inl h))
  · exact .inr (.inr (.inr ⟨p, xs, h1, s _ _ h2⟩))
theorem XIn.same {H H' : Hp} (s : Same H H') : ∀ {x : Xv} {vs : List V}, XIn H x vs → XIn H' x vs
  | .no, vs, h => h
  | .tree a b, vs, h => by
    obtain ⟨p, ws, r, h1, h2, h3, h4⟩ := h
    exact ⟨p, ws, r, h1, s _ _ h2, XIn.same s h3, XIn.same s h4⟩
  | .bad b, vs, h => by
    obtain ⟨v, r, h1, h2, h3⟩ := h
    exact ⟨v, r, h1, h2.same s, XIn.same s h3⟩
theorem TreesIn.x {H : Hp} : ∀ {g : Gv} {vs : List V}, TreesIn H g vs → XIn H g.x vs
  | .no, vs, h => h
  | .tree a b, vs, h => by
    obtain ⟨p, ws, r, h1, h2, h3, h4⟩ := h
    exact ⟨p, ws, r, h1, h2, TreesIn.x h3, TreesIn.x h4⟩
theorem TreesIn.same {H H' : Hp} (s : Same H H') : ∀ {g : Gv} {vs : List V}, TreesIn H g vs → TreesIn H' g vs
  | .no, vs, h => h
  | .tree a b, vs, h => by
    obtain ⟨p, ws, r, h1, h2, h3, h4⟩ := h
    exact ⟨p, ws, r, h1, s _ _ h2, TreesIn.same s h3, TreesIn.same s h4⟩
theorem TreesIn.upd {H : Hp} {q : Addr} {xs : List V} {o : HO} (e : H q = some (.lst xs)) : ∀ {g : Gv} {vs : List V}, TreesIn H g vs → TreesIn (L2.upd H q o) g vs
  | .no, vs, h => h
  | .tree a b, vs, h => by
    obtain ⟨p, ws, r, h1, h2, h3, h4⟩ := h
    have ne : p ≠ q := fun z => by
      rw [z, e] at h2
      cases h2
    exact ⟨p, ws, r, h1, by rw [upd_ne ne]; exact h2, TreesIn.upd e h3, TreesIn.upd e h4⟩
theorem TreesIn.app {H : Hp} : ∀ {f g : Gv} {vs ws : List V}, TreesIn H f vs → TreesIn H g ws → TreesIn H (f.app g) (vs ++ ws)
  | .no, g, vs, ws, h, h' => by
    have h : vs = [] := h
    rw [h]
    exact h'
  | .tree a b, g, vs, ws, h, h' => by
    obtain ⟨p, us, r, h1, h2, h3, h4⟩ := h
    exact ⟨p, us, r ++ ws, by rw [h1]; rfl, h2, h3, TreesIn.app h4 h'⟩
/-- a grove as data -/
def gds : Gv → List PyData
  | .no => []
  | .tree a b => .tuple (gds a) :: gds b
theorem TreesIn.dp {K : PySem.W.Frag} {H : Hp} : ∀ {g : Gv} {vs : List V}, TreesIn H g vs → DpAll K H vs (gds g)
  | .no, vs, h => by
    have h : vs = [] := h
    rw [h]
    exact .nil
  | .tree a b, vs, h => by
    obtain ⟨p, ws, r, h1, h2, h3, h4⟩ := h
    rw [h1]
    exact .cons (.tup (.inl (.inl h2)) (TreesIn.dp h3)) (TreesIn.dp h4)
theorem gds_lay : ∀ g : Gv, PyData.canLayAll0 (gds g) = true
  | .no => rfl
  | .tree a b => by
    show (PyData.canLayAll0 (gds a) && PyData.canLayAll0 (gds b)) = true
    rw [gds_lay a, gds_lay b]
    rfl
theorem gds_deep : ∀ g : Gv, PyData.depthAll (gds g) = g.deep
  | .no => rfl
  | .tree a b => by
    show max (PyData.depthAll (gds a) + 1) (PyData.depthAll (gds b)) = max (a.deep + 1) b.deep
    rw [gds_deep a, gds_deep b]
theorem sh_grove {g : Gv} (h : g.row.length ≤ 126) : SeqAt.shaped (.tuple (gds g)) = true := by
  show (PyData.canLayAll0 (gds g) && decide (PyData.depthAll (gds g) + 1 ≤ 64)) = true
  have := g.deep_le
  rw [gds_lay, gds_deep, decide_eq_true (by omega)]
  rfl
theorem TreesIn.none {H : Hp} {g : Gv} (h : TreesIn H g []) : g = .no := by
  cases g with
  | no => rfl
  | tree a b =>
    obtain ⟨p, us, r, h1, _⟩ := h
    cases h1
theorem scTrees : FnScope ["grove"] ["grove"] (defScope s_trees_from_last) := ⟨rfl, rfl, rfl, by decide +kernel, rfl, by decide +kernel, by decide +kernel⟩
theorem scUnf : FnScope ["grove", "signs", "waiting", "tree"] ["grove"] (defScope s_unfolded) := ⟨rfl, rfl, rfl, by decide +kernel, rfl, by decide +kernel, by decide +kernel⟩
theorem scFold : FnScope ["row", "begun", "sign", "tree"] ["row"] (defScope s_folded) := ⟨rfl, rfl, rfl, by decide +kernel, rfl, by decide +kernel, by decide +kernel⟩
theorem hill_grove7 {z : Str} (h : hillB none z = true) : ∃ g : Gv, z = txt g.row := by
  obtain ⟨h1, h2⟩ := Bool.and_eq_true_iff.mp h
  obtain ⟨g, hg⟩ := grove_row h2
  exact ⟨g, by rw [hg, txt_signs h1]⟩
/-- signs as values -/
def sv (l : List Bool) : List V := l.map fun b => V.str (sgn b)
theorem sv_snoc (l : List Bool) (b : Bool) : sv (l ++ [b]) = sv l ++ [.str (sgn b)] := by
  unfold sv
  rw [List.map_append]
  rfl
/-- the stack of what is still to be unfolded, the last one first -/
def StkIn (H0 H : Hp) (av : List Addr) : List (Addr × Xv) → Prop
  | [] => True
  | (p, x) :: r => H0 p = none ∧ p ∉ av ∧ p ∉ r.map (·.1) ∧ (∃ vs, H p = some (.lst vs.reverse) ∧ XIn H0 x vs) ∧ StkIn H0 H av r
theorem StkIn.same {H0 H H' : Hp} {av : List Addr} (s : Same H H') : ∀ {st : List (Addr × Xv)}, StkIn H0 H av st → StkIn H0 H' av st
  | [], h => h
  | (p, x) :: r, h => by
    obtain ⟨h1, h2, h3, ⟨vs, h4, h5⟩, h6⟩ := h
    exact ⟨h1, h2, h3, ⟨vs, s _ _ h4, h5⟩, StkIn.same s h6⟩
theorem StkIn.upd {H0 H : Hp} {av : List Addr} {q : Addr} {o : HO} : ∀ {st : List (Addr × Xv)}, q ∉ st.map (·.1) → StkIn H0 H av st → StkIn H0 (L2.upd H q o) av st
  | [], _, h => h
  | (p, x) :: r, hq, h => by
    obtain ⟨h1, h2, h3, ⟨vs, h4, h5⟩, h6⟩ := h
    have ne : p ≠ q := fun z => hq (by rw [z]; exact List.mem_cons_self ..)
    exact ⟨h1, h2, h3, ⟨vs, by rw [upd_ne ne]; exact h4, h5⟩, StkIn.upd (fun z => hq (List.mem_cons_of_mem _ z)) h6⟩
theorem StkIn.not {H0 H : Hp} {av : List Addr} {q : Addr} : ∀ {st : List (Addr × Xv)}, q ∈ av → StkIn H0 H av st → q ∉ st.map (·.1)
  | [], _, _ => fun z => by cases z
  | (p, x) :: r, hq, h => fun z => by
    obtain ⟨h1, h2, h3, _, h6⟩ := h
    rcases List.mem_cons.mp z with z | z
    · have z : q = p := z
      exact h2 (by rw [← z]; exact hq)
    · exact StkIn.not hq h6 z
theorem StkIn.there {H0 H : Hp} {av : List Addr} {q : Addr} (n : H q = none) : ∀ {st : List (Addr × Xv)}, StkIn H0 H av st → q ∉ st.map (·.1)
  | [], _ => fun z => by cases z
  | (p, x) :: r, h => fun z => by
    obtain ⟨h1, h2, h3, ⟨vs, h4, _⟩, h6⟩ := h
    rcases List.mem_cons.mp z with z | z
    · have z : q = p := z
      rw [z, h4] at n
      cases n
    · exact StkIn.there n h6 z
def coming : List (Addr × Xv) → List Bool
  | [] => []
  | (_, x) :: r => x.row ++ false :: coming r
def meas : List (Addr × Xv) → Nat
  | [] => 0
  | (_, x) :: r => 2 * x.nodes + 1 + meas r
def allGood : List (Addr × Xv) → Bool
  | [] => true
  | (_, x) :: r => x.good && allGood r
theorem snoc_true {α : Type} (l : List α) (a : α) : (!(l ++ [a]).isEmpty) = true := by cases l <;> rfl
theorem meas_len : ∀ st : List (Addr × Xv), st.length ≤ meas st
  | [] => Nat.le_refl _
  | (p, x) :: r => by
    have := meas_len r
    show r.length + 1 ≤ 2 * x.nodes + 1 + meas r
    omega
def refsV {α : Type} (st : List (Addr × α)) : List V := (st.map fun e => V.ref e.1).reverse
theorem refsV_cons {α : Type} (e : Addr × α) (st : List (Addr × α)) : refsV (e :: st) = refsV st ++ [.ref e.1] := by
  unfold refsV
  rw [List.map_cons, List.reverse_cons]
theorem refsV_len {α : Type} (st : List (Addr × α)) : (refsV st).length = st.length := by
  unfold refsV
  rw [List.length_reverse, List.length_map]
section
variable {P : Program} {w : World} {K : PySem.W.Frag} {mg : Str → Option Value} {base : Heap} {CT CN : Addr}
def spTrees (CT : Addr) : Sp := fun vs H Q E => ∃ v : V, vs = [v] ∧ ((∃ p ws, v = .ref p ∧ H p = some (.tup ws) ∧ ∀ q, H q = none → Q (.ref q) (L2.upd H q (.lst ws.reverse))) ∨ (NotTup H v ∧ E (.ref CT) none H))
theorem cal_trees (er : Err K mg "NoTree" CT) (D : Def K mg "trees_from_last" s_trees_from_last ["grove"]) (m_isinstance : mg "isinstance" = none) (m_tuple : mg "tuple" = none) (m_list : mg "list" = none) (m_reversed : mg "reversed" = none) : Cal K mg (L2.CX P w) P w base 1 "trees_from_last" [] (spTrees CT) := by
  refine D.calX scTrees (fun vs H Q E h => ?_) (fun f cdv A outer s H vs Q E hr h => ?_)
  · obtain ⟨v, rfl, _⟩ := h
    rfl
  · obtain ⟨v, rfl, h⟩ := h
    refine ⟨_, pss_cons (ps_if (pt_not (pt_val (pe_callB call_isi (by rfl) m_isinstance (by decide +kernel) (pa_cons (pv 0) (pa_cons (pe_bltn (v := .ty "tuple") (u := .type "tuple") (by rfl) m_tuple (by decide +kernel) rfl) pa_nil)))))
        (pss_one (ps_raise rfl (takes_of rfl rfl rfl rfl) (pmk_own PySem.F.excBase_ValueError er.x er.g er.k (raises_own er.b er.t) rfl))) pss_nil)
      (pss_one (ps_ret (pe_listRev rfl (by rfl) m_list (by rfl) m_reversed (pv 0)))), ?_⟩
    rcases h with ⟨p, ws, rfl, ep, q⟩ | ⟨hn, qe⟩
    · refine ⟨_, rfl, _, .ty "tuple", _, _, true, rfl, .ty "tuple", .base (.tup ep), kit_ty (by decide +kernel), true, rfl, iteF ?_⟩
      exact ⟨_, rfl, p, ws, rfl, .inl (.inl ep), q⟩
    · rcases hn with ⟨z, rfl⟩ | ⟨i, rfl⟩ | rfl | ⟨p, xs, rfl, ep⟩
      · exact ⟨_, rfl, _, .ty "tuple", _, _, false, rfl, .ty "tuple", .base (.str z), kit_ty (by decide +kernel), false, rfl, iteT qe⟩
      · exact ⟨_, rfl, _, .ty "tuple", _, _, false, rfl, .ty "tuple", .base (.int i), kit_ty (by decide +kernel), false, rfl, iteT qe⟩
      · exact ⟨_, rfl, _, .ty "tuple", _, _, false, rfl, .ty "tuple", .base .non, kit_ty (by decide +kernel), false, rfl, iteT qe⟩
      · exact ⟨_, rfl, _, .ty "tuple", _, _, false, rfl, .ty "tuple", .base (.lst ep), kit_ty (by decide +kernel), false, rfl, iteT qe⟩
/-- the row of a grove, or NoTree -/
def spUnf (CT : Addr) : Sp := fun vs H Q E => ∃ v : V, vs = [v] ∧ ((∃ p ws x, v = .ref p ∧ H p = some (.tup ws) ∧ XIn H x ws ∧ x.nodes ≤ 1000 ∧ (x.good = true → ∀ H', Same H H' → Q (.str (txt x.row)) H') ∧ (x.good = false → ∀ H', Same H H' → E (.ref CT) none H')) ∨
  (NotTup H v ∧ ∀ H', Same H H' → E (.ref CT) none H'))
theorem row_len : ∀ x : Xv, x.row.length ≤ 2 * x.nodes
  | .no => Nat.le_refl _
  | .tree a b => by
    have h1 := row_len a
    have h2 := row_len b
    show (true :: (a.row ++ false :: b.row)).length ≤ 2 * (a.nodes + b.nodes + 1)
    rw [List.length_cons, List.length_append, List.length_cons]
    omega
  | .bad b => Nat.zero_le _
set_option maxHeartbeats 1000000 in
theorem cal_unf (D : Def K mg "unfolded" s_unfolded ["grove"]) (C : Cal K mg (L2.CX P w) P w base 1 "trees_from_last" [] (spTrees CT)) {t1 t2 : Tok} (c_UP : mg "UP" = some (.str "u" t1)) (c_DOWN : mg "DOWN" = some (.str "d" t2)) : Cal K mg (L2.CX P w) P w base 2 "unfolded" [] (spUnf CT) := by
  refine D.calX scUnf (fun vs H Q E h => ?_) (fun f cdv A outer s H vs Q E hr h => ?_)
  · obtain ⟨v, rfl, _⟩ := h
    rfl
  · obtain ⟨v, rfl, h⟩ := h
    have nd := scUnf.nd
    refine ⟨_, pss_cons (ps_set (i := 1) nd rfl (.inl rfl) (pe_lst pa_nil))
      (pss_cons (ps_set (i := 2) nd rfl (.inl rfl) (pe_lst (pa_cons (pe_cX C hr (takes_of rfl rfl rfl rfl) (pa_cons (pv 0) pa_nil)) pa_nil)))
      (pss_cons (ps_while PassesOwn.leaving (pt_truth (pv 2) (by intro _; rfl))
        (pss_one (ps_if (pt_truth (pe_ix ix_list (pv 2) (pe_un un_neg pe_int) (fun _ _ => rfl)) (by intro _; rfl))
          (pss_cons (ps_set (i := 3) nd rfl (.inl rfl) (pe_bm0 PySem.F.plainAttrs_list PySem.F.slot_list_pop PySem.F.type_list_pop mt_pop (pe_ix ix_list (pv 2) (pe_un un_neg pe_int) (fun _ _ => rfl))))
          (pss_cons (ps_expr (pe_bm PySem.F.plainAttrs_list PySem.F.slot_list_append PySem.F.type_list_append mt_append (pv 2) (pa_cons (pe_cX C hr (takes_of rfl rfl rfl rfl) (pa_cons (pv 3) pa_nil)) pa_nil)))
          (pss_one (ps_expr (pe_bm PySem.F.plainAttrs_list PySem.F.slot_list_append PySem.F.type_list_append mt_append (pv 1) (pa_cons (pe_glob (v := .str "u") (by rfl) c_UP ⟨_, rfl⟩) pa_nil))))))
          (pss_cons (ps_expr (pe_bm0 PySem.F.plainAttrs_list PySem.F.slot_list_pop PySem.F.type_list_pop mt_pop (pv 2)))
          (pss_one (ps_expr (pe_bm PySem.F.plainAttrs_list PySem.F.slot_list_append PySem.F.type_list_append mt_append (pv 1) (pa_cons (pe_glob (v := .str "d") (by rfl) c_DOWN ⟨_, rfl⟩) pa_nil))))))))
      (pss_one (ps_ret (pe_join pe_str (pe_slice sl_list (pv 1) po_none (po_some (pe_un un_neg pe_int)))))))), ?_⟩
    refine ⟨sz (by decide), fun sg nsg => ?_⟩
    have s1 := same_upd (o := .lst []) nsg
    rcases h with ⟨p, ws, x0, rfl, ep, hx, hn, q, qe⟩ | ⟨hnt, qe⟩
    · refine ⟨_, rfl, _, rfl, .inl ⟨p, ws, rfl, s1 _ _ ep, fun p0 np0 => ?_⟩⟩
      have s2 := s1.trans (same_upd (o := .lst ws.reverse) np0)
      have n0 : H p0 = none := s1.free np0
      have sp0 : sg ≠ p0 := ne_of_none upd_same np0
      refine ⟨sz (show 1 ≤ 1000000 by decide), fun wt nwt => ?_⟩
      have s3 := s2.trans (same_upd (o := .lst [.ref p0]) nwt)
      have nw : H wt = none := s2.free nwt
      have e1 : (L2.upd (L2.upd (L2.upd H sg (.lst [])) p0 (.lst ws.reverse)) wt (.lst [.ref p0])) sg = some (.lst (sv [])) := by
        have h1 : (L2.upd (L2.upd H sg (.lst [])) p0 (.lst ws.reverse)) sg = some (.lst []) := by
          rw [upd_ne sp0]
          exact upd_same
        rw [upd_ne (ne_of_none h1 nwt)]
        exact h1
      have e2 : (L2.upd (L2.upd (L2.upd H sg (.lst [])) p0 (.lst ws.reverse)) wt (.lst [.ref p0])) p0 = some (.lst ws.reverse) := by
        rw [upd_ne (ne_of_none upd_same nwt)]
        exact upd_same
      have e3 : (L2.upd (L2.upd (L2.upd H sg (.lst [])) p0 (.lst ws.reverse)) wt (.lst [.ref p0])) wt = some (.lst [.ref p0]) := upd_same
      have sgw : sg ≠ wt := ne_of_none (show (L2.upd (L2.upd H sg (.lst [])) p0 (.lst ws.reverse)) sg = some (.lst []) by
        rw [upd_ne sp0]
        exact upd_same) nwt
      have pw : p0 ≠ wt := ne_of_none upd_same nwt
      generalize L2.upd (L2.upd (L2.upd H sg (.lst [])) p0 (.lst ws.reverse)) wt (.lst [.ref p0]) = H3 at s3 e1 e2 e3 ⊢
      refine ⟨fun m σ H' => ∃ (y : Option V) (st : List (Addr × Xv)) (sgs : List Bool), σ = [some (.ref p), some (.ref sg), some (.ref wt), y] ∧ m = meas st ∧ Same H H' ∧ H' sg = some (.lst (sv sgs)) ∧ H' wt = some (.lst (refsV st)) ∧ StkIn H H' [sg, wt] st ∧
        sgs ++ coming st = x0.row ++ [false] ∧ allGood st = x0.good ∧ meas st ≤ 2 * x0.nodes + 1, ⟨_, none, [(p0, x0)], [], rfl, rfl, s3, e1, e3, ⟨n0, ?_, (fun z => by cases z), ⟨ws, e2, hx⟩, trivial⟩, rfl, Bool.and_true _, Nat.le_refl _⟩, ?_⟩
      · intro z
        rcases List.mem_cons.mp z with z | z
        · exact sp0 z.symm
        · exact pw (List.mem_singleton.mp z)
      · rintro m σ H4 ⟨y, st, sgs, rfl, rfl, sm, g1, g2, g3, g4, g5, g6⟩
        have rl := row_len x0
        have sl : sgs.length ≤ x0.row.length + 1 := by
          have := congrArg List.length g4
          rw [List.length_append, List.length_append] at this
          have : ([false] : List Bool).length = 1 := rfl
          omega
        have svl : (sv sgs).length < sizeLine := szl (by
          unfold sv
          rw [List.length_map]
          omega)
        refine ⟨_, rfl, (!(refsV st).isEmpty), .inl ⟨_, .inl (.inl g2), rfl⟩, ?_⟩
        cases st with
        | nil =>
          refine iteF ?_
          have hg : x0.good = true := g5.symm
          have es : sgs = x0.row ++ [false] := by
            have : sgs ++ [] = x0.row ++ [false] := g4
            rw [List.append_nil] at this
            exact this
          refine ⟨⟨_, rfl⟩, _, rfl, 1, rfl, -1, rfl, sg, _, rfl, .inl (.inl g1), fun c nc => ?_⟩
          have ecut : cutV (sv sgs) none (some (-1)) = sv x0.row := by
            rw [es]
            unfold cutV sv
            rw [HT.sIx_none, List.length_map, List.length_append]
            have : HT.sIx (x0.row.length + ([false] : List Bool).length) (x0.row.length + ([false] : List Bool).length) (some (-1)) = x0.row.length := by
              show (if (-1 : Int) < 0 then ((-1 : Int) + ((x0.row.length + 1 : Nat) : Int)).toNat else min (-1 : Int).toNat (x0.row.length + 1)) = _
              rw [if_pos (by decide)]
              omega
            rw [this, List.drop_zero, Nat.sub_zero, ← List.map_take, List.take_left']
            rfl
          rw [ecut]
          refine ⟨"", c, x0.row.map sgn, rfl, rfl, .inl (.inl (.inl (by rw [upd_same, List.map_map]; rfl))), ?_, ?_⟩
          · rw [sgn_sum, show ("" : Str).length = 0 by decide +kernel]
            omega
          · rw [join_signs]
            exact q hg _ (sm.trans (same_upd nc))
        | cons e st =>
          obtain ⟨pk, x⟩ := e
          obtain ⟨k1, k2, k3, ⟨vs, k4, k5⟩, k6⟩ := g3
          have rl1 : refsV ((pk, x) :: st) = refsV st ++ [.ref pk] := refsV_cons _ _
          rw [rl1] at g2 ⊢
          have hne : (!(refsV st ++ [V.ref pk]).isEmpty) = true := snoc_true _ _
          rw [hne]
          refine iteT ?_
          have pks : pk ≠ sg := fun z => k2 (by rw [z]; exact List.mem_cons_self ..)
          have pkw : pk ≠ wt := fun z => k2 (by rw [z]; exact List.mem_cons_of_mem _ (List.mem_singleton.mpr rfl))
          have lw : (refsV st).length ≤ 2001 := by
            rw [refsV_len]
            have := meas_len ((pk, x) :: st)
            have : st.length + 1 ≤ meas ((pk, x) :: st) := this
            omega
          refine ⟨fun σ' H' => ∃ (y : Option V) (st' : List (Addr × Xv)) (sgs' : List Bool), σ' = [some (.ref p), some (.ref sg), some (.ref wt), y] ∧ meas st' < meas ((pk, x) :: st) ∧ Same H H' ∧ H' sg = some (.lst (sv sgs')) ∧ H' wt = some (.lst (refsV st')) ∧ StkIn H H' [sg, wt] st' ∧
            sgs' ++ coming st' = x0.row ++ [false] ∧ allGood st' = x0.good, fun σ' H' ⟨y, st', sgs', h1, h2, h3, h4, h5, h6, h7, h8⟩ => ⟨meas st', h2, y, st', sgs', h1, rfl, h3, h4, h5, h6, h7, h8, by omega⟩, ?_⟩
          refine ⟨_, rfl, 1, rfl, wt, _, -1, .ref pk, rfl, rfl, .inl (.inl g2), atI_last _ _, (!vs.reverse.isEmpty), .inl ⟨_, .inl (.inl k4), rfl⟩, ?_⟩
          cases x with
          | no =>
            have hv : vs = [] := k5
            subst hv
            refine iteF ?_
            refine ⟨_, rfl, .inl ⟨rfl, _, .inl (.inl g2)⟩, wt, _, .ref pk, rfl, rfl, g2, ?_, ?_⟩
            · rw [List.length_append]
              show (refsV st ++ [V.ref pk])[(refsV st).length + 1 - 1]? = _
              rw [Nat.add_sub_cancel, List.getElem?_append_right (Nat.le_refl _), Nat.sub_self]
              rfl
            rw [List.dropLast_concat]
            have f1 : (L2.upd H4 wt (.lst (refsV st))) sg = some (.lst (sv sgs)) := by
              rw [upd_ne sgw]
              exact g1
            have f2 : (L2.upd H4 wt (.lst (refsV st))) wt = some (.lst (refsV st)) := upd_same
            have f3 : StkIn H (L2.upd H4 wt (.lst (refsV st))) [sg, wt] st := StkIn.upd (StkIn.not (List.mem_cons_of_mem _ (List.mem_singleton.mpr rfl)) k6) k6
            have f4 := same_updN (o := .lst (refsV st)) sm nw
            generalize L2.upd H4 wt (.lst (refsV st)) = H5 at f1 f2 f3 f4 ⊢
            refine ⟨_, rfl, .inl ⟨rfl, _, .inl (.inl f1)⟩, sg, _, _, rfl, rfl, f1, svl, ?_⟩
            refine ⟨y, st, sgs ++ [false], rfl, ?_, same_updN f4 nsg, ?_, ?_, StkIn.upd (StkIn.not (List.mem_cons_self ..) f3) f3, ?_, g5⟩
            · show meas st < 2 * 0 + 1 + meas st
              omega
            · rw [upd_same, sv_snoc]
              rfl
            · rw [upd_ne (Ne.symm sgw)]
              exact f2
            · rw [List.append_assoc]
              exact g4
          | tree a b =>
            obtain ⟨pc, us, r, hv, hpc, ha, hb⟩ := k5
            subst hv
            have hrev : (V.ref pc :: r).reverse = r.reverse ++ [.ref pc] := List.reverse_cons ..
            rw [hrev] at k4 ⊢
            rw [show (!(r.reverse ++ [V.ref pc]).isEmpty) = true from snoc_true _ _]
            refine iteT ?_
            refine ⟨_, rfl, 1, rfl, wt, _, -1, .ref pk, rfl, rfl, .inl (.inl g2), atI_last _ _, .inl ⟨rfl, _, .inl (.inl k4)⟩, pk, _, .ref pc, rfl, rfl, k4, ?_, ?_⟩
            · rw [List.length_append]
              show (r.reverse ++ [V.ref pc])[r.reverse.length + 1 - 1]? = _
              rw [Nat.add_sub_cancel, List.getElem?_append_right (Nat.le_refl _), Nat.sub_self]
              rfl
            rw [List.dropLast_concat]
            have f1 : (L2.upd H4 pk (.lst r.reverse)) sg = some (.lst (sv sgs)) := by
              rw [upd_ne (Ne.symm pks)]
              exact g1
            have f2 : (L2.upd H4 pk (.lst r.reverse)) wt = some (.lst (refsV st ++ [.ref pk])) := by
              rw [upd_ne (Ne.symm pkw)]
              exact g2
            have f3 : StkIn H (L2.upd H4 pk (.lst r.reverse)) [sg, wt] ((pk, b) :: st) := ⟨k1, k2, k3, ⟨r, upd_same, hb⟩, StkIn.upd k3 k6⟩
            have f4 := same_updN (o := .lst r.reverse) sm k1
            generalize L2.upd H4 pk (.lst r.reverse) = H5 at f1 f2 f3 f4 ⊢
            refine ⟨_, rfl, .inl ⟨rfl, _, .inl (.inl f2)⟩, _, rfl, _, rfl, .inl ⟨pc, us, rfl, f4 _ _ hpc, fun qn nqn => ?_⟩⟩
            have t1 := same_upd (o := .lst us.reverse) nqn
            have f1' := t1 _ _ f1
            have f2' := t1 _ _ f2
            have hq0 : H qn = none := f4.free nqn
            have qs : qn ∉ [sg, wt] := fun z => by
              rcases List.mem_cons.mp z with z | z
              · rw [z, f1] at nqn
                cases nqn
              · rw [List.mem_singleton.mp z, f2] at nqn
                cases nqn
            have f3' : StkIn H (L2.upd H5 qn (.lst us.reverse)) [sg, wt] ((qn, a) :: (pk, b) :: st) := ⟨hq0, qs, StkIn.there nqn f3, ⟨us, upd_same, ha⟩, StkIn.same t1 f3⟩
            have f4' := f4.trans t1
            clear t1
            generalize L2.upd H5 qn (.lst us.reverse) = H6 at f1' f2' f3' f4' ⊢
            refine ⟨wt, _, _, rfl, rfl, f2', szl (by rw [List.length_append]; show _ + 1 < _; omega), ?_⟩
            have ew : refsV st ++ [V.ref pk] ++ [V.ref qn] = refsV ((qn, a) :: (pk, b) :: st) := by
              rw [refsV_cons, refsV_cons]
            rw [ew]
            have h1 : (L2.upd H6 wt (.lst (refsV ((qn, a) :: (pk, b) :: st)))) sg = some (.lst (sv sgs)) := by
              rw [upd_ne sgw]
              exact f1'
            have h2 : (L2.upd H6 wt (.lst (refsV ((qn, a) :: (pk, b) :: st)))) wt = some (.lst (refsV ((qn, a) :: (pk, b) :: st))) := upd_same
            have h3 : StkIn H (L2.upd H6 wt (.lst (refsV ((qn, a) :: (pk, b) :: st)))) [sg, wt] ((qn, a) :: (pk, b) :: st) := StkIn.upd (StkIn.not (List.mem_cons_of_mem _ (List.mem_singleton.mpr rfl)) f3') f3'
            have h4 := same_updN (o := .lst (refsV ((qn, a) :: (pk, b) :: st))) f4' nw
            generalize L2.upd H6 wt (.lst (refsV ((qn, a) :: (pk, b) :: st))) = H7 at h1 h2 h3 h4 ⊢
            refine ⟨_, rfl, .inl ⟨rfl, _, .inl (.inl h1)⟩, sg, _, _, rfl, rfl, h1, svl, ?_⟩
            refine ⟨_, (qn, a) :: (pk, b) :: st, sgs ++ [true], rfl, ?_, same_updN h4 nsg, ?_, ?_, StkIn.upd (StkIn.not (List.mem_cons_self ..) h3) h3, ?_, ?_⟩
            · show 2 * a.nodes + 1 + (2 * b.nodes + 1 + meas st) < 2 * (a.nodes + b.nodes + 1) + 1 + meas st
              omega
            · rw [upd_same, sv_snoc]
              rfl
            · rw [upd_ne (Ne.symm sgw)]
              exact h2
            · rw [← g4, List.append_assoc]
              congr 1
              show true :: (a.row ++ false :: (b.row ++ false :: coming st)) = true :: (a.row ++ false :: b.row) ++ false :: coming st
              rw [List.cons_append, List.append_assoc]
              rfl
            · rw [← g5]
              show (a.good && (b.good && allGood st)) = ((a.good && b.good) && allGood st)
              rw [Bool.and_assoc]
          | bad b =>
            obtain ⟨v, r, hv, hnt, hb⟩ := k5
            subst hv
            have hrev : (v :: r).reverse = r.reverse ++ [v] := List.reverse_cons ..
            rw [hrev] at k4 ⊢
            rw [show (!(r.reverse ++ [v]).isEmpty) = true from snoc_true _ _]
            refine iteT ?_
            refine ⟨_, rfl, 1, rfl, wt, _, -1, .ref pk, rfl, rfl, .inl (.inl g2), atI_last _ _, .inl ⟨rfl, _, .inl (.inl k4)⟩, pk, _, v, rfl, rfl, k4, ?_, ?_⟩
            · rw [List.length_append]
              show (r.reverse ++ [v])[r.reverse.length + 1 - 1]? = _
              rw [Nat.add_sub_cancel, List.getElem?_append_right (Nat.le_refl _), Nat.sub_self]
              rfl
            rw [List.dropLast_concat]
            have f2 : (L2.upd H4 pk (.lst r.reverse)) wt = some (.lst (refsV st ++ [.ref pk])) := by
              rw [upd_ne (Ne.symm pkw)]
              exact g2
            have f4 := same_updN (o := .lst r.reverse) sm k1
            generalize L2.upd H4 pk (.lst r.reverse) = H5 at f2 f4 ⊢
            refine ⟨_, rfl, .inl ⟨rfl, _, .inl (.inl f2)⟩, _, rfl, _, rfl, .inr ⟨hnt.same f4, ?_⟩⟩
            refine qe ?_ _ f4
            rw [← g5]
            rfl
    · exact ⟨_, rfl, _, rfl, .inr ⟨hnt.same s1, qe _ s1⟩⟩
end
end Hr
/-! ### folded -/
namespace Hr
open PySem PySem.Spec PyProof.Rows L2
theorem hgt_succ7 {l : List Bool} {i : Nat} {b : Bool} (h : l[i]? = some b) : hgt l (i + 1) = hgt l i + sg b := by
  unfold hgt
  rw [List.take_succ, h, List.map_append, List.sum_append]
  show _ + (sg b + 0) = _
  omega
def FSt (H0 H : Hp) (av : List Addr) : List (Addr × Gv) → Prop
  | [] => True
  | (p, g) :: r => H0 p = none ∧ p ∉ av ∧ p ∉ r.map (·.1) ∧ (∃ vs, H p = some (.lst vs) ∧ TreesIn H g vs) ∧ FSt H0 H av r
theorem FSt.same {H0 H H' : Hp} {av : List Addr} (s : Same H H') : ∀ {st : List (Addr × Gv)}, FSt H0 H av st → FSt H0 H' av st
  | [], h => h
  | (p, x) :: r, h => by
    obtain ⟨h1, h2, h3, ⟨vs, h4, h5⟩, h6⟩ := h
    exact ⟨h1, h2, h3, ⟨vs, s _ _ h4, h5.same s⟩, FSt.same s h6⟩
theorem FSt.upd {H0 H : Hp} {av : List Addr} {q : Addr} {xs : List V} {o : HO} (e : H q = some (.lst xs)) : ∀ {st : List (Addr × Gv)}, q ∉ st.map (·.1) → FSt H0 H av st → FSt H0 (L2.upd H q o) av st
  | [], _, h => h
  | (p, x) :: r, hq, h => by
    obtain ⟨h1, h2, h3, ⟨vs, h4, h5⟩, h6⟩ := h
    have ne : p ≠ q := fun z => hq (by rw [z]; exact List.mem_cons_self ..)
    exact ⟨h1, h2, h3, ⟨vs, by rw [upd_ne ne]; exact h4, h5.upd e⟩, FSt.upd e (fun z => hq (List.mem_cons_of_mem _ z)) h6⟩
theorem FSt.not {H0 H : Hp} {av : List Addr} {q : Addr} : ∀ {st : List (Addr × Gv)}, q ∈ av → FSt H0 H av st → q ∉ st.map (·.1)
  | [], _, _ => fun z => by cases z
  | (p, x) :: r, hq, h => fun z => by
    obtain ⟨h1, h2, h3, _, h6⟩ := h
    rcases List.mem_cons.mp z with z | z
    · have z : q = p := z
      exact h2 (by rw [← z]; exact hq)
    · exact FSt.not hq h6 z
theorem FSt.there {H0 H : Hp} {av : List Addr} {q : Addr} (n : H q = none) : ∀ {st : List (Addr × Gv)}, FSt H0 H av st → q ∉ st.map (·.1)
  | [], _ => fun z => by cases z
  | (p, x) :: r, h => fun z => by
    obtain ⟨h1, h2, h3, ⟨vs, h4, _⟩, h6⟩ := h
    rcases List.mem_cons.mp z with z | z
    · have z : q = p := z
      rw [z, h4] at n
      cases n
    · exact FSt.there n h6 z
def pre : List (Addr × Gv) → List Bool
  | [] => []
  | (_, g) :: r => pre r ++ true :: g.row
theorem pre_sum : ∀ st : List (Addr × Gv), ((pre st).map sg).sum = (st.length : Int)
  | [] => rfl
  | (p, g) :: r => by
    show ((pre r ++ true :: g.row).map sg).sum = ((r.length + 1 : Nat) : Int)
    rw [List.map_append, List.sum_append, pre_sum r, List.map_cons, List.sum_cons, okb_sum g.row_hill]
    show (r.length : Int) + ((1 : Int) + 0) = _
    omega
theorem pre_len : ∀ st : List (Addr × Gv), st.length ≤ (pre st).length
  | [] => Nat.le_refl _
  | (p, g) :: r => by
    have := pre_len r
    show r.length + 1 ≤ (pre r ++ true :: g.row).length
    rw [List.length_append, List.length_cons]
    omega
theorem TreesIn.len {H : Hp} : ∀ {g : Gv} {vs : List V}, TreesIn H g vs → vs.length ≤ g.row.length
  | .no, vs, h => by
    have h : vs = [] := h
    rw [h]
    exact Nat.le_refl _
  | .tree a b, vs, h => by
    obtain ⟨p, us, r, h1, h2, h3, h4⟩ := h
    have := TreesIn.len h4
    rw [h1]
    show r.length + 1 ≤ (true :: (a.row ++ false :: b.row)).length
    rw [List.length_cons, List.length_append, List.length_cons]
    omega
theorem Gv.app_row7 : ∀ f g : Gv, (f.app g).row = f.row ++ g.row
  | .no, g => rfl
  | .tree a b, g => by
    show true :: (a.row ++ false :: (b.app g).row) = (true :: (a.row ++ false :: b.row)) ++ g.row
    rw [app_row7 b g, List.cons_append, List.append_assoc]
    rfl
section
variable {P : Program} {w : World} {K : PySem.W.Frag} {mg : Str → Option Value} {base : Heap} {CT CN : Addr}
def spFolded (CN : Addr) : Sp := fun vs H Q E => ∃ z : Str, vs = [.str z] ∧ z.length ≤ 1000 ∧ (∀ g : Gv, z = txt g.row → ∀ H', Same H H' → ∀ p ws, TreesIn H' g ws → H' p = some (.tup ws) → Q (.ref p) H') ∧ (hillB none z = false → ∀ H', Same H H' → E (.ref CN) none H')
set_option maxHeartbeats 1000000 in
theorem cal_folded (D : Def K mg "folded" s_folded ["row"]) (C : Cal K mg (L2.CX P w) P w base 4 "check_hill" [.non] (spChHillX CN)) {t1 : Tok} (c_UP : mg "UP" = some (.str "u" t1)) (m_tuple : mg "tuple" = none) : Cal K mg (L2.CX P w) P w base 5 "folded" [] (spFolded CN) := by
  refine D.calX scFold (fun vs H Q E h => ?_) (fun f cdv A outer s H vs Q E hr h => ?_)
  · obtain ⟨z, rfl, _⟩ := h
    rfl
  · obtain ⟨z, rfl, hz, q, qe⟩ := h
    have nd := scFold.nd
    refine ⟨_, (pss_cons (ps_expr (pe_cX C hr (takes_of rfl rfl rfl rfl) (pa_cons (pv 0) pa_nil)))
    (pss_cons (ps_set (i := 1) nd rfl (.inl rfl) (pe_lst (pa_cons (pe_lst pa_nil) pa_nil)))
    (pss_cons (ps_for PassesOwn.leaving rfl (pi_str (pv 0)) (pg_name (i := 2) nd rfl (.inl rfl)) (pss_one (ps_if (pt_cmpR op_eq (pv 2) (pe_glob (v := .str "u") (by rfl) c_UP ⟨_, rfl⟩) (nomark _)) (pss_one (ps_expr (pe_bm PySem.F.plainAttrs_list PySem.F.slot_list_append PySem.F.type_list_append mt_append (pv 1) (pa_cons (pe_lst pa_nil) pa_nil))))
      (pss_cons (ps_set (i := 3) nd rfl (.inl rfl) (pe_callTy call_tuple_of (by rfl) m_tuple (by decide +kernel) (pa_cons (pe_bm0 PySem.F.plainAttrs_list PySem.F.slot_list_pop PySem.F.type_list_pop mt_pop (pv 1)) pa_nil)))
        (pss_one (ps_expr (pe_bm PySem.F.plainAttrs_list PySem.F.slot_list_append PySem.F.type_list_append mt_append (pe_ix ix_list (pv 1) (pe_un un_neg pe_int) (fun _ _ => rfl)) (pa_cons (pv 3) pa_nil))))))))
    (pss_one (ps_ret (pe_callTy call_tuple_of (by rfl) m_tuple (by decide +kernel) (pa_cons (pe_ix ix_list (pv 1) pe_int (fun _ _ => rfl)) pa_nil))))))), ?_⟩
    refine ⟨.str z, rfl, z, none, rfl, hz, fun hh H1 s1 => ?_, fun hh => qe hh⟩
    obtain ⟨g, rfl⟩ := hill_grove7 hh
    have hzl : (txt g.row).length = g.row.length := txt_len _
    have q1 := q g rfl
    clear q
    have ok := g.row_hill
    have hall := hgt_all ok
    have hnn : ∀ i, 0 ≤ hgt g.row i := fun i => hgt_nonneg ok
    have hinj : ∀ a : Gv, a.row = g.row → a = g := fun a e => Gv.row_inj e
    generalize g.row = l at *
    refine ⟨sz (by decide), fun p0 np0 => ?_⟩
    have s2 := s1.trans (same_upd (o := .lst []) np0)
    have n0 : H p0 = none := s1.free np0
    refine ⟨sz (show 1 ≤ 1000000 by decide), fun bg nbg => ?_⟩
    have s3 := s2.trans (same_upd (o := .lst [.ref p0]) nbg)
    have nb : H bg = none := s2.free nbg
    have pb : p0 ≠ bg := ne_of_none upd_same nbg
    have e0 : (L2.upd (L2.upd H1 p0 (.lst [])) bg (.lst [.ref p0])) p0 = some (.lst []) := by
      rw [upd_ne pb]
      exact upd_same
    have e1 : (L2.upd (L2.upd H1 p0 (.lst [])) bg (.lst [.ref p0])) bg = some (.lst [.ref p0]) := upd_same
    generalize L2.upd (L2.upd H1 p0 (.lst [])) bg (.lst [.ref p0]) = H2 at s3 e0 e1 ⊢
    refine ⟨.str (txt l), rfl, txt l, rfl, ?_⟩
    refine for_it walk_str (fun i σ H' => ∃ (y2 y3 : Option V) (st : List (Addr × Gv)), σ = [some (.str (txt l)), some (.ref bg), y2, y3] ∧ Same H H' ∧ H' bg = some (.lst (refsV st)) ∧ FSt H H' [bg] st ∧ pre st = true :: l.take i) ?_ (fun _ _ _ _ _ => trivial) ?_ ?_
    · refine ⟨none, none, [(p0, .no)], rfl, s3, e1, ⟨n0, ?_, (fun z => by cases z), ⟨[], e0, rfl⟩, trivial⟩, ?_⟩
      · intro z
        exact pb (List.mem_singleton.mp z)
      · rw [List.take_zero]
        rfl
    · rintro i x σ H3 H4 hi ⟨y2, y3, st, rfl, sm, eb, F, ep⟩ ⟨rfl, c, hc, rfl⟩
      rw [txt_at] at hc
      obtain ⟨b, hb, rfl⟩ := Option.map_eq_some_iff.mp hc
      have hil : i < l.length := (List.getElem?_eq_some_iff.mp hb).1
      have ei : l.take (i + 1) = l.take i ++ [b] := by
        rw [List.take_succ, hb]
        rfl
      have hpl : (pre st).length = 1 + i := by
        rw [ep, List.length_cons, List.length_take]
        omega
      have stl := pre_len st
      have slen : (refsV st).length < sizeLine := szl (by rw [refsV_len]; omega)
      refine ⟨_, rfl, rfl, decide (code b = 117), congrArg V.bl (is_u _), ?_⟩
      rw [code_u]
      cases b with
      | true =>
        refine iteT ?_
        refine ⟨_, rfl, .inl ⟨rfl, _, .inl (.inl eb)⟩, sz (by decide), fun qn nqn => ?_⟩
        have t1 := same_upd (o := .lst []) nqn
        have hq0 : H qn = none := sm.free nqn
        have qb : qn ≠ bg := fun z => by
          rw [z, eb] at nqn
          cases nqn
        have F1 : FSt H (L2.upd H4 qn (.lst [])) [bg] ((qn, .no) :: st) := ⟨hq0, (fun z => qb (List.mem_singleton.mp z)), FSt.there nqn F, ⟨[], upd_same, rfl⟩, F.same t1⟩
        have eb1 := t1 _ _ eb
        have sm1 := sm.trans t1
        clear t1
        generalize L2.upd H4 qn (.lst []) = H5 at F1 eb1 sm1 ⊢
        refine ⟨bg, _, _, rfl, rfl, eb1, slen, ?_⟩
        refine ⟨_, y3, (qn, .no) :: st, rfl, same_updN sm1 nb, ?_, FSt.upd eb1 (FSt.not (List.mem_cons_self ..) F1) F1, ?_⟩
        · rw [upd_same, refsV_cons]
        · rw [ei]
          show pre st ++ [true] = _
          rw [ep]
          rfl
      | false =>
        refine iteF ?_
        have h2 : 2 ≤ st.length := by
          have hs := pre_sum st
          rw [ep, List.map_cons, List.sum_cons] at hs
          have hs : (1 : Int) + hgt l i = (st.length : Int) := hs
          have h1 := hgt_succ7 hb
          have h1 : hgt l (i + 1) = hgt l i + -1 := h1
          have := hnn (i + 1)
          omega
        match st, h2, F, ep, eb, hpl, stl, slen with
        | (pk, a) :: (pj, b) :: r, _, F, ep, eb, hpl, stl, slen =>
          obtain ⟨k1, k2, k3, ⟨vs, k4, k5⟩, j1, j2, j3, ⟨us, j4, j5⟩, F⟩ := F
          have rl1 : refsV ((pk, a) :: (pj, b) :: r) = refsV ((pj, b) :: r) ++ [.ref pk] := refsV_cons _ _
          have rl2 : refsV ((pj, b) :: r) = refsV r ++ [.ref pj] := refsV_cons _ _
          rw [rl1] at eb
          refine ⟨_, rfl, .inl ⟨rfl, _, .inl (.inl eb)⟩, bg, _, .ref pk, rfl, rfl, eb, ?_, ?_⟩
          · rw [List.length_append]
            show (refsV ((pj, b) :: r) ++ [V.ref pk])[(refsV ((pj, b) :: r)).length + 1 - 1]? = _
            rw [Nat.add_sub_cancel, List.getElem?_append_right (Nat.le_refl _), Nat.sub_self]
            rfl
          rw [List.dropLast_concat, rl2]
          have pkb : pk ≠ bg := fun z => k2 (List.mem_singleton.mpr z)
          have pjb : pj ≠ bg := fun z => j2 (List.mem_singleton.mpr z)
          have eb1 : (L2.upd H4 bg (.lst (refsV r ++ [.ref pj]))) bg = some (.lst (refsV r ++ [.ref pj])) := upd_same
          have k4' : (L2.upd H4 bg (.lst (refsV r ++ [.ref pj]))) pk = some (.lst vs) := by
            rw [upd_ne pkb]
            exact k4
          have j4' : (L2.upd H4 bg (.lst (refsV r ++ [.ref pj]))) pj = some (.lst us) := by
            rw [upd_ne pjb]
            exact j4
          have k5' := k5.upd (o := .lst (refsV r ++ [.ref pj])) eb
          have j5' := j5.upd (o := .lst (refsV r ++ [.ref pj])) eb
          have F' := FSt.upd (o := .lst (refsV r ++ [.ref pj])) eb (FSt.not (List.mem_cons_self ..) F) F
          have sm' := same_updN (o := .lst (refsV r ++ [.ref pj])) sm nb
          generalize L2.upd H4 bg (.lst (refsV r ++ [.ref pj])) = H5 at eb1 k4' j4' k5' j5' F' sm' ⊢
          refine ⟨pk, vs, rfl, .inl ⟨.inl (.inl k4'), fun T nT => ?_⟩⟩
          have t1 := same_upd (o := .tup vs) nT
          have eb2 := t1 _ _ eb1
          have j4t := t1 _ _ j4'
          have k5t := k5'.same t1
          have j5t := j5'.same t1
          have Ft := F'.same t1
          have smt := sm'.trans t1
          have eT : (L2.upd H5 T (.tup vs)) T = some (.tup vs) := upd_same
          clear t1
          generalize L2.upd H5 T (.tup vs) = H6 at eb2 j4t k5t j5t Ft smt eT ⊢
          have tr : TreesIn H6 (b.app (.tree a .no)) (us ++ [.ref T]) := j5t.app ⟨T, vs, [], rfl, eT, k5t, rfl⟩
          have bl : us.length ≤ 2000 := by
            have h1 := j5t.len
            have h2 : (pre ((pk, a) :: (pj, b) :: r)).length = ((pre r ++ true :: b.row) ++ true :: a.row).length := rfl
            rw [h2, List.length_append, List.length_append, List.length_cons] at hpl
            omega
          refine ⟨_, rfl, 1, rfl, bg, _, -1, .ref pj, rfl, rfl, .inl (.inl eb2), atI_last _ _, .inl ⟨rfl, _, .inl (.inl j4t)⟩, _, rfl, pj, _, _, rfl, rfl, j4t, szl (by omega), ?_⟩
          have jr : pj ∉ r.map (·.1) := j3
          refine ⟨_, _, (pj, b.app (.tree a .no)) :: r, rfl, same_updN smt j1, ?_, ⟨j1, j2, j3, ⟨_, upd_same, tr.upd j4t⟩, FSt.upd j4t jr Ft⟩, ?_⟩
          · rw [upd_ne (Ne.symm pjb), refsV_cons]
            exact eb2
          · rw [ei]
            show pre r ++ true :: (b.app (.tree a .no)).row = _
            have ep : (pre r ++ true :: b.row) ++ true :: a.row = true :: l.take i := ep
            rw [Gv.app_row7]
            show pre r ++ true :: (b.row ++ true :: (a.row ++ [false])) = (true :: l.take i) ++ [false]
            rw [← ep]
            simp
    · rintro σ H3 ⟨y2, y3, st, rfl, sm, eb, F, ep⟩
      have es : l.take (txt l).cps.size = l := List.take_of_length_le (by rw [txt_size]; exact Nat.le_refl _)
      rw [es] at ep
      have h1 : st.length = 1 := by
        have hs := pre_sum st
        rw [ep, List.map_cons, List.sum_cons] at hs
        have hs : (1 : Int) + (l.map sg).sum = (st.length : Int) := hs
        rw [← hgt_len, hall] at hs
        omega
      match st, h1, F, ep, eb with
      | [(pk, a)], _, F, ep, eb =>
        obtain ⟨k1, k2, k3, ⟨vs, k4, k5⟩, _⟩ := F
        have ea : a = g := hinj a (List.cons.inj ep).2
        subst ea
        refine ⟨_, rfl, bg, _, 0, .ref pk, rfl, rfl, .inl (.inl eb), atI_nat (j := 0) rfl, pk, vs, rfl, .inl ⟨.inl (.inl k4), fun T nT => ?_⟩⟩
        have t1 := same_upd (o := .tup vs) nT
        exact q1 _ (sm.trans t1) _ _ (k5.same t1) upd_same
end
end Hr
/-! ### pairs -/
namespace Hr
open PySem PySem.Spec PyProof.Rows L2
theorem scPairs : FnScope ["row", "places", "begun", "place", "sign", "other"] ["row"] (defScope s_pairs) := ⟨rfl, rfl, rfl, by decide +kernel, rfl, by decide +kernel, by decide +kernel⟩
theorem scOfPairs : FnScope ["places", "row", "place", "other"] ["places"] (defScope s_row_of_pairs) := ⟨rfl, rfl, rfl, by decide +kernel, rfl, by decide +kernel, by decide +kernel⟩
theorem scIsPlaces : FnScope ["places", "last", "place"] ["places"] (defScope s_is_list_of_places) := ⟨rfl, rfl, rfl, by decide +kernel, rfl, by decide +kernel, by decide +kernel⟩
def natsV (zs : List Nat) : List V := zs.map fun i : Nat => V.int (i : Int)
theorem natsV_ints (zs : List Nat) : natsV zs = (zs.map fun i : Nat => (i : Int)).map V.int := by
  unfold natsV
  rw [List.map_map]
  rfl
theorem natsV_snoc (zs : List Nat) (k : Nat) : natsV (zs ++ [k]) = natsV zs ++ [.int (k : Int)] := by
  unfold natsV
  rw [List.map_append]
  rfl
theorem natsV_set (zs : List Nat) (i k : Nat) : (natsV zs).set i (.int (k : Int)) = natsV (zs.set i k) := by
  unfold natsV
  rw [List.map_set]
theorem hill_row8 {z : Str} (h : hillB none z = true) : ∃ l, z = txt l ∧ okb none 0 l = true := by
  obtain ⟨h1, h2⟩ := Bool.and_eq_true_iff.mp h
  exact ⟨signs z, (txt_signs h1).symm, h2⟩
theorem ixN_nat {n j : Nat} (h : j < n) : ixN n (j : Int) = some j := by
  unfold ixN
  rw [if_pos (by omega), if_pos (by omega), Int.toNat_natCast]
theorem zeros_rep (n : Nat) : (List.replicate n [V.int 0]).flatten = natsV (List.replicate n 0) := by
  unfold natsV
  rw [List.map_replicate]
  induction n with
  | zero => rfl
  | succ n ih =>
    rw [List.replicate_succ, List.replicate_succ, List.flatten_cons, ih]
    rfl
section
variable {P : Program} {w : World} {K : PySem.W.Frag} {mg : Str → Option Value} {base : Heap} {CN CP : Addr}
def spPairsX (CN : Addr) : Sp := fun vs H Q E => ∃ z : Str, vs = [.str z] ∧ z.length ≤ 1000 ∧ (∀ l, z = txt l → okb none 0 l = true → ∀ H' p ps, Same H H' → H p = none → PairsOf l ps → H' p = some (.lst (ps.map V.int)) → Q (.ref p) H') ∧ (hillB none z = false → ∀ H', Same H H' → E (.ref CN) none H')
/-- what stands after i signs -/
structure Walked (l : List Bool) (i : Nat) (ps st : List Nat) : Prop where
  len : ps.length = l.length
  sl : (st.length : Int) = hgt l i
  op : ∀ (k j : Nat), st[k]? = some j → Open l i k j
  done : ∀ j y, Pair l j y → y < i → ps[j]? = some y ∧ ps[y]? = some j
theorem Walked.zero (l : List Bool) : Walked l 0 (List.replicate l.length 0) [] :=
  ⟨List.length_replicate, rfl, (fun k j h => by cases h), fun j y _ h => absurd h (Nat.not_lt_zero _)⟩
theorem Walked.up {l : List Bool} {i : Nat} {ps st : List Nat} (h : Walked l i ps st) (hb : l[i]? = some true) : Walked l (i + 1) ps (st ++ [i]) := by
  have e := hgt_succ hb
  have e1 : sg true = 1 := rfl
  refine ⟨h.len, ?_, fun k j hk => ?_, fun j y hp hy => ?_⟩
  · rw [List.length_append, e]
    have := h.sl
    show ((st.length + 1 : Nat) : Int) = _
    omega
  · have hs := h.sl
    by_cases hks : k < st.length
    · rw [List.getElem?_append_left hks] at hk
      obtain ⟨o1, o2, o3⟩ := h.op k j hk
      refine ⟨by omega, o2, fun m h1 h2 => ?_⟩
      by_cases hm : m = i + 1
      · rw [hm, e]
        omega
      · exact o3 m h1 (by omega)
    · rw [List.getElem?_append_right (by omega)] at hk
      have hk0 : k - st.length = 0 := by
        have := (List.getElem?_eq_some_iff.mp hk).1
        have : ([i] : List Nat).length = 1 := rfl
        omega
      rw [hk0] at hk
      have : j = i := (Option.some.inj hk).symm
      subst this
      have hkl : k = st.length := by omega
      refine ⟨by omega, by rw [hkl]; exact hs.symm, fun m h1 h2 => ?_⟩
      have : m = j + 1 := by omega
      rw [this, e, hkl]
      omega
  · by_cases hyi : y = i
    · rw [hyi] at hp
      have := hp.down.symm.trans hb
      cases this
    · exact h.done j y hp (by omega)
theorem Walked.down {l : List Bool} {i : Nat} {ps st : List Nat} (ok : okb none 0 l = true) (h : Walked l i ps st) (hb : l[i]? = some false) :
    ∃ j, st[st.length - 1]? = some j ∧ j < l.length ∧ i < l.length ∧ Walked l (i + 1) ((ps.set i j).set j i) st.dropLast := by
  have hi : i < l.length := (List.getElem?_eq_some_iff.mp hb).1
  have e := hgt_succ hb
  have e1 : sg false = -1 := rfl
  have hs := h.sl
  have h0 := hgt_nonneg ok (i := i + 1)
  have hpos : 0 < st.length := by omega
  have hg : st[st.length - 1]? = some st[st.length - 1] := List.getElem?_eq_getElem (by omega)
  have hdl : st.dropLast.length = st.length - 1 := List.length_dropLast
  generalize st[st.length - 1] = j at hg
  obtain ⟨o1, o2, o3⟩ := h.op _ j hg
  have hP : Pair l j i := ⟨o1, hi, by rw [o2, e]; omega, fun m h1 h2 => by rw [o2]; exact o3 m h1 h2⟩
  refine ⟨j, hg, by omega, hi, ⟨by rw [List.length_set, List.length_set]; exact h.len, by rw [hdl, e]; omega, fun k j' hk => ?_, fun a y hp hy => ?_⟩⟩
  · have hkl : k < st.length - 1 := by
      have := (List.getElem?_eq_some_iff.mp hk).1
      omega
    rw [List.getElem?_dropLast, if_pos hkl] at hk
    obtain ⟨p1, p2, p3⟩ := h.op k j' hk
    refine ⟨by omega, p2, fun m h1 h2 => ?_⟩
    by_cases hm : m = i + 1
    · rw [hm, e]
      omega
    · exact p3 m h1 (by omega)
  · have len := h.len
    by_cases hyi : y = i
    · subst hyi
      have haj : a = j := Mate.uniq (l := l) (x := y) (.inr hp) (.inr hP)
      subst haj
      have hne : a ≠ y := by
        have := hp.1
        omega
      refine ⟨?_, ?_⟩
      · rw [List.getElem?_set_self (by rw [List.length_set]; omega)]
      · rw [List.getElem?_set_ne hne, List.getElem?_set_self (by omega)]
    · obtain ⟨d1, d2⟩ := h.done a y hp (by omega)
      have hay := hp.1
      have n1 : a ≠ j := fun z => hyi (Mate.uniq (l := l) (x := j) (.inl (z ▸ hp)) (.inl hP))
      have n2 : y ≠ j := fun z => by
        rw [z] at hp
        have := hp.down.symm.trans hP.up
        cases this
      refine ⟨?_, ?_⟩
      · rw [List.getElem?_set_ne (Ne.symm n1), List.getElem?_set_ne (by omega)]
        exact d1
      · rw [List.getElem?_set_ne (Ne.symm n2), List.getElem?_set_ne (by omega)]
        exact d2
theorem Walked.all {l : List Bool} {ps st : List Nat} (ok : okb none 0 l = true) (h : Walked l l.length ps st) : PairsOf l (ps.map fun i : Nat => (i : Int)) := by
  refine ⟨ok, by rw [List.length_map]; exact h.len, fun x hx => ?_⟩
  obtain ⟨y, hy⟩ := mate_ex ok hx
  refine ⟨y, ?_, hy⟩
  rw [List.getElem?_map]
  rcases hy with hy | hy
  · rw [(h.done x y hy hy.2.1).1]
    rfl
  · rw [(h.done y x hy hy.2.1).2]
    rfl
theorem cal_pairsX (D : Def K mg "pairs" s_pairs ["row"]) (C : Cal K mg (L2.CX P w) P w base 4 "check_hill" [.non] (spChHillX CN)) (m_len : mg "len" = none) (m_enumerate : mg "enumerate" = none) {t1 : Tok} (c_UP : mg "UP" = some (.str "u" t1)) : Cal K mg (L2.CX P w) P w base 5 "pairs" [] (spPairsX CN) := by
  refine D.calX scPairs (fun vs H Q E h => ?_) (fun f cdv A outer s H vs Q E hr h => ?_)
  · obtain ⟨z, rfl, _⟩ := h
    rfl
  · obtain ⟨z, rfl, hz, q, qe⟩ := h
    have nd := scPairs.nd
    refine ⟨_, (pss_cons (ps_expr (pe_cX C hr (takes_of rfl rfl rfl rfl) (pa_cons (pv 0) pa_nil)))
    (pss_cons (ps_set (i := 1) nd rfl (.inl rfl) (pe_op op_rep (pe_lst (pa_cons pe_int pa_nil)) (pe_callB call_len_str (by rfl) m_len PySem.boot_len (pa_cons (pv 0) pa_nil))))
    (pss_cons (ps_set (i := 2) nd rfl (.inl rfl) (pe_lst pa_nil))
    (pss_cons (ps_for PassesOwn.leaving rfl (pi_es (by rfl) m_enumerate (pa_cons (pv 0) pa_nil)) (pg_tup rfl (pgs_cons (pg_name (i := 3) nd rfl (.inl rfl)) (pgs_cons (pg_name (i := 4) nd rfl (.inl rfl)) pgs_nil))) (pss_one (ps_if (pt_cmpR op_eq (pv 4) (pe_glob (v := .str "u") (by rfl) c_UP ⟨_, rfl⟩) (nomark _)) (pss_one (ps_expr (pe_bm PySem.F.plainAttrs_list PySem.F.slot_list_append PySem.F.type_list_append mt_append (pv 2) (pa_cons (pv 3) pa_nil))))
        (pss_cons (ps_set (i := 5) nd rfl (.inl rfl) (pe_bm0 PySem.F.plainAttrs_list PySem.F.slot_list_pop PySem.F.type_list_pop mt_pop (pv 2)))
        (pss_cons (ps_asg (pv 5) (pg_sub (pv 1) (pv 3) set_list))
        (pss_one (ps_asg (pv 3) (pg_sub (pv 1) (pv 5) set_list))))))))
    (pss_one (ps_ret (pv 1))))))), ?_⟩
    refine ⟨.str z, rfl, z, none, rfl, hz, fun hh H1 s1 => ?_, fun hh => qe hh⟩
    obtain ⟨l, rfl, ok⟩ := hill_row8 hh
    have hzl : (txt l).length = l.length := txt_len l
    have q1 := q l rfl ok
    clear q
    refine ⟨sz (show 1 ≤ 1000000 by decide), fun p0 np0 => ?_⟩
    have s2 := s1.trans (same_upd (o := .lst [.int 0]) np0)
    refine ⟨_, rfl, txt l, rfl, sz (by omega), p0, _, _, rfl, rfl, upd_same, by omega, by omega, sz (by rw [hzl, Int.toNat_natCast]; show 1 * l.length ≤ _; omega), fun p np => ?_⟩
    rw [Int.toNat_natCast, zeros_rep, hzl]
    have s3 := s2.trans (same_upd (o := .lst (natsV (List.replicate l.length 0))) np)
    have n0 : H p = none := s2.free np
    refine ⟨sz (by decide), fun b nb => ?_⟩
    have s4 := same_updN (o := .lst []) s3 (s3.free nb)
    have pb : p ≠ b := ne_of_none upd_same nb
    have hp0 : (upd (upd (upd H1 p0 (.lst [.int 0])) p (.lst (natsV (List.replicate l.length 0)))) b (.lst [])) p = some (.lst (natsV (List.replicate l.length 0))) := by
      rw [upd_ne pb]
      exact upd_same
    have hb0 : (upd (upd (upd H1 p0 (.lst [.int 0])) p (.lst (natsV (List.replicate l.length 0)))) b (.lst [])) b = some (.lst []) := upd_same
    have nb0 : H b = none := s3.free nb
    generalize upd (upd (upd H1 p0 (.lst [.int 0])) p (.lst (natsV (List.replicate l.length 0)))) b (.lst []) = H2 at s4 hp0 hb0 ⊢
    refine ⟨.str (txt l), rfl, txt l, rfl, ?_⟩
    refine for_it walk_es (fun i σ H' => ∃ (y3 y4 y5 : Option V) (ps st : List Nat), σ = [some (.str (txt l)), some (.ref p), some (.ref b), y3, y4, y5] ∧ Same H H' ∧ Walked l i ps st ∧ H' p = some (.lst (natsV ps)) ∧ H' b = some (.lst (natsV st))) ?_ (fun _ _ _ _ _ => trivial) ?_ ?_
    · exact ⟨none, none, none, _, [], rfl, s4, .zero l, hp0, hb0⟩
    · rintro i x σ H3 H4 hi ⟨y3, y4, y5, ps, st, rfl, sm, W, ep, eb⟩ ⟨T, k0, v, rfl, nT, rfl, ek, ev⟩
      have ek : k0 = .int (i : Int) := (Option.some.inj ek).symm
      subst ek
      rw [txt_size] at hi
      obtain ⟨c, hb⟩ : ∃ c, l[i]? = some c := ⟨_, List.getElem?_eq_getElem hi⟩
      have ev : v = .str ⟨#[code c]⟩ := by
        have ev : ((txt l).cps[i]?).map (fun c => V.str ⟨#[c]⟩) = some v := ev
        rw [txt_at, hb] at ev
        exact (Option.some.inj ev).symm
      subst ev
      refine ⟨T, _, rfl, .inl (.inl upd_same), rfl, _, _, rfl, _, _, rfl, rfl, ?_⟩
      have st1 := same_upd (o := .tup [.int (i : Int), .str ⟨#[code c]⟩]) nT
      have ep1 := st1 _ _ ep
      have eb1 := st1 _ _ eb
      have sm1 := sm.trans st1
      clear st1
      generalize upd H3 T (.tup [.int (i : Int), .str ⟨#[code c]⟩]) = H5 at ep1 eb1 sm1 ⊢
      refine ⟨.str ⟨#[code c]⟩, rfl, rfl, decide (code c = 117), congrArg V.bl (is_u _), ?_⟩
      rw [code_u]
      have stl : st.length ≤ l.length := by
        have h1 := W.sl
        have h2 : hgt l i ≤ (i : Int) := by
          have : ∀ (m : Nat), m ≤ l.length → hgt l m ≤ (m : Int) := fun m => by
            induction m with
            | zero => intro _; exact Int.le_refl _
            | succ m ih =>
              intro hm
              have := ih (by omega)
              rcases hgt_step (l := l) (i := m) (by omega) with ⟨e, _⟩ | ⟨e, _⟩ <;> omega
          exact this i (by omega)
        omega
      have slen : (natsV st).length < sizeLine := szl (by
        unfold natsV
        rw [List.length_map]
        omega)
      cases c with
      | true =>
        refine iteT ?_
        refine ⟨_, rfl, .inl ⟨rfl, _, .inl (.inl eb1)⟩, _, rfl, b, _, _, rfl, rfl, eb1, slen, ?_⟩
        refine ⟨_, _, _, ps, st ++ [i], rfl, same_updN sm1 nb0, W.up hb, ?_, ?_⟩
        · rw [upd_ne pb]
          exact ep1
        · rw [upd_same, natsV_snoc]
      | false =>
        refine iteF ?_
        obtain ⟨j, hj, hjl, hil, W2⟩ := W.down ok hb
        have hj2 : (natsV st)[(natsV st).length - 1]? = some (.int (j : Int)) := by
          unfold natsV
          rw [List.length_map, List.getElem?_map, hj]
          rfl
        have hdl : (natsV st).dropLast = natsV st.dropLast := by
          unfold natsV
          rw [List.map_dropLast]
        refine ⟨_, rfl, .inl ⟨rfl, _, .inl (.inl eb1)⟩, b, _, _, rfl, rfl, eb1, hj2, ?_⟩
        rw [hdl]
        have ep2 : (upd H5 b (.lst (natsV st.dropLast))) p = some (.lst (natsV ps)) := by
          rw [upd_ne pb]
          exact ep1
        have eb2 : (upd H5 b (.lst (natsV st.dropLast))) b = some (.lst (natsV st.dropLast)) := upd_same
        have sm2 := same_updN (o := .lst (natsV st.dropLast)) sm1 nb0
        generalize upd H5 b (.lst (natsV st.dropLast)) = H6 at ep2 eb2 sm2 ⊢
        have pl : (natsV ps).length = l.length := by
          unfold natsV
          rw [List.length_map]
          exact W.len
        refine ⟨_, rfl, _, rfl, _, rfl, p, _, _, i, rfl, rfl, ep2, by rw [pl]; exact ixN_nat hil, ?_⟩
        rw [natsV_set]
        have ep3 : (upd H6 p (.lst (natsV (ps.set i j)))) p = some (.lst (natsV (ps.set i j))) := upd_same
        have eb3 : (upd H6 p (.lst (natsV (ps.set i j)))) b = some (.lst (natsV st.dropLast)) := by
          rw [upd_ne (Ne.symm pb)]
          exact eb2
        have sm3 := same_updN (o := .lst (natsV (ps.set i j))) sm2 n0
        generalize upd H6 p (.lst (natsV (ps.set i j))) = H7 at ep3 eb3 sm3 ⊢
        have pl2 : (natsV (ps.set i j)).length = l.length := by
          unfold natsV
          rw [List.length_map, List.length_set]
          exact W.len
        refine ⟨_, rfl, _, rfl, _, rfl, p, _, _, j, rfl, rfl, ep3, by rw [pl2]; exact ixN_nat hjl, ?_⟩
        rw [natsV_set]
        refine ⟨_, _, _, _, _, rfl, same_updN sm3 n0, W2, upd_same, ?_⟩
        rw [upd_ne (Ne.symm pb)]
        exact eb3
    · rintro σ H3 ⟨y3, y4, y5, ps, st, rfl, sm, W, ep, eb⟩
      rw [txt_size] at W
      refine ⟨.ref p, rfl, q1 H3 p _ sm n0 (W.all ok) ?_⟩
      rw [← natsV_ints]
      exact ep
end
end Hr
/-! ### the row of pairs -/
namespace Hr
open PySem PySem.Spec PyProof.Rows L2
theorem eqv_ints : ∀ xs ys : List Int, PyData.eqvAll (xs.map PyData.int) (ys.map PyData.int) = decide (xs = ys)
  | [], [] => rfl
  | [], _ :: _ => rfl
  | _ :: _, [] => rfl
  | x :: xs, y :: ys => by
    have ih := eqv_ints xs ys
    show ((x == y) && PyData.eqvAll (xs.map PyData.int) (ys.map PyData.int)) = _
    rw [ih]
    by_cases h : x = y
    · subst h
      rw [show (x == x) = true from beq_self_eq_true x, Bool.true_and]
      exact decide_eq_decide.mpr ⟨fun z => by rw [z], fun z => (List.cons.inj z).2⟩
    · rw [show (x == y) = false from beq_eq_false_iff_ne.mpr h, Bool.false_and]
      exact (decide_eq_false fun z => h (List.cons.inj z).1).symm
theorem eqv_intl (xs ys : List Int) : PyData.eqv (.list (xs.map PyData.int)) (.list (ys.map PyData.int)) = decide (xs = ys) := eqv_ints xs ys
def inB (m : Int) (ps : List Int) : Bool := ps.all fun i => numB (.int i) m
theorem inB_pairs {l : List Bool} {ps : List Int} (h : PairsOf l ps) : inB ((ps.length : Int) - 1) ps = true := by
  unfold inB
  rw [List.all_eq_true]
  intro p hp
  obtain ⟨i, hi, e⟩ := List.getElem_of_mem hp
  obtain ⟨y, e1, m1⟩ := h.2.2 i (by rw [← h.2.1]; exact hi)
  rw [List.getElem?_eq_getElem hi, e] at e1
  have e1 := Option.some.inj e1
  rw [e1]
  have := m1.lt
  rw [h.2.1]
  exact numB_nat (by omega)
section
variable {P : Program} {w : World} {K : PySem.W.Frag} {mg : Str → Option Value} {base : Heap} {CN CP : Addr}
def spIsPlaces : Sp := fun vs H Q _ => ∃ (a : Addr) (ps : List Int), vs = [.ref a] ∧ H a = some (.lst (ps.map V.int)) ∧ ps.length ≤ 1000 ∧ ∀ H', Same H H' → Q (.bl (inB ((ps.length : Int) - 1) ps)) H'
theorem cal_isPlaces (D : Def K mg "is_list_of_places" s_is_list_of_places ["places"]) (C : Cal K mg CX0 P w base 1 "is_number" [.int 0] spIsNumV) (m_isinstance : mg "isinstance" = none) (m_list : mg "list" = none) (m_len : mg "len" = none) (m_all : mg "all" = none) : Cal K mg CX0 P w base 2 "is_list_of_places" [] spIsPlaces := by
  refine D.cal scIsPlaces (fun vs H Q E h => ?_) (fun f cdv A outer s H vs Q E hr h => ?_)
  · obtain ⟨a, ps, rfl, _⟩ := h
    rfl
  · obtain ⟨a, ps, rfl, ea, hl, q⟩ := h
    have nd := scIsPlaces.nd
    refine ⟨_, (pss_cons (ps_if (pt_not (pt_val (pe_callB call_isi (by rfl) m_isinstance (by decide +kernel) (pa_cons (pv 0) (pa_cons (pe_bltn (v := .ty "list") (u := .type "list") (by rfl) m_list (by decide +kernel) rfl) pa_nil))))) (pss_one (ps_ret pe_bl)) pss_nil)
    (pss_cons (ps_set (i := 1) nd rfl (.inr rfl) (pe_op op_sub (pe_callB call_len_seq (by rfl) m_len PySem.boot_len (pa_cons (pv 0) pa_nil)) pe_int))
    (pss_one (ps_ret (pe_callB (cr_all rfl) (by rfl) m_all (by decide +kernel) (pa_cons (pe_lc (own := [("place", 2)]) (g := gName 2) (tt := tYes) rfl nd (pi_list (pv 0)) (blkOk_by (N := ["places", "last", "place"]) (sc := defScope s_is_list_of_places) (by decide +kernel)) (fun _ _ _ _ _ => (pg_name (i := 2) nd rfl (Or.inl rfl) (Or.inr rfl))) (fun _ _ _ _ _ => pts_nil) (fun _ _ _ _ _ => (pe_c C hr (pa_cons (pv 2) (pa_cons (pv 1) pa_nil))))) pa_nil)))))), ?_⟩
    refine ⟨_, rfl, _, .ty "list", _, _, true, rfl, .ty "list", .base (.lst ea), kit_ty (by decide +kernel), true, rfl, iteF ?_⟩
    refine ⟨_, rfl, a, _, rfl, .inl (.inl (.inl ea)), _, 1, rfl, rfl, ?_⟩
    refine ⟨_, rfl, a, rfl, ⟨_, .inl (.inl ea)⟩, fun D nD => ?_⟩
    refine lc_it (walk_list (K := K) (a := a) (xs := ps.map V.int)) (fun i H' => Same H H' ∧ H' D = some (.lst (((ps.take i).map fun p => numB (.int p) ((ps.length : Int) - 1)).map V.bl))) ⟨same_upd nD, upd_same⟩ ?_ ?_ ?_
    · rintro i H' _ ⟨sm, _⟩
      exact .inl (.inl (sm _ _ ea))
    · rintro i x H1 H2 hi ⟨sm, eD⟩ ⟨rfl, ex⟩
      rw [List.length_map] at hi
      have hpi : ps[i]? = some ps[i] := List.getElem?_eq_getElem hi
      generalize ps[i] = p at hpi
      have ex : x = .int p := by
        have ex : (ps.map V.int)[i]? = some x := ex
        rw [List.getElem?_map, hpi] at ex
        exact (Option.some.inj ex).symm
      subst ex
      refine ⟨rfl, ?_⟩
      unfold tYes
      refine iteT ?_
      refine ⟨_, rfl, _, rfl, .int p, (((ps.map V.int).length : Int) - 1), rfl, rfl, ?_⟩
      refine ⟨_, eD, szl (by rw [List.length_map, List.length_map, List.length_take]; omega), same_updN sm nD, ?_⟩
      rw [upd_same, take_snoc hpi, List.map_append, List.map_append, List.length_map]
      rfl
    · rintro H1 ⟨sm, eD⟩
      rw [List.length_map, List.take_of_length_le (Nat.le_refl _)] at eD
      refine ⟨D, _, rfl, .inl (.inl eD), ?_⟩
      have e : ((ps.map fun p => numB (.int p) ((ps.length : Int) - 1)).all id) = inB ((ps.length : Int) - 1) ps := by
        rw [List.all_map]
        rfl
      rw [e]
      exact q H1 sm
def spOfPairs (CP : Addr) : Sp := fun vs H Q E => ∃ (a : Addr) (ps : List Int), vs = [.ref a] ∧ H a = some (.lst (ps.map V.int)) ∧ ps.length ≤ 1000 ∧ (∀ l, PairsOf l ps → ∀ H', Same H H' → Q (.str (txt l)) H') ∧ ((∀ l, ¬ PairsOf l ps) → ∀ H', Same H H' → E (.ref CP) none H')
theorem cal_ofPairs (er : Err K mg "NoPairs" CP) (D : Def K mg "row_of_pairs" s_row_of_pairs ["places"]) (C : Cal K mg CX0 P w base 2 "is_list_of_places" [] spIsPlaces) (C2 : Cal K mg CX0 P w base 3 "is_hill" [.non] spIsHill) (C3 : Cal K mg (L2.CX P w) P w base 5 "pairs" [] (spPairsX CN)) (m_enumerate : mg "enumerate" = none)
    {t1 t2 : Tok} (c_UP : mg "UP" = some (.str "u" t1)) (c_DOWN : mg "DOWN" = some (.str "d" t2)) : Cal K mg (L2.CX P w) P w base 6 "row_of_pairs" [] (spOfPairs CP) := by
  refine D.calX scOfPairs (fun vs H Q E h => ?_) (fun f cdv A outer s H vs Q E hr h => ?_)
  · obtain ⟨a, ps, rfl, _⟩ := h
    rfl
  · obtain ⟨a, ps, rfl, ea, hl, q, qe⟩ := h
    have nd := scOfPairs.nd
    refine ⟨_, (pss_cons (ps_if (pt_not (pt_val (pe_c C hr (pa_cons (pv 0) pa_nil)))) (pss_one (ps_raise rfl (takes_of rfl rfl rfl rfl) (pmk_own PySem.F.excBase_ValueError er.x er.g er.k (raises_own er.b er.t) rfl))) pss_nil)
    (pss_cons (ps_set (i := 1) nd rfl (.inl rfl) (pe_join pe_str (pe_lc (own := [("place", 2), ("other", 3)]) (g := gTup K 2 (gCons (gName 2) (gCons (gName 3) gNil))) (tt := tYes) rfl nd (pi_enum (by rfl) m_enumerate (pa_cons (pv 0) pa_nil)) (blkOk_by (N := ["places", "row", "place", "other"]) (sc := defScope s_row_of_pairs) (by decide +kernel)) (fun _ _ _ _ _ => (pg_tup rfl (pgs_cons (pg_name (i := 2) nd rfl (Or.inl rfl) (Or.inr rfl)) (pgs_cons (pg_name (i := 3) nd rfl (Or.inl rfl) (Or.inr rfl)) pgs_nil)))) (fun _ _ _ _ _ => pts_nil) (fun _ _ _ _ _ => (pe_ifExp (pt_cmpR op_gt (pv 3) (pv 2) (nomark _)) (pe_glob (v := .str "u") (by rfl) c_UP ⟨_, rfl⟩) (pe_glob (v := .str "d") (by rfl) c_DOWN ⟨_, rfl⟩))))))
    (pss_cons (ps_if (PW.pt (pw_or (pt_not (pt_val (pe_c C2 hr (pa_cons (pv 1) pa_nil)))) (pw_or1 (pt_cmpR (op_neD hr.units) (pe_cX C3 hr (takes_of rfl rfl rfl rfl) (pa_cons (pv 1) pa_nil)) (pv 0) (nomark _))))) (pss_one (ps_raise rfl (takes_of rfl rfl rfl rfl) (pmk_own PySem.F.excBase_ValueError er.x er.g er.k (raises_own er.b er.t) rfl))) pss_nil)
    (pss_one (ps_ret (pv 1)))))), ?_⟩
    refine ⟨_, rfl, a, ps, rfl, ea, hl, fun H1 s1 => ⟨_, rfl, ?_⟩⟩
    by_cases hin : inB ((ps.length : Int) - 1) ps = true
    · rw [hin]
      refine iteF ?_
      have ea1 := s1 _ _ ea
      have sl : (signsAt 0 ps).length = ps.length := signsAt_len ps 0
      refine ⟨⟨_, rfl⟩, _, rfl, a, _, rfl, .inl (.inl ea1), fun D nD => ?_⟩
      have n0 : H D = none := s1.free nD
      refine lc_it (walk_enum (K := K) (a := a) (xs := ps.map V.int)) (fun i H' => Same H H' ∧ H' D = some (.lst (((signsAt 0 ps).take i).map fun b => V.str (sgn b)))) ⟨same_updN s1 n0, upd_same⟩ ?_ ?_ ?_
      · rintro i H' _ ⟨sm, _⟩
        exact .inl (.inl (sm _ _ ea))
      · rintro i x H2 H3 hi ⟨sm, eD⟩ ⟨T, k0, v, rfl, nT, rfl, ek, ev⟩
        have ek : k0 = .int (i : Int) := (Option.some.inj ek).symm
        subst ek
        rw [List.length_map] at hi
        have hpi : ps[i]? = some ps[i] := List.getElem?_eq_getElem hi
        generalize ps[i] = p at hpi
        have ev : v = .int p := by
          have ev : (ps.map V.int)[i]? = some v := ev
          rw [List.getElem?_map, hpi] at ev
          exact (Option.some.inj ev).symm
        subst ev
        have hs := signsAt_get ps 0 i p hpi
        rw [Nat.zero_add] at hs
        have st := same_upd (o := .tup [.int (i : Int), .int p]) nT
        have gD := st _ _ eD
        have sT := sm.trans st
        refine ⟨T, _, rfl, .inl (.inl upd_same), rfl, _, _, rfl, _, _, rfl, rfl, rfl, ?_⟩
        generalize upd H2 T (.tup [.int (i : Int), .int p]) = H4 at gD sT ⊢
        unfold tYes
        refine iteT ?_
        have hsz : (((signsAt 0 ps).take i).map fun b => V.str (sgn b)).length < sizeLine := szl (by
          rw [List.length_map, List.length_take]
          omega)
        have fin : ∀ b, decide ((i : Int) < p) = b → (((signsAt 0 ps).take (i + 1)).map fun b => V.str (sgn b)) = (((signsAt 0 ps).take i).map fun b => V.str (sgn b)) ++ [.str (sgn b)] := fun b hb => by
          rw [take_snoc hs, List.map_append, hb]
          rfl
        refine ⟨_, rfl, _, rfl, p, (i : Int), rfl, rfl, _, rfl, ite2 (fun e => ?_) (fun e => ?_)⟩
        · have e0 : (i : Int) < p := of_decide_eq_true e
          refine ⟨_, gD, hsz, same_updN sT n0, ?_⟩
          rw [upd_same, fin true (decide_eq_true e0)]
          rfl
        · have e0 : ¬ (i : Int) < p := fun z => e (decide_eq_true z)
          refine ⟨_, gD, hsz, same_updN sT n0, ?_⟩
          rw [upd_same, fin false (decide_eq_false e0)]
          rfl
      · rintro H2 ⟨sm, eD⟩
        rw [List.length_map, List.take_of_length_le (by rw [sl]; exact Nat.le_refl _)] at eD
        refine ⟨"", D, (signsAt 0 ps).map sgn, rfl, rfl, .inl (.inl (.inl (by rw [List.map_map]; exact eD))), ?_, ?_⟩
        · rw [sgn_sum, sl, show ("" : Str).length = 0 by decide +kernel]
          omega
        rw [join_signs]
        refine ⟨_, rfl, txt (signsAt 0 ps), none, rfl, by rw [txt_len, sl]; exact hl, fun H3 s3 => ⟨_, rfl, ?_⟩⟩
        rw [hillB_txt]
        cases hok : okb none 0 (signsAt 0 ps) with
        | false =>
          refine iteT ?_
          refine qe (fun l hp => ?_) H3 (sm.trans s3)
          rw [hp.signs, hp.1] at hok
          cases hok
        | true =>
          refine iteF ?_
          refine ⟨_, rfl, txt (signsAt 0 ps), rfl, by rw [txt_len, sl]; exact hl, fun l hl' _ H4 p qs s4 np hq ep => ?_, fun e => absurd ((row_hillB hok).symm.trans e) (by decide)⟩
          have : l = signsAt 0 ps := (txt_inj hl').symm
          subst this
          have s04 := (sm.trans s3).trans s4
          refine ⟨_, rfl, .list (qs.map PyData.int), .list (ps.map PyData.int), .lst (.inl (.inl ep)) (dp_ints _), .lst (.inl (.inl (s04 _ _ ea))) (dp_ints _), sh_ints _, sh_ints _, _, rfl, ?_⟩
          rw [eqv_intl]
          by_cases he : qs = ps
          · rw [decide_eq_true he]
            refine iteF ?_
            rw [he] at hq
            exact ⟨_, rfl, q _ hq H4 s04⟩
          · rw [decide_eq_false he]
            refine iteT ?_
            refine qe (fun l hp => he ?_) H4 s04
            have := hp.signs
            rw [this] at hq
            exact hq.same hp
    · have hin' : inB ((ps.length : Int) - 1) ps = false := by simpa using hin
      rw [hin']
      refine iteT ?_
      exact qe (fun l hp => hin (inB_pairs hp)) H1 s1
end
end Hr
/-! ### x.replace(y, z) where y and z are put together from texts of the module -/
namespace Hr
open PySem PySem.Spec PyProof.Rows L2
section
variable {X : Cx} {o e1 e2 : Expr} {to : TE} {a b c : Str} {x y z : Str} {t u v : Tok} {p1 p2 p3 pos apos : Pos}
/-- a text just made: its token is new -/
def PFr (X : Cx) (e : Expr) (z : Str) : Prop := ∀ (pins : List (Addr × Obj)) (s : Shared) (σ : L2.St) (H : Hp) (Q : Value → Shared → Prop), Inv X pins σ H s →
  (∀ (t : Nat) (s1 : Shared), s.toks ≤ t → t < s1.toks → Inv X pins σ H s1 → Q (.str z t) s1) → wpAny (model X.prog X.w) X.A (eval e X.env) Q X.xe s
theorem pf_nn (ga : Gl X a) (ma : X.mg a = some (.str x t)) (gb : Gl X b) (mb : X.mg b = some (.str y u)) (hx : (x.length == 0) = false := by decide) (hy : (y.length == 0) = false := by decide) (hz : (x ++ y).length ≤ sizeLine := by decide)
    (hda : (a == ("__debug__" : Str)) = false := by decide) (hdb : (b == ("__debug__" : Str)) = false := by decide) : PFr X (.BinOp (.Name a p1) .Add (.Name b p2) pos) (x ++ y) := by
  intro pins s σ H Q I h
  refine wpAny_BinOp (ld_glob I ga ma (ld_glob I gb mb ?_ hdb) hda)
  refine PySem.P.add_str ?_
  rw [hx, hy]
  exact ⟨hz, h s.toks _ (Nat.le_refl _) (Nat.lt_succ_self _) (I.tok _)⟩
theorem pf_fn (he : PFr X e1 x) (gb : Gl X b) (mb : X.mg b = some (.str y u)) (hx : (x.length == 0) = false := by decide) (hy : (y.length == 0) = false := by decide) (hz : (x ++ y).length ≤ sizeLine := by decide)
    (hdb : (b == ("__debug__" : Str)) = false := by decide) : PFr X (.BinOp e1 .Add (.Name b p2) pos) (x ++ y) := by
  intro pins s σ H Q I h
  refine wpAny_BinOp (he pins s σ H _ I fun t s1 h1 h2 I1 => ld_glob I1 gb mb ?_ hdb)
  refine PySem.P.add_str ?_
  rw [hx, hy]
  exact ⟨hz, h s1.toks _ (by omega) (Nat.lt_succ_self _) (I1.tok _)⟩
theorem pet_replG (ho : PET X o to) (h1 : PFr X e1 y) (h2 : PFr X e2 z) (hyz : (y == z) = false := by decide)
    (hst : starEach [e1, e2] X.env = [(false, eval e1 X.env), (false, eval e2 X.env)] := by rfl)
    (hbase : attributeBase o "replace" X.env (eval o X.env) = eval o X.env := by rfl) (hline : (apos.endLine == pos.line) = true := by rfl) :
    PET X (.Call (.Attribute o "replace" apos) [e1, e2] [] pos) (CwR.tReplC to y z) := by
  intro pins s σ H Q h0 I h
  refine PySem.Call_method2 hbase hst hline (wpAny_mono (PySem.wpAny_toks (ho pins s σ H _ h0 I h)) (fun v s1 q => ?_) fun _ _ z => z.2)
  obtain ⟨hk, v', H1, I1, r1, x, e1, hb, q⟩ := q
  subst e1
  obtain ⟨tx, e2⟩ := r1
  subst e2
  refine ⟨"str", _, PySem.F.plainAttrs_str, PySem.F.slot_str_replace, PySem.F.type_str_replace, typeIs_str _ _ _, (fun _ e => nomatch e), Calls.callWith_builtin rfl (Calls.evalArgs_plain (Calls.spliced_cons ?_))⟩
  refine h1 pins s1 σ H1 _ I1 fun t1 s2 a1 a2 I2 => Calls.spliced_cons (h2 pins s2 σ H1 _ I2 fun t2 s3 b1 b2 I3 => Calls.spliced_nil ?_)
  exact PySem.SC.replace (fun e => by have : (t1 : Nat) = 0 := e; omega) (fun e => by have : (t2 : Nat) = 0 := e; omega) (fun e => by have : (t1 : Nat) = t2 := e; omega) hyz hb fun t' k => ⟨.str (Txt.replace x y z), H1, I3.tok k, ⟨t', rfl⟩, q⟩
theorem pst_set {i : Nat} {n : Str} {e : Expr} {te : TE} {pos' : Pos} (hN : X.N.Nodup) (hi : X.N[i]? = some n) (hx : Loc X.env.scope n) (he : PET X e te) (hs : swapsWith e (some (.Name n pos')) pos.line X.env = pure false := by rfl) (hf : X.fn n = true ∨ X.env.scope.names.lookup n = some .local := by first | exact .inl rfl | exact .inr rfl | assumption) :
    PST X (.Assign [.Name n pos'] e pos) (tAsg te (gName i)) := by
  intro pins s σ H D h0 I h
  refine wpAny_Assign_Name (thn (he pins s σ H _ h0 I h) fun v s1 ⟨y, H1, I1, r1, q1⟩ => ?_) hs
  exact store_ok I1 hN hi hx r1 (fun s2 I2 => ⟨_, H1, I2, q1⟩) hf
end
end Hr
/-! ### runs of equal signs -/
namespace Hr
open PySem PySem.Spec PyProof.Rows L2
/-- a blank between signs that differ -/
def sep : List Bool → List Nat
  | [] => []
  | [c] => [code c]
  | c :: d :: r => if c = d then code c :: sep (d :: r) else code c :: 32 :: sep (d :: r)
/-- a blank into each ud -/
def rep1 : List Bool → List Nat
  | [] => []
  | [c] => [code c]
  | true :: false :: r => 117 :: 32 :: 100 :: rep1 r
  | true :: true :: r => 117 :: rep1 (true :: r)
  | false :: c :: r => 100 :: rep1 (c :: r)
theorem rep1_down (r : List Bool) : rep1 (false :: r) = 100 :: rep1 r := by
  cases r with
  | nil => rfl
  | cons c r => cases c <;> rfl
theorem rep1_upup (r : List Bool) : rep1 (true :: true :: r) = 117 :: rep1 (true :: r) := rfl
theorem repl_1 : ∀ (n : Nat) (l : List Bool), l.length ≤ n → StrLaws.replL [117, 100] [117, 32, 100] (l.map code) = rep1 l
  | _, [], _ => StrLaws.replL_nil
  | 0, _ :: _, h => absurd h (by simp)
  | n + 1, [c], _ => by
    have h : ¬ ((code c :: []).take ([117, 100] : List Nat).length = [117, 100]) := by cases c <;> decide
    show StrLaws.replL [117, 100] [117, 32, 100] (code c :: []) = _
    rw [StrLaws.replL_miss h, StrLaws.replL_nil]
    rfl
  | n + 1, true :: false :: r, h => by
    show StrLaws.replL [117, 100] [117, 32, 100] (117 :: 100 :: r.map code) = _
    rw [StrLaws.replL_hit (by simp) rfl]
    show [117, 32, 100] ++ StrLaws.replL [117, 100] [117, 32, 100] (r.map code) = _
    rw [repl_1 n r (by simp only [List.length_cons] at h; omega)]
    rfl
  | n + 1, true :: true :: r, h => by
    show StrLaws.replL [117, 100] [117, 32, 100] (117 :: 117 :: r.map code) = _
    have hm : ¬ (((117 : Nat) :: 117 :: r.map code).take ([117, 100] : List Nat).length = [117, 100]) := by
      show ¬ ([117, 117] = [117, 100])
      decide
    rw [StrLaws.replL_miss hm]
    have := repl_1 n (true :: r) (by simp only [List.length_cons] at h ⊢; omega)
    rw [rep1_upup, ← this]
    rfl
  | n + 1, false :: c :: r, h => by
    show StrLaws.replL [117, 100] [117, 32, 100] (100 :: (c :: r).map code) = _
    have hm : ¬ (((100 : Nat) :: (c :: r).map code).take ([117, 100] : List Nat).length = [117, 100]) := by
      intro e
      have := (List.cons.inj e).1
      cases this
    rw [StrLaws.replL_miss hm, repl_1 n (c :: r) (by simp only [List.length_cons] at h ⊢; omega), rep1_down]
abbrev rp2 (l : List Nat) : List Nat := StrLaws.replL [100, 117] [100, 32, 117] l
theorem rp2_117 (l : List Nat) : rp2 (117 :: l) = 117 :: rp2 l := StrLaws.replL_miss fun e => by
  have := (List.cons.inj e).1
  cases this
theorem rp2_32 (l : List Nat) : rp2 (32 :: l) = 32 :: rp2 l := StrLaws.replL_miss fun e => by
  have := (List.cons.inj e).1
  cases this
theorem rp2_100 (l : List Nat) : rp2 (100 :: 100 :: l) = 100 :: rp2 (100 :: l) := StrLaws.replL_miss fun e => by
  have e : [100, 100] = [100, 117] := e
  cases e
theorem rp2_hit (l : List Nat) : rp2 (100 :: 117 :: l) = 100 :: 32 :: 117 :: rp2 l := StrLaws.replL_hit (by simp) rfl
theorem repl_2 : ∀ (n : Nat) (l : List Bool), l.length ≤ n → rp2 (rep1 l) = sep l ∧ rp2 (100 :: rep1 l) = sep (false :: l)
  | _, [], _ => ⟨StrLaws.replL_nil, by decide⟩
  | 0, _ :: _, h => absurd h (by simp)
  | n + 1, [true], _ => ⟨by decide, by decide⟩
  | n + 1, true :: false :: r, h => by
    have ih := (repl_2 n r (by simp only [List.length_cons] at h; omega)).2
    constructor
    · show rp2 (117 :: 32 :: 100 :: rep1 r) = _
      rw [rp2_117, rp2_32, ih]
      rfl
    · show rp2 (100 :: 117 :: 32 :: 100 :: rep1 r) = _
      rw [rp2_hit, rp2_32, ih]
      rfl
  | n + 1, true :: true :: r, h => by
    have ih := (repl_2 n (true :: r) (by simp only [List.length_cons] at h ⊢; omega)).1
    constructor
    · show rp2 (117 :: rep1 (true :: r)) = _
      rw [rp2_117, ih]
      rfl
    · show rp2 (100 :: 117 :: rep1 (true :: r)) = _
      rw [rp2_hit, ih]
      rfl
  | n + 1, false :: r, h => by
    have ih := (repl_2 n r (by simp only [List.length_cons] at h; omega)).2
    constructor
    · rw [rep1_down]
      exact ih
    · rw [rep1_down, rp2_100, ih]
      rfl
/-- the runs of a row: sign and length -/
def grp : List Bool → List (Bool × Nat)
  | [] => []
  | c :: r => match grp r with
    | [] => [(c, 1)]
    | (d, n) :: g => if c = d then (d, n + 1) :: g else (c, 1) :: (d, n) :: g
def expd (g : List (Bool × Nat)) : List Bool := g.flatMap fun p => List.replicate p.2 p.1
theorem grp_ne (c : Bool) (r : List Bool) : ∃ n g, grp (c :: r) = (c, n + 1) :: g := by
  show ∃ n g, (match grp r with
    | [] => [(c, 1)]
    | (d, n) :: g => if c = d then (d, n + 1) :: g else (c, 1) :: (d, n) :: g) = _
  cases grp r with
  | nil => exact ⟨0, [], rfl⟩
  | cons p g =>
    obtain ⟨d, n⟩ := p
    by_cases e : c = d
    · subst e
      exact ⟨n, g, if_pos rfl⟩
    · exact ⟨0, (d, n) :: g, if_neg e⟩
theorem grp_same (c : Bool) (r : List Bool) {n : Nat} {g : List (Bool × Nat)} (h : grp (c :: r) = (c, n) :: g) : grp (c :: c :: r) = (c, n + 1) :: g := by
  show (match grp (c :: r) with
    | [] => [(c, 1)]
    | (d, n) :: g => if c = d then (d, n + 1) :: g else (c, 1) :: (d, n) :: g) = _
  rw [h]
  exact if_pos rfl
theorem grp_other {c d : Bool} (r : List Bool) (h : c ≠ d) : grp (c :: d :: r) = (c, 1) :: grp (d :: r) := by
  obtain ⟨n, g, e⟩ := grp_ne d r
  show (match grp (d :: r) with
    | [] => [(c, 1)]
    | (d, n) :: g => if c = d then (d, n + 1) :: g else (c, 1) :: (d, n) :: g) = _
  rw [e]
  exact if_neg h
theorem expd_grp : ∀ l : List Bool, expd (grp l) = l
  | [] => rfl
  | [c] => by cases c <;> rfl
  | c :: d :: r => by
    have ih := expd_grp (d :: r)
    by_cases e : c = d
    · subst e
      obtain ⟨n, g, e⟩ := grp_ne c r
      rw [grp_same c r e]
      rw [e] at ih
      show List.replicate (n + 1 + 1) c ++ expd g = _
      have ih : List.replicate (n + 1) c ++ expd g = c :: r := ih
      rw [List.replicate_succ, List.cons_append, ih]
    · rw [grp_other r e]
      show [c] ++ expd (grp (d :: r)) = _
      rw [ih]
      rfl
/-- neighbours differ, none is empty -/
def Alt : List (Bool × Nat) → Prop
  | [] => True
  | [p] => 1 ≤ p.2
  | p :: q :: r => 1 ≤ p.2 ∧ p.1 ≠ q.1 ∧ Alt (q :: r)
theorem alt_grp : ∀ l : List Bool, Alt (grp l)
  | [] => trivial
  | [c] => Nat.le_refl 1
  | c :: d :: r => by
    have ih := alt_grp (d :: r)
    obtain ⟨n, g, e⟩ := grp_ne d r
    by_cases h : c = d
    · subst h
      rw [grp_same c r e]
      rw [e] at ih
      cases g with
      | nil => exact (by omega : 1 ≤ n + 1 + 1)
      | cons q g => exact ⟨by show 1 ≤ n + 1 + 1; omega, ih.2.1, ih.2.2⟩
    · rw [grp_other r h]
      rw [e] at ih ⊢
      exact ⟨Nat.le_refl 1, h, ih⟩
def gtx (p : Bool × Nat) : Str := txt (List.replicate p.2 p.1)
theorem tl_txt (l : List Bool) : TL.tl (txt l) = l.map code := rfl
theorem sep_grp : ∀ l : List Bool, TL.joinL [32] ((grp l).map fun p => (List.replicate p.2 p.1).map code) = sep l
  | [] => rfl
  | [c] => by cases c <;> rfl
  | c :: d :: r => by
    have ih := sep_grp (d :: r)
    obtain ⟨n, g, e⟩ := grp_ne d r
    by_cases h : c = d
    · subst h
      rw [grp_same c r e]
      rw [e] at ih
      have es : sep (c :: c :: r) = code c :: sep (c :: r) := if_pos rfl
      rw [es, ← ih]
      cases g with
      | nil => rfl
      | cons q g => rfl
    · rw [grp_other r h]
      rw [e] at ih ⊢
      have es : sep (c :: d :: r) = code c :: 32 :: sep (d :: r) := if_neg h
      rw [es, ← ih]
      cases g with
      | nil => rfl
      | cons q g => rfl
/-- what equal_signs makes of a row -/
theorem equal_txt (l : List Bool) (h : l ≠ []) : Txt.split (Txt.replace (Txt.replace (txt l) ("u" ++ "d") ("u" ++ " " ++ "d")) ("d" ++ "u") ("d" ++ " " ++ "u")) " " = (grp l).map gtx := by
  have hb : TL.tl (" " : Str) = [32] := by decide +kernel
  have e1 : (Txt.replace (txt l) ("u" ++ "d") ("u" ++ " " ++ "d")).cps.toList = rep1 l := by
    rw [StrLaws.replace_list (by decide +kernel)]
    exact repl_1 l.length l (Nat.le_refl _)
  have e2 : (Txt.replace (Txt.replace (txt l) ("u" ++ "d") ("u" ++ " " ++ "d")) ("d" ++ "u") ("d" ++ " " ++ "u")).cps.toList = sep l := by
    rw [StrLaws.replace_list (by decide +kernel), e1]
    exact (repl_2 l.length l (Nat.le_refl _)).1
  have e3 : Txt.replace (Txt.replace (txt l) ("u" ++ "d") ("u" ++ " " ++ "d")) ("d" ++ "u") ("d" ++ " " ++ "u") = Txt.join " " ((grp l).map gtx) := by
    refine TL.ext_tl ?_
    rw [TL.join_eq, TL.tl_join, hb, List.map_map]
    exact e2.trans (sep_grp l).symm
  rw [e3]
  refine TL.split_join (s := 32) (S := []) hb (by decide +kernel) ?_ ?_
  · cases l with
    | nil => exact absurd rfl h
    | cons c r =>
      obtain ⟨n, g, e⟩ := grp_ne c r
      rw [e]
      simp
  · intro p hp hm
    obtain ⟨q, _, rfl⟩ := List.mem_map.mp hp
    have hm : 32 ∈ (List.replicate q.2 q.1).map code := hm
    obtain ⟨b, _, hb⟩ := List.mem_map.mp hm
    cases b <;> cases hb
end Hr
/-! ### equal_signs, runs -/
namespace Hr
open PySem PySem.Spec PyProof.Rows L2
theorem scEq : FnScope ["row", "parted"] ["row"] (defScope s_equal_signs) := ⟨rfl, rfl, rfl, by decide +kernel, rfl, by decide +kernel, by decide +kernel⟩
theorem scRuns : FnScope ["row", "part"] ["row"] (defScope s_runs) := ⟨rfl, rfl, rfl, by decide +kernel, rfl, by decide +kernel, by decide +kernel⟩
/-- a run's word -/
def dec (n : Nat) : Str := Str.ofString (toString ((n : Nat) : Int))
def wordOf (p : Bool × Nat) : Str := sgn p.1 ++ dec p.2
def runsT (l : List Bool) : Str := if l = [] then "-" else Txt.join " " ((grp l).map wordOf)
theorem dec_len {n : Nat} (h : n < 10000) : (dec n).length ≤ 4 := by
  show (Str.ofString (toString ((n : Nat) : Int))).length ≤ 4
  rw [TL.len_tl, TL.tl_num]
  exact TL.numL_len (k := 4) (by decide) (by omega)
def tJ (ts : List TE) : TE := fun σ H Q => tJs ts Str.empty σ H fun out H1 => Q (.str out) H1
theorem pe_joinT {X : Cx} {v1 v2 : Expr} {rest : List Expr} {ts : List TE} {pos : Pos} (h : PJ X (v1 :: v2 :: rest) ts) : PE X (.JoinedStr (v1 :: v2 :: rest) pos) (tJ ts) := pe_joined h
theorem small_log {n : Nat} (h : n ≤ 10000) : ((n : Nat) : Int).natAbs.log2 < 1920 := by
  show n.log2 < 1920
  by_cases h0 : n = 0
  · subst h0
    decide
  · exact (Nat.log2_lt h0).mpr (Nat.lt_of_le_of_lt h (Nat.lt_of_lt_of_le (show 10000 < 2 ^ 14 by decide) (Nat.pow_le_pow_right (by decide) (show 14 ≤ 1920 by decide))))
theorem grp_len : ∀ l : List Bool, (grp l).length ≤ l.length
  | [] => Nat.le_refl _
  | [c] => by cases c <;> decide
  | c :: d :: r => by
    have ih := grp_len (d :: r)
    obtain ⟨n, g, e⟩ := grp_ne d r
    by_cases h : c = d
    · subst h
      rw [grp_same c r e]
      rw [e] at ih
      simp only [List.length_cons] at ih ⊢
      omega
    · rw [grp_other r h]
      simp only [List.length_cons] at ih ⊢
      omega
theorem alt_pos : ∀ {g : List (Bool × Nat)} {i : Nat} {p : Bool × Nat}, Alt g → g[i]? = some p → 1 ≤ p.2
  | [], i, p, _, h => by cases h
  | [q], 0, p, a, h => by
    have : q = p := Option.some.inj h
    subst this
    exact a
  | [q], i + 1, p, a, h => by cases h
  | q :: q2 :: r, 0, p, a, h => by
    have : q = p := Option.some.inj h
    subst this
    exact a.1
  | q :: q2 :: r, i + 1, p, a, h => alt_pos (g := q2 :: r) a.2.2 h
theorem expd_len : ∀ {g : List (Bool × Nat)} {i : Nat} {p : Bool × Nat}, g[i]? = some p → p.2 ≤ (expd g).length
  | [], i, p, h => by cases h
  | q :: r, 0, p, h => by
    have : q = p := Option.some.inj h
    subst this
    show q.2 ≤ (List.replicate q.2 q.1 ++ expd r).length
    rw [List.length_append, List.length_replicate]
    omega
  | q :: r, i + 1, p, h => by
    have := expd_len (g := r) (i := i) h
    show p.2 ≤ (List.replicate q.2 q.1 ++ expd r).length
    rw [List.length_append]
    omega
section
variable {P : Program} {w : World} {K : PySem.W.Frag} {mg : Str → Option Value} {base : Heap} {CN : Addr}
theorem Def.calT {x : Str} {st : Stmt} {N ps : List Str} {k : Nat} {sp : Sp} (D : Def K mg x st ps) (S : FnScope N ps (defScope st)) (hnc : ∀ y ∈ (defScope st).names, y.2 ≠ .cell) (hps : 1 ≤ ps.length) (len : ∀ vs H Q E, sp vs H Q E → vs.length = ps.length)
    (hbody : ∀ (f : Addr) (cdv : Value) (A : Around) (outer : List Env) (s : Shared) (H : Hp) (vs : List V) (Q : VK) (E : XK), Room k (A.deeper (envOfC x (defScope st) s.heap.objs.size f cdv)) → sp vs H Q E →
      ∃ t, PSsT (cxOf CX0 P w K mg base N x (defScope st) f cdv A outer s H E) (defBody st) t ∧ t { nx := fun _ H' => Q .non H', rt := Q } (start N vs) H) : Cal K mg CX0 P w base (k + 1) x [] sp := by
  obtain ⟨f, fd, F, hm, b⟩ := D.ex
  obtain ⟨oc, od, kV, doc, pm, an, cdv, ct, osl, rfl, lk, hcd⟩ := F.ex
  exact ⟨f, _, ps, [], fn_ofT lk hcd S hnc hps len (hbody f cdv), hm, F.kp, b, .nil⟩
def spEq : Sp := fun vs H Q _ => ∃ l : List Bool, vs = [.str (txt l)] ∧ l ≠ [] ∧ l.length ≤ 1000 ∧ ∀ p, H p = none → Q (.ref p) (L2.upd H p (.lst (((grp l).map gtx).map V.str)))
theorem cal_eq (D : Def K mg "equal_signs" s_equal_signs ["row"]) {t1 t2 t3 : Tok} (c_UP : mg "UP" = some (.str "u" t1)) (c_DOWN : mg "DOWN" = some (.str "d" t2)) (c_BLANK : mg "BLANK" = some (.str " " t3)) : Cal K mg CX0 P w base 1 "equal_signs" [] spEq := by
  refine D.calT scEq (by decide +kernel) (by decide) (fun vs H Q E h => ?_) (fun f cdv A outer s H vs Q E hr h => ?_)
  · obtain ⟨l, rfl, _⟩ := h
    rfl
  · obtain ⟨l, rfl, hl, hz, q⟩ := h
    have nd := scEq.nd
    refine ⟨_, psst_cons (pst_set (i := 1) nd rfl (.inl rfl) (pet_replG (pet_replG (CwR.PET.of (pv 0)) (pf_nn (by rfl) c_UP (by rfl) c_DOWN (by decide +kernel) (by decide +kernel) (by decide +kernel)) (pf_fn (pf_nn (by rfl) c_UP (by rfl) c_BLANK (by decide +kernel) (by decide +kernel) (by decide +kernel)) (by rfl) c_DOWN (by decide +kernel) (by decide +kernel) (by decide +kernel)) (by decide +kernel))
        (pf_nn (by rfl) c_DOWN (by rfl) c_UP (by decide +kernel) (by decide +kernel) (by decide +kernel)) (pf_fn (pf_nn (by rfl) c_DOWN (by rfl) c_BLANK (by decide +kernel) (by decide +kernel) (by decide +kernel)) (by rfl) c_UP (by decide +kernel) (by decide +kernel) (by decide +kernel)) (by decide +kernel)))
      (PSsT.of (pss_one (ps_ret (pe_split (pv 1) (pe_glob (v := .str " ") (by rfl) c_BLANK ⟨_, rfl⟩))))), ?_⟩
    have e0 := equal_txt l hl
    have hl1 : (txt l).length ≤ 1000 := by rw [txt_len]; exact hz
    have k3 : (("u" : Str) ++ " " ++ "d").length = 3 := by decide +kernel
    have k4 : (("d" : Str) ++ " " ++ "u").length = 3 := by decide +kernel
    have r1 := TK.replace_len (txt l) ("u" ++ "d") ("u" ++ " " ++ "d")
    rw [k3] at r1
    have r2 := TK.replace_len (Txt.replace (txt l) ("u" ++ "d") ("u" ++ " " ++ "d")) ("d" ++ "u") ("d" ++ " " ++ "u")
    rw [k4] at r2
    refine ⟨_, rfl, txt l, rfl, by rw [k3]; omega, _, rfl, by rw [k4]; omega, ?_⟩
    refine ⟨_, rfl, ⟨_, rfl⟩, _, _, rfl, rfl, by decide +kernel, ?_, ?_⟩
    · have := sz (show (20000 : Nat) ≤ 1000000 by decide)
      omega
    · show rNewStrs _ H Q
      rw [e0]
      exact q
def spRuns (CN : Addr) : Sp := fun vs H Q E => ∃ z : Str, vs = [.str z] ∧ z.length ≤ 1000 ∧ (∀ l, z = txt l → okb none 0 l = true → ∀ H', Same H H' → Q (.str (runsT l)) H') ∧ (hillB none z = false → ∀ H', Same H H' → E (.ref CN) none H')
theorem cal_runs (D : Def K mg "runs" s_runs ["row"]) (C : Cal K mg (L2.CX P w) P w base 4 "check_hill" [.non] (spChHillX CN)) (C2 : Cal K mg CX0 P w base 1 "equal_signs" [] spEq) {t1 : Tok} (c_NO : mg "NO_RUNS" = some (.str "-" t1)) (m_len : mg "len" = none) : Cal K mg (L2.CX P w) P w base 5 "runs" [] (spRuns CN) := by
  refine D.calX scRuns (fun vs H Q E h => ?_) (fun f cdv A outer s H vs Q E hr h => ?_)
  · obtain ⟨z, rfl, _⟩ := h
    rfl
  · obtain ⟨z, rfl, hz, q, qe⟩ := h
    have nd := scRuns.nd
    refine ⟨_, (pss_cons (ps_expr (pe_cX C hr (takes_of rfl rfl rfl rfl) (pa_cons (pv 0) pa_nil)))
    (pss_cons (ps_if (pt_cmpR op_eq (pv 0) pe_str (nomark _)) (pss_one (ps_ret (pe_glob (v := .str "-") (by rfl) c_NO ⟨_, rfl⟩))) pss_nil)
    (pss_one (ps_ret (pe_join pe_str (pe_lc (own := [("part", 1)]) (g := gName 1) (tt := tYes) rfl nd (pi_list (pe_c C2 hr (pa_cons (pv 0) pa_nil))) (blkOk_by (N := ["row", "part"]) (sc := defScope s_runs) (by decide +kernel)) (fun _ _ _ _ _ => (pg_name (i := 1) nd rfl (Or.inl rfl) (Or.inr rfl))) (fun _ _ _ _ _ => pts_nil)
      (fun _ _ _ _ _ => pe_joinT (.cons (pe_fmt (pe_ix ix_str (pv 1) pe_int (fun _ _ => rfl))) (.cons (pe_fmt (pe_callB call_len_str (by rfl) m_len PySem.boot_len (pa_cons (pv 1) pa_nil))) .nil))))))))), ?_⟩
    refine ⟨.str z, rfl, z, none, rfl, hz, fun hh H1 s1 => ?_, fun hh => qe hh⟩
    obtain ⟨h1, h2⟩ := Bool.and_eq_true_iff.mp hh
    obtain ⟨l, rfl⟩ : ∃ l, z = txt l := ⟨signs z, (txt_signs h1).symm⟩
    have q1 := q l rfl (by rw [signs_txt] at h2; exact h2)
    clear q
    have hzl : (txt l).length = l.length := txt_len l
    refine ⟨_, rfl, rfl, _, rfl, ite2 (fun e => ?_) (fun e => ?_)⟩
    · have : l = [] := txt_inj ((V.str.inj (of_decide_eq_true e)).trans enil)
      subst this
      exact q1 H1 s1
    · have hl : l ≠ [] := fun z => e (decide_eq_true (by rw [z]; exact congrArg V.str enil.symm))
      have q2 : ∀ H', Same H H' → Q (.str (Txt.join " " ((grp l).map wordOf))) H' := fun H' s => by
        have := q1 H' s
        rw [show runsT l = Txt.join " " ((grp l).map wordOf) from if_neg hl] at this
        exact this
      clear q1
      rw [hzl] at hz
      have gl := grp_len l
      have s1n : ∀ p, H1 p = none → H p = none := fun p np => s1.free np
      refine ⟨⟨_, rfl⟩, _, rfl, l, rfl, hl, hz, fun p np => ?_⟩
      have n0 := s1n p np
      have s2 := s1.trans (same_upd (o := .lst (((grp l).map gtx).map V.str)) np)
      have ep : (L2.upd H1 p (.lst (((grp l).map gtx).map V.str))) p = some (.lst (((grp l).map gtx).map V.str)) := upd_same
      generalize L2.upd H1 p (.lst (((grp l).map gtx).map V.str)) = H2 at s2 ep ⊢
      have hl0 : (((grp l).map gtx).map V.str).length = (grp l).length := by rw [List.length_map, List.length_map]
      refine ⟨p, rfl, ⟨_, .inl (.inl ep)⟩, fun D nD => ?_⟩
      have pD : p ≠ D := ne_of_none ep nD
      have wl : ∀ (i : Nat) (b : Bool) (n : Nat), (grp l)[i]? = some (b, n) → 1 ≤ n ∧ n ≤ 1000 := fun i b n h => ⟨alt_pos (alt_grp l) h, by
        have := expd_len h
        rw [expd_grp] at this
        exact Nat.le_trans this hz⟩
      refine lc_it (walk_list (K := K) (a := p) (xs := ((grp l).map gtx).map V.str)) (fun i H' => Same H H' ∧ H' p = some (.lst (((grp l).map gtx).map V.str)) ∧ H' D = some (.lst ((((grp l).take i).map wordOf).map V.str))) ?_ ?_ ?_ ?_
      · refine ⟨same_updN s2 (s2.free nD), ?_, upd_same⟩
        rw [upd_ne pD]
        exact ep
      · rintro i H' _ ⟨_, h, _⟩
        exact .inl (.inl h)
      · rintro i x H3 H4 hi ⟨sm, h1, hD⟩ ⟨rfl, ex⟩
        rw [hl0] at hi
        obtain ⟨⟨b, n⟩, hbn⟩ : ∃ q, (grp l)[i]? = some q := ⟨_, List.getElem?_eq_getElem hi⟩
        have ex : x = .str (gtx (b, n)) := by
          rw [List.getElem?_map, List.getElem?_map, hbn] at ex
          exact (Option.some.inj ex).symm
        subst ex
        obtain ⟨n1, n2⟩ := wl i b n hbn
        have gl1 : (gtx (b, n)).length = n := by
          show (txt (List.replicate n b)).length = n
          rw [txt_len, List.length_replicate]
        have g0 : atI (gtx (b, n)).cps.toList 0 = some (code b) := by
          refine atI_nat (j := 0) ?_
          show ((List.replicate n b).map code)[0]? = _
          rw [List.getElem?_map, List.getElem?_replicate, if_pos (by omega)]
          rfl
        have dl := dec_len (n := n) (by omega)
        have eD : (sgn b).length = 1 := rfl
        have e0 : Str.empty ++ sgn b = sgn b := by
          cases b <;> decide +kernel
        refine ⟨rfl, ?_⟩
        unfold tYes
        refine iteT ?_
        refine ⟨_, rfl, gtx (b, n), 0, code b, rfl, rfl, sz (by omega), g0, ?_⟩
        refine .inl ⟨sgn b, rfl, sz (by rw [eD]; decide), sgn b, rfl, sz (by rw [e0, eD]; decide), ?_⟩
        rw [e0]
        refine ⟨_, rfl, gtx (b, n), rfl, sz (by omega), ?_⟩
        rw [gl1]
        refine .inr ⟨(n : Int), rfl, small_log (by omega), dec n, rfl, sz (by rw [PySem.Str.length_append, eD]; omega), ?_⟩
        have hlen : ((((grp l).take i).map wordOf).map V.str).length < sizeLine := szl (by
          rw [List.length_map, List.length_map, List.length_take]
          omega)
        refine ⟨_, hD, hlen, same_updN sm (s2.free nD), ?_, ?_⟩
        · rw [upd_ne pD]
          exact h1
        · rw [upd_same, take_snoc hbn, List.map_append, List.map_append]
          rfl
      · rintro H3 ⟨sm, h1, hD⟩
        rw [hl0, List.take_length] at hD
        refine ⟨" ", D, (grp l).map wordOf, rfl, rfl, .inl (.inl (.inl hD)), ?_, q2 H3 sm⟩
        have hs : (((grp l).map wordOf).map (·.length)).sum ≤ 5 * (grp l).length := by
          have : ∀ g : List (Bool × Nat), (∀ q ∈ g, q.2 ≤ 1000) → ((g.map wordOf).map (·.length)).sum ≤ 5 * g.length := fun g => by
            induction g with
            | nil => intro _; exact Nat.le_refl _
            | cons q g ih =>
              intro h
              have h1 := ih fun z hz => h z (List.mem_cons_of_mem _ hz)
              have h2 := dec_len (n := q.2) (by have := h q (List.mem_cons_self ..); omega)
              have h3 : (wordOf q).length = 1 + (dec q.2).length := PySem.Str.length_append _ _
              simp only [List.map_cons, List.sum_cons, List.length_cons]
              omega
          refine this _ fun q hq => ?_
          obtain ⟨i, hi⟩ := List.mem_iff_getElem?.mp hq
          exact (wl i q.1 q.2 hi).2
        rw [List.length_map, show (" " : Str).length = 1 by decide +kernel]
        omega
end
end Hr
/-! ### lengths and runs of the text -/
namespace Hr
open PySem PySem.Spec PyProof.Rows L2
def mkS (l : List Nat) : Str := ⟨l.toArray⟩
theorem mkS_len (l : List Nat) : (mkS l).length = l.length := List.size_toArray
theorem mkS_tl (l : List Nat) : TL.tl (mkS l) = l := rfl
theorem dec_mk (n : Nat) : dec n = mkS (TL.numL n) := TL.ext_tl (TL.tl_num n)
theorem word_mk (p : Bool × Nat) : wordOf p = mkS (code p.1 :: TL.numL p.2) := by
  refine TL.ext_tl ?_
  show TL.tl (sgn p.1 ++ dec p.2) = _
  rw [TL.tl_append, dec_mk]
  rfl
theorem sgn_mk (b : Bool) : sgn b = mkS [code b] := rfl
theorem cut_first (c : Nat) (r : List Nat) : cutS (mkS (c :: r)) none (some 1) = mkS [c] := by
  refine TL.ext_tl ?_
  show ((mkS (c :: r)).cps.toList.drop _).take _ = [c]
  rw [HT.sIx_none, show (1 : Int) = ((1 : Nat) : Int) from rfl, HT.sIx_nat, mkS_len, List.length_cons, Nat.min_eq_left (by omega)]
  rfl
theorem cut_rest (c : Nat) (r : List Nat) : cutS (mkS (c :: r)) (some 1) none = mkS r := by
  refine TL.ext_tl ?_
  show ((mkS (c :: r)).cps.toList.drop _).take _ = r
  rw [HT.sIx_none, show (1 : Int) = ((1 : Nat) : Int) from rfl, HT.sIx_nat, mkS_len, List.length_cons, Nat.min_eq_left (by omega)]
  show (r.take (r.length + 1 - 1)) = r
  rw [Nat.add_sub_cancel, List.take_length]
theorem dig : ∀ c, c < 58 → 48 ≤ c → Unicode.isDigit c = true := by decide +kernel
theorem digs_ok {l : List Nat} (h : NumText.AllDigits l) (hne : l ≠ []) : (Txt.isascii (mkS l) && Txt.isdigit (mkS l)) = true := by
  have h1 : Txt.isascii (mkS l) = true := by
    show l.toArray.all (fun c => decide (c < 128)) = true
    rw [List.all_toArray, List.all_eq_true]
    intro c hc
    have := h c hc
    exact decide_eq_true (by omega)
  have h2 : Txt.isdigit (mkS l) = true := by
    show (decide ((mkS l).length > 0) && l.toArray.all Unicode.isDigit) = true
    rw [mkS_len, List.all_toArray, decide_eq_true (by
      cases l with
      | nil => exact absurd rfl hne
      | cons c r => simp), Bool.true_and, List.all_eq_true]
    intro c hc
    have := h c hc
    exact dig c (by omega) (by omega)
  rw [h1, h2]
  rfl
theorem num_head : ∀ {n : Nat}, 1 ≤ n → ∃ c r, TL.numL n = c :: r ∧ c ≠ 48 := by
  intro n
  induction n using Nat.strongRecOn with
  | _ n ih =>
    intro h1
    by_cases h : n < 10
    · exact ⟨48 + n, [], TL.numL_lt h, by omega⟩
    · obtain ⟨c, r, e, hc⟩ := ih (n / 10) (by omega) (by omega)
      exact ⟨c, r ++ [48 + n % 10], by rw [TL.numL_step (by omega), e]; rfl, hc⟩
theorem is_0 {c : Nat} (h : c ≠ 48) : decide (V.str ⟨#[c]⟩ = V.str ("0" : Str)) = false := by
  refine decide_eq_false fun e => h ?_
  have e := congrArg (fun z : Str => z.cps.toList) (V.str.inj e)
  have e : [c] = ("0" : Str).cps.toList := e
  rw [show ("0" : Str).cps.toList = [48] by decide +kernel] at e
  exact (List.cons.inj e).1
/-- no length -/
inductive LenBad : List Nat → Prop where
  | none {r : List Nat} (h : (Txt.isascii (mkS r) && Txt.isdigit (mkS r)) = false) : LenBad r
  | zero {r : List Nat} (h : NumText.AllDigits r) : LenBad (48 :: r)
  | big {n : Nat} (h : 400 < n) (h2 : n < 10000) : LenBad (TL.numL n)
/-- what a word of a text is -/
inductive RunD : List Nat → Option (Bool × Nat) → Prop where
  | good {b : Bool} {n : Nat} (h : 1 ≤ n) (h2 : n ≤ 400) : RunD (code b :: TL.numL n) (some (b, n))
  | empty : RunD [] none
  | sign {c : Nat} {r : List Nat} (h : c ≠ 117) (h2 : c ≠ 100) : RunD (c :: r) none
  | len {b : Bool} {r : List Nat} (h : LenBad r) : RunD (code b :: r) none
theorem scLen : FnScope ["text"] ["text"] (defScope s_is_length) := ⟨rfl, rfl, rfl, by decide +kernel, rfl, by decide +kernel, by decide +kernel⟩
theorem scIsRun : FnScope ["word"] ["word"] (defScope s_is_run) := ⟨rfl, rfl, rfl, by decide +kernel, rfl, by decide +kernel, by decide +kernel⟩
theorem scRise : FnScope ["run", "many"] ["run"] (defScope s_rise) := ⟨rfl, rfl, rfl, by decide +kernel, rfl, by decide +kernel, by decide +kernel⟩
theorem int_of_num {n : Nat} (h : n < 10000) : intText? (mkS (TL.numL n)) = some (n : Int) := by
  have e := TL.int_num (n := n) (Nat.le_trans (TL.numL_len (k := 4) (by decide) (by omega)) (by decide))
  rw [← dec_mk]
  exact e
section
variable {P : Program} {w : World} {K : PySem.W.Frag} {mg : Str → Option Value} {base : Heap} {CN : Addr}
def spLen : Sp := fun vs H Q _ => ∃ t : List Nat, vs = [.str (mkS t)] ∧ t.length ≤ 1000 ∧ ((∃ n, t = TL.numL n ∧ 1 ≤ n ∧ n ≤ 400 ∧ Q (.bl true) H) ∨ (LenBad t ∧ Q (.bl false) H))
theorem cal_len (D : Def K mg "is_length" s_is_length ["text"]) {t1 : Tok} (c_MOST : mg "MOST_SIGNS" = some (.int 400 t1)) (m_len : mg "len" = none) (m_str : mg "str" = none) (m_int : mg "int" = none) : Cal K mg CX0 P w base 1 "is_length" [] spLen := by
  refine D.cal scLen (fun vs H Q E h => ?_) (fun f cdv A outer s H vs Q E hr h => ?_)
  · obtain ⟨z, rfl, _⟩ := h
    rfl
  · obtain ⟨t, rfl, hz, h⟩ := h
    have nd := scLen.nd
    refine ⟨_, (pss_cons (ps_if (PW.pt (pw_or (pt_not (PW.pt (pw_and (pt_val (pe_m0 PySem.F.slot_str_isascii PySem.F.type_str_isascii mt_isascii (pv 0))) (pw_and1 (pt_val (pe_m0 PySem.F.slot_str_isdigit PySem.F.type_str_isdigit mt_isdigit (pv 0))))))) (pw_or1 (pt_cmpR op_eq (pe_ix ix_str (pv 0) pe_int (fun _ _ => rfl)) pe_str (nomark _))))) (pss_one (ps_ret pe_bl)) pss_nil)
    (pss_one (ps_ret (pe_and (pe_cmpR op_le (pe_callB call_len_str (by rfl) m_len PySem.boot_len (pa_cons (pv 0) pa_nil)) (pe_callB call_len_str (by rfl) m_len PySem.boot_len (pa_cons (pe_callTy call_str_int (by rfl) m_str (by decide +kernel) (pa_cons (pe_glob (v := .int 400) (by rfl) c_MOST ⟨_, rfl⟩) pa_nil)) pa_nil)) (nomark _)) (pe_one (pe_cmpR op_le (pe_callTy call_int_str (by rfl) m_int (by decide +kernel) (pa_cons (pv 0) pa_nil)) (pe_glob (v := .int 400) (by rfl) c_MOST ⟨_, rfl⟩) (nomark _))))))), ?_⟩
    have l3 : (Str.ofString (toString (400 : Int))).length = 3 := by decide +kernel
    have g400 : (400 : Int).natAbs.log2 < 1920 := by decide
    rcases h with ⟨n, rfl, n1, n2, q⟩ | ⟨hb, q⟩
    · have hd := digs_ok (TL.numL_digits n) (TL.numL_ne n)
      obtain ⟨h1, h2⟩ := Bool.and_eq_true_iff.mp hd
      obtain ⟨c, r, e, hc⟩ := num_head n1
      have e0 : atI (mkS (TL.numL n)).cps.toList 0 = some c := by
        refine atI_nat (j := 0) ?_
        show (TL.numL n)[0]? = some c
        rw [e]
        rfl
      refine ⟨_, rfl, ⟨_, rfl⟩, _, rfl, rfl, trivial, _, rfl, ?_⟩
      rw [h1]
      refine iteT ?_
      refine ⟨_, rfl, ⟨_, rfl⟩, _, rfl, rfl, trivial, _, rfl, ?_⟩
      rw [h2]
      refine iteF ?_
      refine ⟨_, rfl, _, 0, c, rfl, rfl, sz (by rw [mkS_len]; omega), e0, rfl, false, congrArg V.bl (is_0 hc), iteF ?_⟩
      refine ⟨_, rfl, _, rfl, sz (by rw [mkS_len]; omega), 400, rfl, g400, _, rfl, sz (by rw [l3]; decide), _, _, rfl, rfl, ?_⟩
      have ll := TL.numL_len (n := n) (k := 3) (by decide) (by omega)
      refine ⟨true, congrArg V.bl (decide_eq_true (by rw [l3, mkS_len]; omega)), iteT ?_⟩
      refine ⟨_, rfl, _, (n : Int), rfl, int_of_num (by omega), by rw [mkS_len]; omega, _, _, rfl, rfl, ?_⟩
      show Q (V.bl (decide ((n : Int) ≤ 400))) H
      rw [decide_eq_true (show (n : Int) ≤ 400 by omega)]
      exact q
    · cases hb with
      | none hb =>
        refine ⟨_, rfl, ⟨_, rfl⟩, _, rfl, rfl, trivial, Txt.isascii (mkS t), rfl, ?_⟩
        cases h1 : Txt.isascii (mkS t) with
        | false =>
          refine iteF (iteT (iteT ?_))
          exact q
        | true =>
          rw [h1] at hb
          have h2 : Txt.isdigit (mkS t) = false := hb
          refine iteT ?_
          refine ⟨_, rfl, ⟨_, rfl⟩, _, rfl, rfl, trivial, _, rfl, ?_⟩
          rw [h2]
          exact iteT (iteT q)
      | @zero r hb =>
        have hd : (Txt.isascii (mkS (48 :: r)) && Txt.isdigit (mkS (48 :: r))) = true := digs_ok (fun c hc => by
          rcases List.mem_cons.mp hc with rfl | hc
          · omega
          · exact hb c hc) (by simp)
        obtain ⟨h1, h2⟩ := Bool.and_eq_true_iff.mp hd
        refine ⟨_, rfl, ⟨_, rfl⟩, _, rfl, rfl, trivial, _, rfl, ?_⟩
        rw [h1]
        refine iteT ?_
        refine ⟨_, rfl, ⟨_, rfl⟩, _, rfl, rfl, trivial, _, rfl, ?_⟩
        rw [h2]
        refine iteF ?_
        refine ⟨_, rfl, _, 0, 48, rfl, rfl, sz (by rw [mkS_len]; omega), atI_nat (j := 0) rfl, rfl, true, congrArg V.bl (decide_eq_true (by decide +kernel)), iteT ?_⟩
        exact q
      | @big n n1 n2 =>
        have hd := digs_ok (TL.numL_digits n) (TL.numL_ne n)
        obtain ⟨h1, h2⟩ := Bool.and_eq_true_iff.mp hd
        obtain ⟨c, r, e, hc⟩ := num_head (n := n) (by omega)
        have e0 : atI (mkS (TL.numL n)).cps.toList 0 = some c := by
          refine atI_nat (j := 0) ?_
          show (TL.numL n)[0]? = some c
          rw [e]
          rfl
        refine ⟨_, rfl, ⟨_, rfl⟩, _, rfl, rfl, trivial, _, rfl, ?_⟩
        rw [h1]
        refine iteT ?_
        refine ⟨_, rfl, ⟨_, rfl⟩, _, rfl, rfl, trivial, _, rfl, ?_⟩
        rw [h2]
        refine iteF ?_
        refine ⟨_, rfl, _, 0, c, rfl, rfl, sz (by rw [mkS_len]; omega), e0, rfl, false, congrArg V.bl (is_0 hc), iteF ?_⟩
        refine ⟨_, rfl, _, rfl, sz (by rw [mkS_len]; omega), 400, rfl, g400, _, rfl, sz (by rw [l3]; decide), _, _, rfl, rfl, ?_⟩
        refine ⟨_, rfl, ite2 (fun e => ?_) (fun e => ?_)⟩
        · refine ⟨_, rfl, _, (n : Int), rfl, int_of_num n2, by rw [mkS_len]; have := TL.numL_len (n := n) (k := 4) (by decide) (by omega); omega, _, _, rfl, rfl, ?_⟩
          show Q (V.bl (decide ((n : Int) ≤ 400))) H
          rw [decide_eq_false (show ¬ (n : Int) ≤ 400 by omega)]
          exact q
        · exact q
def spIsRun : Sp := fun vs H Q _ => ∃ (t : List Nat) (d : Option (Bool × Nat)), vs = [.str (mkS t)] ∧ t.length ≤ 1000 ∧ RunD t d ∧ ∀ H', Same H H' → Q (.bl d.isSome) H'
theorem cal_run (D : Def K mg "is_run" s_is_run ["word"]) (C : Cal K mg CX0 P w base 1 "is_length" [] spLen) {t1 t2 : Tok} (c_UP : mg "UP" = some (.str "u" t1)) (c_DOWN : mg "DOWN" = some (.str "d" t2)) : Cal K mg CX0 P w base 2 "is_run" [] spIsRun := by
  refine D.cal scIsRun (fun vs H Q E h => ?_) (fun f cdv A outer s H vs Q E hr h => ?_)
  · obtain ⟨z, d, rfl, _⟩ := h
    rfl
  · obtain ⟨t, d, rfl, hz, hd, q⟩ := h
    have nd := scIsRun.nd
    refine ⟨_, (pss_one (ps_ret (pe_and (pe_cmpR (r := rIn K false) op_in_seq (pe_slice sl_str (pv 0) po_none (po_some pe_int)) (pe_tup (pa_cons (pe_glob (v := .str "u") (by rfl) c_UP ⟨_, rfl⟩) (pa_cons (pe_glob (v := .str "d") (by rfl) c_DOWN ⟨_, rfl⟩) pa_nil))) (by rfl)) (pe_one (pe_c C hr (pa_cons (pe_slice sl_str (pv 0) (po_some pe_int) po_none) pa_nil)))))), ?_⟩
    refine ⟨_, rfl, 1, rfl, mkS t, rfl, sz (by rw [mkS_len]; omega), ?_⟩
    refine ⟨sz (show 2 ≤ 1000000 by decide), fun p np => ?_⟩
    have s1 := same_upd (o := .tup [.str "u", .str "d"]) np
    refine ⟨p, _, rfl, .inr (.inl (.inl upd_same)), rfl, rfl, ?_⟩
    cases hd with
    | empty =>
      refine ⟨false, congrArg V.bl (by decide +kernel), iteF ?_⟩
      exact q _ s1
    | @sign c r h1 h2 =>
      rw [cut_first]
      refine ⟨false, congrArg V.bl ?_, iteF (q _ s1)⟩
      show inV (.str ⟨#[c]⟩) [.str "u", .str "d"] = false
      rw [in_signs]
      show (decide (c = 117) || decide (c = 100)) = false
      rw [decide_eq_false h1, decide_eq_false h2]
      rfl
    | @good b n h1 h2 =>
      rw [cut_first]
      refine ⟨true, congrArg V.bl ?_, iteT ?_⟩
      · show inV (.str ⟨#[code b]⟩) [.str "u", .str "d"] = true
        rw [in_signs]
        cases b <;> rfl
      · refine ⟨_, rfl, 1, rfl, _, rfl, sz (by rw [mkS_len]; omega), ?_⟩
        rw [cut_rest]
        exact ⟨TL.numL n, rfl, by simp only [List.length_cons] at hz; omega, .inl ⟨n, rfl, h1, h2, q _ s1⟩⟩
    | @len b r hb =>
      rw [cut_first]
      refine ⟨true, congrArg V.bl ?_, iteT ?_⟩
      · show inV (.str ⟨#[code b]⟩) [.str "u", .str "d"] = true
        rw [in_signs]
        cases b <;> rfl
      · refine ⟨_, rfl, 1, rfl, _, rfl, sz (by rw [mkS_len]; omega), ?_⟩
        rw [cut_rest]
        exact ⟨r, rfl, by simp only [List.length_cons] at hz; omega, .inr ⟨hb, q _ s1⟩⟩
/-- by how much a run rises -/
def up (p : Bool × Nat) : Int := if p.1 = true then (p.2 : Int) else -(p.2 : Int)
def spRise : Sp := fun vs H Q _ => ∃ p : Bool × Nat, vs = [.str (mkS (code p.1 :: TL.numL p.2))] ∧ p.2 ≤ 400 ∧ Q (.int (up p)) H
theorem cal_rise (D : Def K mg "rise" s_rise ["run"]) {t1 : Tok} (c_UP : mg "UP" = some (.str "u" t1)) (m_int : mg "int" = none) : Cal K mg CX0 P w base 1 "rise" [] spRise := by
  refine D.cal scRise (fun vs H Q E h => ?_) (fun f cdv A outer s H vs Q E hr h => ?_)
  · obtain ⟨z, rfl, _⟩ := h
    rfl
  · obtain ⟨⟨b, n⟩, rfl, hn, q⟩ := h
    have nd := scRise.nd
    refine ⟨_, (pss_cons (ps_set (i := 1) nd rfl (.inl rfl) (pe_callTy call_int_str (by rfl) m_int (by decide +kernel) (pa_cons (pe_slice sl_str (pv 0) (po_some pe_int) po_none) pa_nil)))
    (pss_one (ps_ret (pe_ifExp (pt_cmpR op_eq (pe_ix ix_str (pv 0) pe_int (fun _ _ => rfl)) (pe_glob (v := .str "u") (by rfl) c_UP ⟨_, rfl⟩) (nomark _)) (pv 1) (pe_un un_neg (pv 1)))))), ?_⟩
    have hn : n ≤ 400 := hn
    have ll := TL.numL_len (n := n) (k := 3) (by decide) (by omega)
    have lw : (mkS (code b :: TL.numL n)).length ≤ 4 := by rw [mkS_len, List.length_cons]; omega
    refine ⟨_, rfl, 1, rfl, mkS (code b :: TL.numL n), rfl, sz (by omega), ?_⟩
    rw [cut_rest]
    refine ⟨_, n, rfl, int_of_num (by omega), by rw [mkS_len]; omega, ?_⟩
    refine ⟨_, rfl, mkS (code b :: TL.numL n), 0, code b, rfl, rfl, sz (by omega), atI_nat (j := 0) rfl, rfl, b, congrArg V.bl ((is_u _).trans (code_u b)), ?_⟩
    cases b with
    | true => exact iteT ⟨_, rfl, q⟩
    | false => exact iteF ⟨_, rfl, _, rfl, q⟩
end
end Hr
/-! ### a kept error with a dict of its own -/
namespace Hr
open PySem PySem.Spec PyProof.Rows L2
theorem isSomeC {K : PySem.W.Frag} {D : Addr} (h : PySem.W.hasDictIn K D = true) : (PySem.W.clsIn K D).isSome = true := by
  obtain ⟨cd, hc, _⟩ := PySem.W.any_some h
  rw [hc]
  rfl
section
variable {X : Cx}
theorem kept_at {pins : List (Addr × Obj)} {σ : L2.St} {H : Hp} {s : Shared} {a C dd : Addr} {fs : List (Str × V)} (I : Inv X pins σ H s) (ea : H a = some (ExT (.ref C) (some dd) a)) (ed : H dd = some (.xd fs)) :
    ∃ (oe od : Obj) (mA : Str → Option Value), PySem.W.InstAt s.heap a oe C (some od) ∧ (∀ f, RelO (fs.lookup f) (mA f)) ∧ s.heap.Ns1 dd mA ∧ s.heap.get? dd = some od := by
  obtain ⟨⟨oe, vs, hget, hz, hv⟩, _⟩ := I.hok a _ ea
  have hx : ObjOk X.prog X.w H s.heap dd (.xd fs) := I.hok dd _ ed
  obtain ⟨mA, hns, hr⟩ := hx
  obtain ⟨od, ho, hl⟩ := lookIn_ns hns
  exact ⟨oe, od, mA, ⟨hget, hz.1, by unfold PySem.W.notCls; rw [hv] <;> rfl, by rw [hz.2]; exact ho⟩, hr, hns, ho⟩
/-- isinstance(e, c), e a kept error with a dict -/
def rIsTd (K : PySem.W.Frag) : List V → Hp → VK → Prop := fun xs H Q => ∃ (a D dd : Addr) (fs : List (Str × V)) (cc : V) (cv : Value) (b : Bool), xs = [.ref a, cc] ∧ H a = some (ExT (.ref D) (some dd) a) ∧ H dd = some (.xd fs) ∧ ExcC K D ∧ (∀ u, RelV cc u → u = cv) ∧ PySem.W.kitOne K (.ref D) cv = some b ∧ Q (.bl b) H
theorem call_isTd : CallR X (.builtin "isinstance") (rIsTd X.K) := by
  intro pins s σ H xs us Q I r h
  obtain ⟨a, D, dd, fs, cc, cv, b, rfl, ea, ed, C, hcv, e, q⟩ := h
  cases r with
  | cons rx rr =>
    cases rr with
    | cons rt rr =>
      cases rr
      cases rx
      have ec := hcv _ rt
      subst ec
      obtain ⟨oe, od, mA, J, hr, hns, ho⟩ := kept_at I ea ed
      exact PySem.W.kia_one (PySem.W.kitx_exc (isSomeC C.hd) C.hg C.hk C.hs C.ha C.hn C.ht C.hm) I.kIn J e (fun z => nomatch z) fun tk => ⟨.bl b, H, I.kept (t' := tk) fun _ _ z => z, rfl, q⟩
/-- e.f, e a kept error -/
def tXtf (K : PySem.W.Frag) (f : Str) (te : TE) : TE := fun σ H Q => te σ H fun x H1 => ∃ (a C dd : Addr) (fs : List (Str × V)) (v : V), x = .ref a ∧ H1 a = some (ExT (.ref C) (some dd) a) ∧ XfC K C ∧ PySem.W.findIn K (.ref C) f = some none ∧ H1 dd = some (.xd fs) ∧ fs.lookup f = some v ∧ Q v H1
theorem pe_xtf {e : Expr} {te : TE} {pos : Pos} {n : Str} (he : PE X e te) (hb : attributeBase e n X.env (eval e X.env) = eval e X.env := by rfl) : PE X (.Attribute e n pos) (tXtf X.K n te) := by
  refine ⟨fun pins s σ H Q I h => ?_⟩
  refine attr_of hb (thn (he.run pins s σ H _ I h) fun u s1 hh => ?_)
  obtain ⟨x, H1, I1, rx, a, C, dd, fs, v, ex, ea, T, hno, ed, l, q⟩ := hh
  subst ex
  obtain rfl : u = Value.ref a := rx
  obtain ⟨⟨oe, vs, hget, hz, hv⟩, _⟩ := I1.hok a _ ea
  have hx : ObjOk X.prog X.w H1 s1.heap dd (.xd fs) := I1.hok dd _ ed
  obtain ⟨mA, hns, hr⟩ := hx
  obtain ⟨od, ho, hl⟩ := lookIn_ns hns
  obtain ⟨u, hu, ru⟩ := RelO.some_of (v := v) (o := mA n) (by rw [← l]; exact hr n)
  have J : PySem.W.InstAt s1.heap a oe C (some od) := ⟨hget, hz.1, by unfold PySem.W.notCls; rw [hv] <;> rfl, by rw [hz.2]; exact ho⟩
  exact HandSPX.exc_get I1.kIn J T.ga T.gg T.exC (PySem.W.findObj_own T.hdC hno rfl (by rw [hl, hu])) (handed_of ru) ⟨v, H1, I1.tok _, ru, q⟩
end
end Hr
/-! ### check_words, row_of -/
namespace Hr
open PySem PySem.Spec PyProof.Rows L2
/-- the place of the first word that is none -/
def fb (h : Int) (a : Option Bool) (k : Nat) : List (Option (Bool × Nat)) → Option Nat
  | [] => if h = 0 then none else some k
  | none :: _ => some k
  | some p :: r => if a = some p.1 then some k else if h + up p < 0 then some k else fb (h + up p) (some p.1) (k + 1) r
def aheadT : Option Bool → Str
  | none => ""
  | some b => sgn b
/-- words and what they are -/
def Desc : List (List Nat) → List (Option (Bool × Nat)) → Prop
  | [], [] => True
  | t :: ts, d :: ds => t.length ≤ 1000 ∧ RunD t d ∧ Desc ts ds
  | _, _ => False
theorem Desc.len : ∀ {ts : List (List Nat)} {ds : List (Option (Bool × Nat))}, Desc ts ds → ts.length = ds.length
  | [], [], _ => rfl
  | t :: ts, d :: ds, h => by
    have := Desc.len h.2.2
    rw [List.length_cons, List.length_cons, this]
theorem Desc.at : ∀ {ts : List (List Nat)} {ds : List (Option (Bool × Nat))} {i : Nat} {t : List Nat}, Desc ts ds → ts[i]? = some t → ∃ d, ds[i]? = some d ∧ t.length ≤ 1000 ∧ RunD t d
  | [], [], i, t, _, h => by cases h
  | u :: ts, d :: ds, 0, t, D, h => by
    have : u = t := Option.some.inj h
    subst this
    exact ⟨d, rfl, D.1, D.2.1⟩
  | u :: ts, d :: ds, i + 1, t, D, h => Desc.at (ts := ts) (ds := ds) (i := i) D.2.2 h
theorem scCheck : FnScope ["words", "height", "ahead", "number", "word"] ["words"] (defScope s_check_words) := ⟨rfl, rfl, rfl, by decide +kernel, rfl, by decide +kernel, by decide +kernel⟩
theorem sgn_is (b c : Bool) : decide (V.str ⟨#[code b]⟩ = V.str (sgn c)) = decide (b = c) := by
  cases b <;> cases c <;> decide
theorem ahead_is (b : Bool) (a : Option Bool) : decide (V.str ⟨#[code b]⟩ = V.str (aheadT a)) = decide (a = some b) := by
  cases a with
  | none => cases b <;> decide +kernel
  | some c => cases b <;> cases c <;> decide
section
variable {P : Program} {w : World} {K : PySem.W.Frag} {mg : Str → Option Value} {base : Heap} {CT : Addr}
/-- NoText(n) -/
def tMkText (C : Addr) (ta : TA) : L2.St → Hp → XK → Prop := fun σ H Q => ta σ H fun vs H1 => ∃ n : Nat, vs = [.int (n : Int)] ∧ n ≤ 10000 ∧ ∀ d, H1 d = none → Q (.ref C) (some d) (L2.upd H1 d (.xd [(("word" : Str), .int (n : Int))]))
def TextMk (P : Program) (K : PySem.W.Frag) (mg : Str → Option Value) (CT : Addr) : Prop := ∀ (X : Cx) (a : Expr) (ta : TA) (p pos : Pos), X.prog = P → X.K = K → X.mg = mg → Room 1 X.A → PA X [a] ta → Gl X "NoText" → starEach [a] X.env = (false, eval a X.env) :: starEach [] X.env →
  (backTo pos (starEach [] X.env)).any (·.1) = false → PMk X (.Call (.Name "NoText" p) [a] [] pos) (tMkText CT ta)
def spCheck (K : PySem.W.Frag) (CT : Addr) : Sp := fun vs H Q E => ∃ (p : Addr) (ts : List (List Nat)) (ds : List (Option (Bool × Nat))), vs = [.ref p] ∧ SqL K H p ((ts.map mkS).map V.str) ∧ Desc ts ds ∧ ts.length ≤ 1000 ∧
  (fb 0 none 0 ds = none → ∀ H', Same H H' → Q .non H') ∧ ∀ k, fb 0 none 0 ds = some k → ∀ H' d, Same H H' → H' d = none → E (.ref CT) (some d) (L2.upd H' d (.xd [(("word" : Str), .int (k : Int))]))
theorem fb_le : ∀ {ds : List (Option (Bool × Nat))} {h : Int} {a : Option Bool} {k j : Nat}, fb h a k ds = some j → j ≤ k + ds.length
  | [], h, a, k, j, e => by
    unfold fb at e
    by_cases c : h = 0
    · rw [if_pos c] at e
      cases e
    · rw [if_neg c] at e
      have := Option.some.inj e
      simp only [List.length_nil]
      omega
  | none :: r, h, a, k, j, e => by
    have : k = j := Option.some.inj e
    omega
  | some p :: r, h, a, k, j, e => by
    unfold fb at e
    simp only [List.length_cons]
    by_cases c1 : a = some p.1
    · rw [if_pos c1] at e
      have := Option.some.inj e
      omega
    · rw [if_neg c1] at e
      by_cases c2 : h + up p < 0
      · rw [if_pos c2] at e
        have := Option.some.inj e
        omega
      · rw [if_neg c2] at e
        have := fb_le e
        omega
set_option maxHeartbeats 1000000 in
theorem cal_check (mk : TextMk P K mg CT) (D : Def K mg "check_words" s_check_words ["words"]) (C : Cal K mg CX0 P w base 2 "is_run" [] spIsRun) (C2 : Cal K mg CX0 P w base 1 "rise" [] spRise) (m_enumerate : mg "enumerate" = none) (m_len : mg "len" = none) : Cal K mg (L2.CX P w) P w base 3 "check_words" [] (spCheck K CT) := by
  refine D.calX scCheck (fun vs H Q E h => ?_) (fun f cdv A outer s H vs Q E hr h => ?_)
  · obtain ⟨p, ts, ds, rfl, _⟩ := h
    rfl
  · obtain ⟨p, ts, ds, rfl, hS, hD, hz, q, qe⟩ := h
    have nd := scCheck.nd
    have hr1 : Room 1 _ := hr.mono (by decide)
    refine ⟨_, (pss_cons (ps_set (i := 1) nd rfl (.inl rfl) pe_int)
    (pss_cons (ps_set (i := 2) nd rfl (.inl rfl) pe_str)
    (pss_cons (ps_for PassesOwn.leaving rfl (pi_enum (by rfl) m_enumerate (pa_cons (pv 0) pa_nil)) (pg_tup rfl (pgs_cons (pg_name (i := 3) nd rfl (.inl rfl)) (pgs_cons (pg_name (i := 4) nd rfl (.inl rfl)) pgs_nil)))
      (pss_cons (ps_if (PW.pt (pw_or (pt_not (pt_val (pe_c C hr (pa_cons (pv 4) pa_nil)))) (pw_or1 (pt_cmpR op_eq (pe_ix ix_str (pv 4) pe_int (fun _ _ => rfl)) (pv 2) (nomark _))))) (pss_one (ps_raise rfl (takes_of rfl rfl rfl rfl) (mk _ _ _ _ _ rfl rfl rfl hr1 (pa_cons (pv 3) pa_nil) (by rfl) (by rfl) (by rfl)))) pss_nil)
      (pss_cons (ps_set (i := 2) nd rfl (.inl rfl) (pe_ix ix_str (pv 4) pe_int (fun _ _ => rfl)))
      (pss_cons (ps_aug (i := 1) nd rfl (.inl rfl) (pe_c C2 hr (pa_cons (pv 4) pa_nil)) ip_add)
      (pss_one (ps_if (pt_cmpR op_lt (pv 1) pe_int (nomark _)) (pss_one (ps_raise rfl (takes_of rfl rfl rfl rfl) (mk _ _ _ _ _ rfl rfl rfl hr1 (pa_cons (pv 3) pa_nil) (by rfl) (by rfl) (by rfl)))) pss_nil))))))
    (pss_one (ps_if (pt_cmpR op_ne (pv 1) pe_int (nomark _)) (pss_one (ps_raise rfl (takes_of rfl rfl rfl rfl) (mk _ _ _ _ _ rfl rfl rfl hr1 (pa_cons (pe_callB call_len_seq (by rfl) m_len PySem.boot_len (pa_cons (pv 0) pa_nil)) pa_nil) (by rfl) (by rfl) (by rfl)))) pss_nil))))), ?_⟩
    have pl : ((ts.map mkS).map V.str).length = ts.length := by rw [List.length_map, List.length_map]
    have dl := hD.len
    have szw : ∀ {n : Nat}, n ≤ 1001 → n ≤ sizeLine := fun h => sz (by omega)
    refine ⟨_, rfl, p, _, rfl, hS, ?_⟩
    refine for_it (walk_enum (K := K) (a := p) (xs := (ts.map mkS).map V.str)) (fun i σ H' => ∃ (h : Int) (a : Option Bool) (y3 y4 : Option V), σ = [some (.ref p), some (.int h), some (.str (aheadT a)), y3, y4] ∧ Same H H' ∧ fb 0 none 0 ds = fb h a i (ds.drop i)) ?_ ?_ ?_ ?_
    · exact ⟨0, none, none, none, rfl, Same.refl _, by rw [List.drop_zero]⟩
    · rintro i σ H' _ ⟨_, _, _, _, rfl, sm, _⟩
      exact sm.seq hS
    · rintro i x σ H1 H2 hi ⟨h, a, y3, y4, rfl, sm, ef⟩ ⟨T, k0, v, rfl, nT, rfl, ek, ev⟩
      have ek : k0 = .int (i : Int) := (Option.some.inj ek).symm
      subst ek
      rw [pl] at hi
      have hti : ts[i]? = some ts[i] := List.getElem?_eq_getElem hi
      generalize ts[i] = t at hti
      have ev : v = .str (mkS t) := by
        have ev : ((ts.map mkS).map V.str)[i]? = some v := ev
        rw [List.getElem?_map, List.getElem?_map, hti] at ev
        exact (Option.some.inj ev).symm
      subst ev
      obtain ⟨d, hd, tl, rd⟩ := hD.at hti
      have ed : ds.drop i = d :: ds.drop (i + 1) := by
        have hl : i < ds.length := (List.getElem?_eq_some_iff.mp hd).1
        rw [List.drop_eq_getElem_cons hl]
        congr 1
        exact (List.getElem?_eq_some_iff.mp hd).2
      rw [ed] at ef
      have sT := sm.trans (same_upd (o := .tup [.int (i : Int), .str (mkS t)]) nT)
      refine ⟨T, _, rfl, .inl (.inl upd_same), rfl, _, _, rfl, _, _, rfl, rfl, ?_⟩
      generalize L2.upd H1 T (.tup [.int (i : Int), .str (mkS t)]) = H3 at sT ⊢
      refine ⟨_, rfl, t, d, rfl, tl, rd, fun H4 s4 => ?_⟩
      have s5 := sT.trans s4
      refine ⟨_, rfl, ?_⟩
      cases rd with
      | empty =>
        refine iteT (iteT ?_)
        exact ⟨_, rfl, i, rfl, by omega, fun d nd' => qe i ef H4 d s5 nd'⟩
      | sign h1 h2 =>
        refine iteT (iteT ?_)
        exact ⟨_, rfl, i, rfl, by omega, fun d nd' => qe i ef H4 d s5 nd'⟩
      | len hb =>
        refine iteT (iteT ?_)
        exact ⟨_, rfl, i, rfl, by omega, fun d nd' => qe i ef H4 d s5 nd'⟩
      | @good b n n1 n2 =>
        refine iteF ?_
        have e0 : atI (mkS (code b :: TL.numL n)).cps.toList 0 = some (code b) := atI_nat (j := 0) rfl
        have mz : (mkS (code b :: TL.numL n)).length ≤ 1001 := by rw [mkS_len]; omega
        refine ⟨_, rfl, mkS (code b :: TL.numL n), 0, code b, rfl, rfl, szw mz, e0, _, rfl, rfl, decide (a = some b), congrArg V.bl (ahead_is b a), ?_⟩
        have ef : fb 0 none 0 ds = (if a = some b then some i else if h + up (b, n) < 0 then some i else fb (h + up (b, n)) (some b) (i + 1) (ds.drop (i + 1))) := ef
        by_cases c1 : a = some b
        · rw [if_pos c1] at ef
          rw [decide_eq_true c1]
          refine iteT ?_
          exact ⟨_, rfl, i, rfl, by omega, fun d nd' => qe i ef H4 d s5 nd'⟩
        · rw [if_neg c1] at ef
          rw [decide_eq_false c1]
          refine iteF ?_
          refine ⟨_, rfl, mkS (code b :: TL.numL n), 0, code b, rfl, rfl, szw mz, e0, ?_⟩
          refine ⟨_, rfl, _, rfl, (b, n), rfl, n2, h, up (b, n), rfl, rfl, ?_⟩
          refine ⟨_, rfl, h + up (b, n), 0, rfl, rfl, decide (h + up (b, n) < 0), rfl, ?_⟩
          by_cases c2 : h + up (b, n) < 0
          · rw [if_pos c2] at ef
            rw [decide_eq_true c2]
            refine iteT ?_
            exact ⟨_, rfl, i, rfl, by omega, fun d nd' => qe i ef H4 d s5 nd'⟩
          · rw [if_neg c2] at ef
            rw [decide_eq_false c2]
            refine iteF ?_
            exact ⟨h + up (b, n), some b, _, _, rfl, s5, ef⟩
    · rintro σ H1 ⟨h, a, y3, y4, rfl, sm, ef⟩
      rw [pl, dl, List.drop_length] at ef
      have ef : fb 0 none 0 ds = if h = 0 then none else some ds.length := ef
      refine ⟨_, rfl, rfl, !decide (V.int h = V.int 0), rfl, ?_⟩
      by_cases c : h = 0
      · rw [if_pos c] at ef
        rw [show (!decide (V.int h = V.int 0)) = false by rw [c, decide_eq_true rfl]; rfl]
        refine iteF ?_
        exact q ef H1 sm
      · rw [if_neg c] at ef
        rw [show (!decide (V.int h = V.int 0)) = true by rw [decide_eq_false (fun z => c (V.int.inj z))]; rfl]
        refine iteT ?_
        refine ⟨_, rfl, p, _, rfl, sm.seq hS |> .inl, ts.length, by rw [pl], by omega, fun d nd' => ?_⟩
        rw [dl]
        exact qe ds.length ef H1 d sm nd'
end
end Hr
/-! ### row_of -/
namespace Hr
open PySem PySem.Spec PyProof.Rows L2
theorem fb_none : ∀ {ds : List (Option (Bool × Nat))} {h : Int} {a : Option Bool} {k : Nat}, fb h a k ds = none → ∃ g : List (Bool × Nat), ds = g.map some
  | [], _, _, _, _ => ⟨[], rfl⟩
  | none :: r, h, a, k, e => by cases e
  | some p :: r, h, a, k, e => by
    unfold fb at e
    by_cases c1 : a = some p.1
    · rw [if_pos c1] at e
      cases e
    · rw [if_neg c1] at e
      by_cases c2 : h + up p < 0
      · rw [if_pos c2] at e
        cases e
      · rw [if_neg c2] at e
        obtain ⟨g, rfl⟩ := fb_none e
        exact ⟨p :: g, rfl⟩
theorem Desc.good {ts : List (List Nat)} {g : List (Bool × Nat)} {i : Nat} {t : List Nat} (D : Desc ts (g.map some)) (h : ts[i]? = some t) : ∃ b n, g[i]? = some (b, n) ∧ t = code b :: TL.numL n ∧ n ≤ 400 := by
  obtain ⟨d, hd, _, rd⟩ := D.at h
  rw [List.getElem?_map] at hd
  obtain ⟨⟨b, n⟩, hb, rfl⟩ := Option.map_eq_some_iff.mp hd
  generalize e : some (b, n) = d at rd
  cases rd with
  | good n1 n2 =>
    cases e
    exact ⟨_, _, hb, rfl, n2⟩
  | empty => cases e
  | sign _ _ => cases e
  | len _ => cases e
theorem scRowOf : FnScope ["text", "words", "word"] ["text"] (defScope s_row_of) := ⟨rfl, rfl, rfl, by decide +kernel, rfl, by decide +kernel, by decide +kernel⟩
theorem expd_flat (g : List (Bool × Nat)) : expd g = (g.map fun p => List.replicate p.2 p.1).flatten := by
  unfold expd
  rw [List.flatMap_def]
section
variable {P : Program} {w : World} {K : PySem.W.Frag} {mg : Str → Option Value} {base : Heap} {CT : Addr}
def spRowOf (CT : Addr) : Sp := fun vs H Q E => ∃ z : Str, vs = [.str z] ∧ ((z = "-" ∧ ∀ H', Same H H' → Q (.str "") H') ∨ ∃ (ts : List (List Nat)) (ds : List (Option (Bool × Nat))), z = Txt.join " " (ts.map mkS) ∧ z ≠ "-" ∧ ts ≠ [] ∧ (∀ t ∈ ts, 32 ∉ t) ∧ Desc ts ds ∧ ts.length ≤ 1000 ∧ z.length ≤ 100000 ∧
  (∀ g, ds = g.map some → fb 0 none 0 ds = none → ∀ H', Same H H' → Q (.str (txt (expd g))) H') ∧ ∀ k, fb 0 none 0 ds = some k → ∀ H' d, Same H H' → H' d = none → E (.ref CT) (some d) (L2.upd H' d (.xd [(("word" : Str), .int (k : Int))])))
set_option maxHeartbeats 1000000 in
theorem cal_rowOf (D : Def K mg "row_of" s_row_of ["text"]) (C : Cal K mg (L2.CX P w) P w base 3 "check_words" [] (spCheck K CT)) {t1 t2 : Tok} (c_NO : mg "NO_RUNS" = some (.str "-" t1)) (c_BLANK : mg "BLANK" = some (.str " " t2)) (m_int : mg "int" = none) : Cal K mg (L2.CX P w) P w base 4 "row_of" [] (spRowOf CT) := by
  refine D.calX scRowOf (fun vs H Q E h => ?_) (fun f cdv A outer s H vs Q E hr h => ?_)
  · obtain ⟨z, rfl, _⟩ := h
    rfl
  · obtain ⟨z, rfl, h⟩ := h
    have nd := scRowOf.nd
    refine ⟨_, (pss_cons (ps_if (pt_cmpR op_eq (pv 0) (pe_glob (v := .str "-") (by rfl) c_NO ⟨_, rfl⟩) (nomark _)) (pss_one (ps_ret pe_str)) pss_nil)
    (pss_cons (ps_set (i := 1) nd rfl (.inl rfl) (pe_split (pv 0) (pe_glob (v := .str " ") (by rfl) c_BLANK ⟨_, rfl⟩)))
    (pss_cons (ps_expr (pe_cX C hr (takes_of rfl rfl rfl rfl) (pa_cons (pv 1) pa_nil)))
    (pss_one (ps_ret (pe_join pe_str (pe_lc (own := [("word", 2)]) (g := gName 2) (tt := tYes) rfl nd (pi_list (pv 1)) (blkOk_by (N := ["text", "words", "word"]) (sc := defScope s_row_of) (by decide +kernel)) (fun _ _ _ _ _ => (pg_name (i := 2) nd rfl (Or.inl rfl) (Or.inr rfl))) (fun _ _ _ _ _ => pts_nil)
      (fun _ _ _ _ _ => (pe_op op_mul_sgn (pe_ix ix_str (pv 2) pe_int (fun _ _ => rfl)) (pe_callTy call_int_str (by rfl) m_int (by decide +kernel) (pa_cons (pe_slice sl_str (pv 2) (po_some pe_int) po_none) pa_nil))))))))))), ?_⟩
    rcases h with ⟨rfl, q⟩ | ⟨ts, ds, ez, hne, hts, hb, hD, hz, hzl, q, qe⟩
    · refine ⟨_, rfl, rfl, true, congrArg V.bl (decide_eq_true rfl), iteT ?_⟩
      exact q H (Same.refl H)
    · refine ⟨_, rfl, rfl, false, congrArg V.bl (decide_eq_false fun e => hne (V.str.inj e)), iteF ?_⟩
      have esp : Txt.split z " " = ts.map mkS := by
        rw [ez]
        refine TL.split_join (s := 32) (S := []) (by decide +kernel) (by decide +kernel) (fun e => hts (List.map_eq_nil_iff.mp e)) fun p hp => ?_
        obtain ⟨t, ht, rfl⟩ := List.mem_map.mp hp
        exact hb t ht
      refine ⟨_, rfl, ⟨_, rfl⟩, z, " ", rfl, rfl, by decide +kernel, ?_, ?_⟩
      · have := sz (show (200000 : Nat) ≤ 1000000 by decide)
        omega
      rw [esp]
      intro p np
      have s1 := same_upd (o := .lst ((ts.map mkS).map V.str)) np
      have ep : (L2.upd H p (.lst ((ts.map mkS).map V.str))) p = some (.lst ((ts.map mkS).map V.str)) := upd_same
      generalize L2.upd H p (.lst ((ts.map mkS).map V.str)) = H1 at s1 ep ⊢
      refine ⟨_, rfl, p, ts, ds, rfl, .inl (.inl ep), hD, hz, fun ef H2 s2 => ?_, fun k ef H2 d s2 nd' => qe k ef H2 d (s1.trans s2) nd'⟩
      obtain ⟨g, rfl⟩ := fb_none ef
      have q1 := q g rfl ef
      have s3 := s1.trans s2
      have ep2 := s2 _ _ ep
      have pl : ((ts.map mkS).map V.str).length = ts.length := by rw [List.length_map, List.length_map]
      have gl : ts.length = g.length := hD.len.trans (List.length_map ..)
      refine ⟨⟨_, rfl⟩, _, rfl, p, rfl, ⟨_, .inl (.inl ep2)⟩, fun D nD => ?_⟩
      have pD : p ≠ D := ne_of_none ep2 nD
      refine lc_it (walk_list (K := K) (a := p) (xs := (ts.map mkS).map V.str)) (fun i H' => Same H H' ∧ H' p = some (.lst ((ts.map mkS).map V.str)) ∧ H' D = some (.lst (((g.take i).map gtx).map V.str))) ?_ ?_ ?_ ?_
      · refine ⟨same_updN s3 (s3.free nD), ?_, upd_same⟩
        rw [upd_ne pD]
        exact ep2
      · rintro i H' _ ⟨_, h, _⟩
        exact .inl (.inl h)
      · rintro i x H3 H4 hi ⟨sm, h1, hDD⟩ ⟨rfl, ex⟩
        rw [pl] at hi
        have hti : ts[i]? = some ts[i] := List.getElem?_eq_getElem hi
        generalize ts[i] = t at hti
        have ex : x = .str (mkS t) := by
          rw [List.getElem?_map, List.getElem?_map, hti] at ex
          exact (Option.some.inj ex).symm
        subst ex
        obtain ⟨b, n, hg, rfl, hn⟩ := hD.good hti
        have ll := TL.numL_len (n := n) (k := 3) (by decide) (by omega)
        have lw : (mkS (code b :: TL.numL n)).length ≤ 4 := by rw [mkS_len, List.length_cons]; omega
        refine ⟨rfl, ?_⟩
        unfold tYes
        refine iteT ?_
        refine ⟨_, rfl, mkS (code b :: TL.numL n), 0, code b, rfl, rfl, sz (by omega), atI_nat (j := 0) rfl, ?_⟩
        refine ⟨_, rfl, 1, rfl, mkS (code b :: TL.numL n), rfl, sz (by omega), ?_⟩
        rw [cut_rest]
        refine ⟨_, n, rfl, int_of_num (by omega), by rw [mkS_len]; omega, b, n, rfl, rfl, by omega, ?_⟩
        have hlen : (((g.take i).map gtx).map V.str).length < sizeLine := szl (by
          rw [List.length_map, List.length_map, List.length_take]
          omega)
        refine ⟨_, hDD, hlen, same_updN sm (s3.free nD), ?_, ?_⟩
        · rw [upd_ne pD]
          exact h1
        · rw [upd_same, take_snoc hg, List.map_append, List.map_append]
          rfl
      · rintro H3 ⟨sm, h1, hDD⟩
        rw [pl, gl, List.take_length] at hDD
        refine ⟨"", D, g.map gtx, rfl, rfl, .inl (.inl (.inl hDD)), ?_, ?_⟩
        · have hs : ∀ (ts : List (List Nat)) (g : List (Bool × Nat)), Desc ts (g.map some) → ((g.map gtx).map (·.length)).sum ≤ 400 * g.length := fun ts g => by
            induction g generalizing ts with
            | nil => intro _; exact Nat.le_refl _
            | cons r g ih =>
              intro h
              cases ts with
              | nil => exact h.elim
              | cons t ts =>
                have h1 := ih ts h.2.2
                obtain ⟨b, n, e1, _, hn⟩ := Desc.good (ts := t :: ts) (g := r :: g) (i := 0) h rfl
                have e1 : r = (b, n) := Option.some.inj e1
                have h3 : (gtx r).length = r.2 := by
                  show (txt (List.replicate r.2 r.1)).length = _
                  rw [txt_len, List.length_replicate]
                rw [e1] at h3 ⊢
                simp only [List.map_cons, List.sum_cons, List.length_cons]
                have h3 : (gtx (b, n)).length = n := h3
                omega
          have := hs ts g hD
          rw [show ("" : Str).length = 0 by decide +kernel]
          omega
        · have ej : Txt.join "" (g.map gtx) = txt (expd g) := by
            rw [expd_flat, ← join_txts, List.map_map]
            rfl
          rw [ej]
          exact q1 H3 sm
end
end Hr
/-! ### NoText: the error that names a word -/
namespace PySem
namespace NTX
open PySem.W PySem.Calls PyProof.Rows PySem.HandSPX
def ntA : Arguments := { posonlyargs := [], args := [{ arg := "self", annotation := none, pos := ⟨16, 17, 16, 21⟩ }, { arg := "word", annotation := none, pos := ⟨16, 23, 16, 27⟩ }], vararg := none, kwonlyargs := [], kw_defaults := [], kwarg := none, defaults := [] }
def ntSay : Expr := .JoinedStr [.Constant (.str "no runs of a hill row, seen at word ") 0 ⟨17, 27, 17, 63⟩, .FormattedValue (.Name "word" ⟨17, 64, 17, 68⟩) (-1) none ⟨17, 63, 17, 69⟩] ⟨17, 25, 17, 70⟩
def ntB : List Stmt := [.Expr (.Call (.Attribute (.Call (.Name "super" ⟨17, 8, 17, 13⟩) [] [] ⟨17, 8, 17, 15⟩) "__init__" ⟨17, 8, 17, 24⟩) [ntSay] [] ⟨17, 8, 17, 71⟩) ⟨17, 8, 17, 71⟩,
  .Assign [.Attribute (.Name "self" ⟨18, 8, 18, 12⟩) "word" ⟨18, 8, 18, 17⟩] (.Name "word" ⟨18, 20, 18, 24⟩) ⟨18, 8, 18, 24⟩]
def ntS : Scope := { kind := .function, names := [(PySem.Str.ofString "self", .local), (PySem.Str.ofString "word", .local), (PySem.Str.ofString "__class__", .free), (PySem.Str.ofString "super", .globalImplicit)], isGenerator := false, isCoroutine := false, more := [] }
/-- what the written part says of the class and of its __init__ -/
structure NTxt (prog : Program) (K : Frag) (mg : Str → Option Value) (C fI : Addr) : Prop where
  gC : mg "NoText" = some (.ref C)
  ox : L2.OexC K C
  noN : findIn K (.ref C) "word" = some none
  iC : findIn K (.ref C) "__init__" = some (some (.ref fI))
  tI : typeIn K (.ref fI) = some (.type "function")
  sup : ks_superIn K C C "__init__" = some (some (.builtin "ValueError.__init__"))
  own : mroIn K C (.ref C) = some true
  ve : subIn K (.ref C) (.type "ValueError") = some true
  opq : nsIn K cStatics "thirdparty.any" = some none
  msup : mg "super" = none
  fn : ∃ (oc : Value) (od : Option Addr) (doc pm : Value) (an : Option Addr) (cda : Addr) (ct : Value) (osl : Array (Option Value)) (cc : Addr) (ccl : Value) (cdd : Option Addr) (vs : Array Value) (ccs : Array (Option Value)) (file : Str) (tf : Tok) (cl : Value) (cld : Option Addr) (csl : Array (Option Value)),
    K.lookup fI = some ⟨oc, od, .func (ksFn "__init__" "NoText.__init__" ntA ntB ntS .none .none doc pm an (.ref cda) ct cc), osl⟩ ∧ codeIn K (.ref cda) "NoText.__init__" = true ∧ K.lookup cda = some ⟨ccl, cdd, .fields vs, ccs⟩ ∧ vs[2]? = some (.str file tf) ∧ ((prog.main.file : Str) == file) = true ∧
      K.lookup cc = some ⟨cl, cld, .cell (some (.ref C)), csl⟩
  htop : (prog.main.scope.names.lookup ("super" : Str)).isSome = false
/-- what __init__ leaves of a fresh exception at x -/
structure Left (h h' : Heap) (x C dx t1 : Addr) (v : Value) : Prop where
  keep : ∀ b o, b ≠ x → h.get? b = some o → h'.get? b = some o
  obj : h'.get? x = some { cls := .ref C, dict := some dx, data := .fields #[.ref t1, .none, .none, .none, .bool false, .none] }
  dbig : h.objs.size ≤ dx
  dne : dx ≠ x
  ns : h'.Ns1 dx (fun y => if y = "word" then some v else none)
section
variable {prog : Program} {w : World} {A : Around} {E : Value → Shared → Prop} {R : Result → Shared → Prop} {s : Shared} {K : Frag} {mg mb : Str → Option Value} {C fI : Addr}
/-- the bound __init__ of ValueError, called -/
theorem call_mw {h : Heap} {g : Array GenState} {d : Drawn} {t : Nat} {os : OsState} {u e t0 : Addr} {rest : List Value} {Q : Value → Shared → Prop} (T : L2.OexC K C) (X : K.In h)
    (he : h.get? e = some (excO C t0)) (hu : h.get? u = some (kxs_mw "ValueError.__init__" e)) (hrest : rest.length ≤ sizeLine)
    (hq : ∀ h' t1, (∀ b o, b ≠ e → h.get? b = some o → h'.get? b = some o) → h'.get? e = some (excO C t1) → Q .none ⟨h', g, d, t, os⟩) :
    wpAny (model prog w) A (call (.ref u) rest) Q E ⟨h, g, d, t, os⟩ := by
  obtain ⟨nm, q, N, bs, bm, sn, sub, ab, col, dd, k0, k1, k2, k3, k5, hC, hbm⟩ := T.cls
  refine wpAny_call (codeAny_of_tree ?_)
  show wpAny _ A.in1 (callAny (.ref u) ⟨rest, []⟩) _ _ _
  simp only [callAny]
  refine wpAny_bind (wpAny_load hu ?_)
  simp only [kxs_mw, show (Value.type "method-wrapper" == Value.type "method" || Value.type "method-wrapper" == Value.type "builtin_function_or_method" || Value.type "method-wrapper" == Value.type "method-wrapper") = true by decide, if_true]
  refine W.KFB.if_so (by decide) ?_
  refine wpAny_bind (check_bound_init F.excBase_ValueError.toExcCallFacts (X _ _ hC) he rfl ?_)
  refine wpAny_bind (wpAny_pure (wpAny_pure ?_))
  refine ⟨Code.quiet_builtin _ (by decide +kernel), codeAny_builtin F.excBase_ValueError.initEntry ?_⟩
  rw [Around.under_plainId F.excBase_ValueError.init.plain _]
  wp_walk
  refine hq _ h.objs.size (fun b o hb ho => ?_) ?_
  · rw [Heap.get?_update_other _ _ (Ne.symm hb)]
    exact Heap.get?_push_of_some _ ho
  · rw [Heap.get?_update_self _ (Heap.get?_push_of_some _ he) rfl]
    rfl
end
end NTX
end PySem
/-! ### NoText.__init__ -/
namespace PySem
namespace NTX
open PySem.W PySem.Calls PyProof.Rows PySem.HandSPX
section
variable {prog : Program} {w : World} {A : Around} {E : Value → Shared → Prop} {R : Result → Shared → Prop} {s : Shared} {K : Frag} {mg mb : Str → Option Value} {C fI : Addr}
def msg (n : Nat) : Str := Str.empty ++ "no runs of a hill row, seen at word " ++ Str.ofString (toString ((n : Nat) : Int))
theorem msg_len {n : Nat} (h : n ≤ 10000) : (msg n).length ≤ 100 := by
  have h1 : (Str.ofString (toString ((n : Nat) : Int))).length ≤ 5 := by
    rw [TL.len_tl, TL.tl_num]
    exact TL.numL_len (k := 5) (by decide) (by omega)
  have h2 : (Str.empty ++ ("no runs of a hill row, seen at word " : Str)).length = 36 := by decide +kernel
  unfold msg
  rw [Str.length_append, h2]
  omega
theorem nt_init (T : NTxt prog K mg C fI) {x t0 : Addr} {n : Nat} {tn : Tok} (X : K.In s.heap) (G : s.heap.Ns mainGlobals mg) (BN : s.heap.Ns builtinsNs mb) (hsb : mb "super" = some (.type "super")) (hlim : s.heap.NoLimit)
    (hx : s.heap.get? x = some (excO C t0)) (hnx : K.lookup x = none) (hroom : A.depth < recursionLimit) (hn : n ≤ 10000)
    (hq : ∀ h' tk dx t1, Left s.heap h' x C dx t1 (.int (n : Int) tn) → R (.ok (.ret .none)) { s with heap := h', toks := tk }) :
    codeAny (model prog w) A (.call (.ref fI) ⟨[.ref x, .int (n : Int) tn], []⟩) R s := by
  obtain ⟨oc, od, doc, pm, an, cda, ct, osl, cc, ccl, cdd, vs, ccs, file, tf, cl, cld, csl, ho, hcd, hcode, hvs, hfile, hcell⟩ := T.fn
  obtain ⟨nm, q, N, bs, bm, sn, sub, ab, col, dd, k0, k1, k2, k3, k5, hC, hbm⟩ := T.ox.cls
  have hcl : clsIn K C = some { name := nm, bases := bs, mro := .ref C :: bm, ns := N, qualname := q, hasDict := true, slotNames := sn, subclasses := sub, abstract := ab, collection := col, hasDel := false } := by unfold clsIn; rw [hC] <;> rfl
  refine ks_codeAny_call_defAt (fd := ksFn "__init__" "NoText.__init__" ntA ntB ntS .none .none doc pm an (.ref cda) ct cc) (body := ntB) (binds := [("self", .ref x), ("word", .int (n : Int) tn)]) hroom (X _ _ ho) rfl hlim (codeRec_of X hcd) rfl (BindsTo.of_eq (by first | rfl | with_unfolding_all rfl)) (show ∀ y ∈ ntS.names, y.2 ≠ .cell by decide) (fun y hy => ?loc) (fun h₁ hns k => ?_) rfl rfl rfl
  case loc =>
    rcases List.mem_cons.mp hy with rfl | hy
    · show List.lookup ("self" : Str) ntS.names = _
      decide +kernel
    · rw [List.mem_singleton.mp hy]
      show List.lookup ("word" : Str) ntS.names = _
      decide +kernel
  show wpAt (model prog w) (A.deeper (ksEnv "NoText.__init__" ntS s.heap.objs.size fI (.ref cda) cc)) (.func ntB (ksEnv "NoText.__init__" ntS s.heap.objs.size fI (.ref cda) cc)) (execs ntB (ksEnv "NoText.__init__" ntS s.heap.objs.size fI (.ref cda) cc)) _ _ _
  generalize hL : s.heap.objs.size = L at *
  have X₁ : K.In h₁ := X.keeps k
  have hx₁ := k _ _ hx
  have hxL : L ≠ x := by
    rw [← hL]
    exact Nat.ne_of_gt (Heap.lt_size hx)
  have G₁ := G.keeps k
  have B₁ := BN.keeps k
  have hms : (fun y => List.lookup y ([("self", .ref x), ("word", .int (n : Int) tn)] : List (Str × Value)).reverse) "self" = some (.ref x) := by first | rfl | with_unfolding_all rfl | kernel_rfl
  have hmw : (fun y => List.lookup y ([("self", .ref x), ("word", .int (n : Int) tn)] : List (Str × Value)).reverse) "word" = some (.int (n : Int) tn) := by first | rfl | with_unfolding_all rfl | kernel_rfl
  generalize (fun y => List.lookup y ([("self", .ref x), ("word", .int (n : Int) tn)] : List (Str × Value)).reverse) = m at hns hms hmw
  unfold ntB
  refine ks_wpAt_execs_cons (ks_wpAt_Expr_any (ks_wpAt_MethodCall ?_))
  refine ks_wpAt_super_base (by rfl) (by rfl) (by decide) rfl (X₁ _ _ ho) rfl rfl rfl (X₁ _ _ hcode) rfl hvs hfile T.htop ?_
  refine ks_loadName_global rfl (by rfl) (loadGlobal_builtin G₁ T.msup B₁ hsb ⟨rfl, ?_⟩)
  refine wpAny_loadName_free rfl (by rfl) (by rfl) ⟨_, X₁ _ _ hcell, rfl⟩ ?_
  refine wpAny_loadName_local rfl (by rfl) hns hms ?_
  refine ks_wpAny_isType_cls (X₁ _ _ hC) rfl ⟨rfl, ?_⟩
  refine ks_wpAny_call_super (X₁ _ _ hC) rfl hx₁ rfl (fun c e => nomatch e) (looks_mroIn X₁ T.own) (fun h₂ e₂ kk₂ => ?_)
  have X₂ := X₁.keeps kk₂
  have hx₂ := kk₂ _ _ hx₁
  have I₂ : InstAt h₂ x (excO C t0) C none := ⟨hx₂, rfl, rfl, trivial⟩
  have hsup : alongIn K "__init__" (((Value.ref C :: bm).dropWhile (· != .ref C)).drop 1) = some (some (.builtin "ValueError.__init__")) := by
    have z := T.sup
    unfold ks_superIn at z
    rw [hcl] at z
    exact z
  refine kxs_getMethod kxs_ValueError e₂ (looks_opaque X₂ T.opq) (l₀ := .ref C :: bm) (fun A Q E s k q => wpAny_bind ((looks_clsIn X₂ hcl) A _ E s k (wpAny_pure q))) rfl X₂ hsup (I₂.type.andThen (looks_subIn X₂ T.ve)) (ks_ne X₂ I₂ hcl) (by decide) ?_
  have kk₃ : ∀ b o, h₂.get? b = some o → (h₂.push (kxs_mw "ValueError.__init__" x)).get? b = some o := fun b o e => Heap.get?_push_of_some _ e
  have hu₃ : (h₂.push (kxs_mw "ValueError.__init__" x)).get? h₂.objs.size = some (kxs_mw "ValueError.__init__" x) := Heap.get?_push_at rfl rfl
  generalize h₂.push (kxs_mw "ValueError.__init__" x) = h₃ at kk₃ hu₃ ⊢
  generalize h₂.objs.size = u at hu₃ ⊢
  have X₃ := X₂.keeps kk₃
  have hx₃ := kk₃ _ _ hx₂
  have k₀₃ : ∀ b o, h₁.get? b = some o → h₃.get? b = some o := fun b o e => kk₃ b o (kk₂ b o e)
  have hns₃ := hns.keeps k₀₃
  have he : ∀ env, starEach [ntSay] env = (false, eval ntSay env) :: starEach [] env := fun _ => rfl
  dsimp only
  rw [he]
  refine kxs_callWith (i := "ValueError.__init__") (x := x) (by rfl) (evalArgs_plain (spliced_cons ?_))
  unfold ntSay
  refine wpAny_JoinedStr (pos := ⟨21, 25, 21, 70⟩) ?_
  have ev : ∀ (a b : Expr) env, evalEach [a, b] env = [eval a env, eval b env] := fun _ _ _ => by first | rfl | simp [evalEach]
  rw [ev]
  have l1 : (Str.empty ++ ("no runs of a hill row, seen at word " : Str)).length ≤ sizeLine := by rw [show (Str.empty ++ ("no runs of a hill row, seen at word " : Str)).length = 36 by decide +kernel]; decide
  have l2 := msg_len hn
  have l3 : (msg n).length ≤ sizeLine := by rw [sizeLine_eq]; omega
  refine Calls.Constant_str ⟨_, _, rfl, l1, ?_⟩
  refine wpAny_FormattedValue_plain (wpAny_Name (wpAny_loadName_local rfl (by rfl) hns₃ hmw (wpAny_formatField_int (Hr.small_log hn) ⟨_, _, rfl, l3, l3, ?_⟩)) (by decide))
  refine Calls.spliced_nil ⟨hu₃, ?_⟩
  refine call_mw T.ox X₃ hx₃ hu₃ (by show 1 ≤ sizeLine; decide) (fun h₄ t1 k₄ hx₄ => ?_)
  have X₄ : K.In h₄ := fun a o e => k₄ a o (fun z => by rw [z, hnx] at e; cases e) (X₃ a o e)
  have hns₄ : h₄.Ns L m := by
    obtain ⟨oL, es, ep, e, r⟩ := hns₃
    exact ⟨oL, es, ep, k₄ _ _ hxL e, r⟩
  refine wpAt_of_wpAny (wpAny_execs_cons (plainObj_wpAny_Assign_Attribute ?_))
  refine wpAny_Name (wpAny_loadName_local rfl (by rfl) hns₄ hmw (wpAny_Name (wpAny_loadName_local rfl (by rfl) hns₄ hms ?_) (by decide))) (by decide)
  refine set_plain X₄ (ox := excO C t1) (od := none) ⟨hx₄, rfl, rfl, trivial⟩ T.ox.sa ?_
  refine exc_osa X₄ hx₄ hcl (show refsVE (.ref C :: bm) = true from hbm) rfl T.noN (fun h₅ tk₅ dx k₅ dn dne hx₅ hn₅ => ?_)
  show wpAny _ _ (execs _ _) _ _ _
  refine wpAny_execs_nil (hq h₅ tk₅ dx t1 ⟨fun b o hb e => k₅ b o hb (k₄ b o hb (k₀₃ b o (k b o e))), hx₅, by rw [hL]; exact Nat.le_of_lt (Nat.lt_of_lt_of_le hns₄.lt dn), dne, hn₅⟩)
/-- NoText(n), made -/
structure Made (h h' : Heap) (e C d : Addr) (v : Value) : Prop where
  keep : ∀ b o, h.get? b = some o → h'.get? b = some o
  new : h.objs.size ≤ e
  obj : ∃ oe vs, h'.get? e = some oe ∧ oe.cls = .ref C ∧ oe.dict = some d ∧ oe.data = .fields vs ∧ vs[1]? = some .none
  dbig : h.objs.size ≤ d
  dne : d ≠ e
  ns : h'.Ns1 d (fun y => if y = "word" then some v else none)
theorem nt_made (T : NTxt prog K mg C fI) {n : Nat} {tn : Tok} (X : K.In s.heap) (G : s.heap.Ns mainGlobals mg) (BN : s.heap.Ns builtinsNs mb) (hsb : mb "super" = some (.type "super")) (hlim : s.heap.NoLimit) (hroom : A.depth + 1 < recursionLimit) (hn : n ≤ 10000)
    (hq : ∀ h' tk e d, Made s.heap h' e C d (.int (n : Int) tn) → R (.ok (.ret (.ref e))) { s with heap := h', toks := tk }) :
    codeAny (model prog w) A (.call (.ref C) ⟨[.int (n : Int) tn], []⟩) R s := by
  obtain ⟨nm, q, N, bs, bm, sn, sub, ab, col, dd, k0, k1, k2, k3, k5, hC, hbm⟩ := T.ox.cls
  obtain ⟨hp, g, dr, tk, os⟩ := s
  have k : ∀ b o, hp.get? b = some o → ((hp.push (kdv_tup [.int (n : Int) tn])).push (excO C hp.objs.size)).get? b = some o := fun b o e => Heap.get?_push_of_some _ (Heap.get?_push_of_some _ e)
  have hget : ((hp.push (kdv_tup [.int (n : Int) tn])).push (excO C hp.objs.size)).get? (hp.objs.size + 1) = some (excO C hp.objs.size) := by heap_get
  have hnx : K.lookup (hp.objs.size + 1) = none := by
    cases e : K.lookup (hp.objs.size + 1) with
    | none => rfl
    | some o =>
      have z : hp.get? (hp.objs.size + 1) = some o := X _ _ e
      exact absurd (Nat.lt_of_succ_lt (Heap.lt_size z)) (Nat.lt_irrefl _)
  refine call_own F.excBase_ValueError (fun X => refsVE_contains X bm hbm) (X _ _ hC) (looks_findIn X T.iC) (fun self => bind_fn X self T.tI) (by show 1 ≤ sizeLine; decide) ?_
  refine nt_init (s := ⟨(hp.push (kdv_tup [.int (n : Int) tn])).push (excO C hp.objs.size), g, dr, tk, os⟩) T (X.keeps k) (G.keeps k) (BN.keeps k) hsb (hlim.keeps k) hget hnx ?_ hn fun h' tk' dx t1 M => ?_
  · show A.depth + 1 < recursionLimit
    exact hroom
  · obtain ⟨k', hx, dn, dne, hns⟩ := M
    have old : ∀ b o, hp.get? b = some o → h'.get? b = some o := fun b o e => k' b o (Nat.ne_of_lt (Nat.lt_succ_of_lt (Heap.lt_size e))) (k b o e)
    have z : hp.objs.size ≤ dx := by
      have q := dn
      rw [Heap.size_push, Heap.size_push] at q
      omega
    exact ⟨rfl, hq h' tk' (hp.objs.size + 1) dx ⟨old, Nat.le_succ _, ⟨_, _, hx, rfl, rfl, rfl, rfl⟩, z, dne, hns⟩⟩
end
end NTX
end PySem
namespace Hr
open PySem PySem.Spec PyProof.Rows L2
theorem relO_word {v : V} {v' : Value} (r : RelV v v') (f : Str) : RelO (List.lookup f [(("word" : Str), v)]) (if f = "word" then some v' else none) := by
  by_cases hw : f = "word"
  · subst hw
    rw [if_pos rfl]
    have q : List.lookup ("word" : Str) [(("word" : Str), v)] = some v := by simp [List.lookup]
    rw [q]
    exact r
  · rw [if_neg hw]
    have qw : (f == ("word" : Str)) = false := by simpa using hw
    have q2 : List.lookup f [(("word" : Str), v)] = none := by simp [List.lookup, qw]
    rw [q2]
    trivial
/-- NoText is made as its text says -/
theorem text_mk {P : Program} {K : PySem.W.Frag} {mg : Str → Option Value} {C fI : Addr} (T : PySem.NTX.NTxt P K mg C fI) : TextMk P K mg C := by
  intro X a ta p pos eP eK eM hr ha hg he hpl pins s σ H Q I h
  subst eK eM eP
  refine wpAny_Call_Name_kw (ld_glob I hg T.gC ?_)
  refine PySem.W.callWith_K (h₀ := X.base) I.ok.mod.kin T.ox.kC (thn (ha.run pos pins s σ H _ I h) fun us s1 hh => ?_) he hpl
  obtain ⟨vs, H1, I1, r1, n, ev, hn, q1⟩ := hh
  subst ev
  refine ⟨I1.kIn, ?_⟩
  cases r1 with
  | cons rv rn =>
    rename_i v' us'
    cases rn
    obtain ⟨tn, rfl⟩ := rv
    show wpAny _ _ (call (.ref C) [.int (n : Int) tn]) _ _ _
    have hlim := I1.nolimit
    obtain ⟨mb, hb1, hb2⟩ := I1.mod.blt
    have G1 := I1.mod.glob.keeps I1.bk
    have B1 := hb1.keeps I1.bk
    obtain ⟨hp, g, dr, tk, os⟩ := s1
    refine wpAny_call (PySem.NTX.nt_made T I1.kIn G1 B1 ((hb2 "super" (by decide)).trans (by decide +kernel)) hlim (by have := hr.dp; omega) hn fun h' tk' e d M => ?_)
    show MkP X pins σ Q (.ref e) ⟨h', g, dr, tk', os⟩
    obtain ⟨oe, fv, hoe, hc, hd, hdat, h1⟩ := M.obj
    have hns := M.ns
    obtain ⟨G', g1, g2⟩ := restrict h' fun b => decide (b ≠ e)
    have gk : ∀ b, b ≠ e → G'.get? b = h'.get? b := fun b hb => g1 b (decide_eq_true hb)
    have ge : G'.get? e = none := g2 e (by simp)
    have old : ∀ b o, hp.get? b = some o → G'.get? b = some o := fun b o q => (gk b (Nat.ne_of_lt (Nat.lt_of_lt_of_le (Heap.lt_size q) M.new))).trans (M.keep b o q)
    have ob : ObjOk X.prog X.w (L2.upd H1 d (.xd [(("word" : Str), .int (n : Int))])) G' d (.xd [(("word" : Str), .int (n : Int))]) :=
      ⟨_, hns.at (fun o q => (gk d M.dne).trans q), fun f => relO_word (v := .int (n : Int)) (v' := .int (n : Int) tn) ⟨tn, rfl⟩ f⟩
    have J : Inv X pins σ (L2.upd H1 d (.xd [(("word" : Str), .int (n : Int))])) ⟨G', g, dr, tk', os⟩ := I1.laid (t' := tk') old M.dbig ob
    refine ⟨e, oe, fv, ⟨G', g, dr, tk', os⟩, _, .ref C, some d, rfl, J, fun b o q => ?_, ge, hoe, ⟨hc, hd⟩, hdat, h1, ?_, rfl, I1.bare, raises_own T.ox.exC T.ox.tyC, q1 d (I1.hok.fresh M.dbig)⟩
    · by_cases hb : b = e
      · have q' : G'.get? b = some o := q
        rw [hb, ge] at q'
        cases q'
      · exact (gk b hb).symm.trans q
    · rw [upd_ne (Ne.symm M.dne)]
      exact I1.hok.fresh M.new
end Hr
/-! ### spoilt words, as descriptions -/
namespace Hr
open PySem PySem.Spec PyProof.Rows L2
/-- good words all the way -/
def Walk (h : Int) (a : Option Bool) : List (Bool × Nat) → Prop
  | [] => True
  | p :: r => a ≠ some p.1 ∧ 0 ≤ h + up p ∧ Walk (h + up p) (some p.1) r
def endH (h : Int) : List (Bool × Nat) → Int
  | [] => h
  | p :: r => endH (h + up p) r
def endA (a : Option Bool) : List (Bool × Nat) → Option Bool
  | [] => a
  | p :: r => endA (some p.1) r
theorem fb_walk : ∀ {g : List (Bool × Nat)} {h : Int} {a : Option Bool} {k : Nat} {r : List (Option (Bool × Nat))}, Walk h a g → fb h a k (g.map some ++ r) = fb (endH h g) (endA a g) (k + g.length) r
  | [], h, a, k, r, _ => rfl
  | p :: g, h, a, k, r, w => by
    obtain ⟨w1, w2, w3⟩ := w
    have ih := fb_walk (k := k + 1) (r := r) w3
    show (if a = some p.1 then some k else if h + up p < 0 then some k else fb (h + up p) (some p.1) (k + 1) (g.map some ++ r)) = _
    rw [if_neg w1, if_neg (by omega), ih, List.length_cons]
    show fb _ _ (k + 1 + g.length) r = fb (endH (h + up p) g) (endA (some p.1) g) (k + (g.length + 1)) r
    rw [show k + 1 + g.length = k + (g.length + 1) by omega]
theorem Walk.take : ∀ {g : List (Bool × Nat)} {h : Int} {a : Option Bool} (n : Nat), Walk h a g → Walk h a (g.take n)
  | [], h, a, n, _ => by
    rw [List.take_nil]
    trivial
  | p :: g, h, a, 0, _ => trivial
  | p :: g, h, a, n + 1, w => ⟨w.1, w.2.1, Walk.take n w.2.2⟩
theorem endA_snoc : ∀ (g : List (Bool × Nat)) (a : Option Bool) (p : Bool × Nat), endA a (g ++ [p]) = some p.1
  | [], a, p => rfl
  | q :: g, a, p => endA_snoc g (some q.1) p
theorem endH_snoc : ∀ (g : List (Bool × Nat)) (h : Int) (p : Bool × Nat), endH h (g ++ [p]) = endH h g + up p
  | [], h, p => rfl
  | q :: g, h, p => endH_snoc g (h + up q) p
theorem walk_end : ∀ {g : List (Bool × Nat)} {h : Int} {a : Option Bool}, 0 ≤ h → Walk h a g → 0 ≤ endH h g
  | [], h, a, h0, _ => h0
  | p :: g, h, a, h0, w => walk_end (g := g) w.2.1 w.2.2
theorem okb_reps (b : Bool) : ∀ (n : Nat) (h : Nat) (r : List Bool), okb none h (List.replicate n b ++ r) = true → ∃ h' : Nat, (h' : Int) = (h : Int) + up (b, n) ∧ okb none h' r = true
  | 0, h, r, e => ⟨h, by cases b <;> (show (h : Int) = _; simp [up]), e⟩
  | n + 1, h, r, e => by
    have e : okb none h (b :: (List.replicate n b ++ r)) = true := e
    cases b with
    | true =>
      obtain ⟨_, e2⟩ := okb_up e
      obtain ⟨h', e3, e4⟩ := okb_reps true n (h + 1) r e2
      refine ⟨h', ?_, e4⟩
      rw [e3]
      show ((h + 1 : Nat) : Int) + (n : Int) = (h : Int) + ((n + 1 : Nat) : Int)
      omega
    | false =>
      obtain ⟨e1, e2⟩ := okb_down e
      obtain ⟨h', e3, e4⟩ := okb_reps false n (h - 1) r e2
      refine ⟨h', ?_, e4⟩
      rw [e3]
      show ((h - 1 : Nat) : Int) + -(n : Int) = (h : Int) + -((n + 1 : Nat) : Int)
      omega
theorem walk_of : ∀ {g : List (Bool × Nat)} {h : Nat} {a : Option Bool}, Alt g → (∀ p, g[0]? = some p → a ≠ some p.1) → okb none h (expd g) = true → Walk h a g ∧ endH h g = 0
  | [], h, a, _, _, ok => by
    refine ⟨trivial, ?_⟩
    have := okb_len ok
    have h0 : (expd []).length = 0 := rfl
    show (h : Int) = 0
    omega
  | p :: g, h, a, al, ha, ok => by
    have ok : okb none h (List.replicate p.2 p.1 ++ expd g) = true := ok
    obtain ⟨h', e1, e2⟩ := okb_reps p.1 p.2 h (expd g) ok
    have e1 : (h' : Int) = (h : Int) + up p := e1
    have al' : Alt g ∧ ∀ q, g[0]? = some q → some p.1 ≠ some q.1 := by
      cases g with
      | nil => exact ⟨trivial, fun q e => by cases e⟩
      | cons x r =>
        refine ⟨al.2.2, fun q e => ?_⟩
        have e : x = q := Option.some.inj e
        rw [← e]
        exact fun z => al.2.1 (Option.some.inj z)
    obtain ⟨w, en⟩ := walk_of (h := h') (a := some p.1) al'.1 al'.2 e2
    refine ⟨⟨ha p rfl, by omega, ?_⟩, ?_⟩
    · rw [← e1]
      exact w
    · show endH ((h : Int) + up p) g = 0
      rw [← e1]
      exact en
/-- the runs of a hill row: good words -/
theorem walk_grp {l : List Bool} (ok : okb none 0 l = true) : Walk 0 none (grp l) ∧ endH 0 (grp l) = 0 := by
  have := walk_of (g := grp l) (h := 0) (a := none) (alt_grp l) (fun p _ => by simp) (by rw [expd_grp]; exact ok)
  exact this
/-- and so they lead to no error -/
theorem fb_grp {l : List Bool} (ok : okb none 0 l = true) : fb 0 none 0 ((grp l).map some) = none := by
  obtain ⟨w, e⟩ := walk_grp ok
  have := fb_walk (k := 0) (r := []) w
  rw [List.append_nil] at this
  rw [this, e]
  rfl
/-- an error behind n good words -/
theorem fb_at {g : List (Bool × Nat)} (w : Walk 0 none g) {n : Nat} (hn : n ≤ g.length) (r : List (Option (Bool × Nat))) : fb 0 none 0 ((g.take n).map some ++ r) = fb (endH 0 (g.take n)) (endA none (g.take n)) n r := by
  rw [fb_walk (w.take n), List.length_take, Nat.min_eq_left hn, Nat.zero_add]
theorem fb_none_at {g : List (Bool × Nat)} (w : Walk 0 none g) {n : Nat} (hn : n ≤ g.length) (r : List (Option (Bool × Nat))) : fb 0 none 0 ((g.take n).map some ++ none :: r) = some n := by
  rw [fb_at w hn]
  rfl
theorem fb_twice {g : List (Bool × Nat)} (w : Walk 0 none g) {n : Nat} {p : Bool × Nat} (hp : g[n]? = some p) (r : List (Option (Bool × Nat))) : fb 0 none 0 ((g.take n).map some ++ some p :: some p :: r) = some (n + 1) := by
  have hl := (List.getElem?_eq_some_iff.mp hp).1
  have e : g.take (n + 1) = g.take n ++ [p] := take_snoc hp
  have := fb_at w (n := n + 1) (by omega) (some p :: r)
  rw [e, endA_snoc] at this
  have e2 : (g.take n ++ [p]).map some ++ some p :: r = (g.take n).map some ++ some p :: some p :: r := by simp
  rw [← e2, this]
  exact if_pos rfl
theorem last_down {g : List (Bool × Nat)} (w : Walk 0 none g) (e : endH 0 g = 0) (al : Alt g) (hne : g ≠ []) : ∃ g' n, g = g' ++ [(false, n)] ∧ 0 < endH 0 g' ∧ 1 ≤ n := by
  rcases List.eq_nil_or_concat g with rfl | ⟨g', ⟨c, n⟩, eg⟩
  · exact absurd rfl hne
  · rw [List.concat_eq_append] at eg
    have hn : 1 ≤ n := alt_pos al (i := g'.length) (p := (c, n)) (by rw [eg, List.getElem?_append_right (Nat.le_refl _), Nat.sub_self]; rfl)
    have w' := w.take g'.length
    rw [eg, List.take_left'] at w'
    · have h0 := walk_end (Int.le_refl 0) w'
      rw [eg, endH_snoc] at e
      cases c with
      | true =>
        have e : endH 0 g' + (n : Int) = 0 := e
        omega
      | false =>
        have e : endH 0 g' + -(n : Int) = 0 := e
        exact ⟨g', n, eg, by omega, hn⟩
    · rfl
theorem fb_short {g : List (Bool × Nat)} (w : Walk 0 none g) (e : endH 0 g = 0) (al : Alt g) (hne : g ≠ []) : fb 0 none 0 (g.dropLast.map some) = some (g.length - 1) := by
  obtain ⟨g', n, eg, h1, _⟩ := last_down w e al hne
  have ed : g.dropLast = g.take (g.length - 1) := List.dropLast_eq_take
  have := fb_at w (n := g.length - 1) (by omega) []
  rw [List.append_nil] at this
  rw [ed, this]
  have et : g.take (g.length - 1) = g' := by
    rw [← ed, eg, List.dropLast_concat]
  rw [et]
  exact if_neg (by omega)
theorem fb_more {g : List (Bool × Nat)} (w : Walk 0 none g) (e : endH 0 g = 0) (al : Alt g) (hne : g ≠ []) : fb 0 none 0 (g.map some ++ [some (true, 1)]) = some (g.length + 1) ∧ fb 0 none 0 (g.map some ++ [some (true, 1), some (false, 2)]) = some (g.length + 1) := by
  obtain ⟨g', n, eg, h1, _⟩ := last_down w e al hne
  have ea : endA none g = some false := by rw [eg, endA_snoc]
  constructor
  · rw [fb_walk w, e, ea, Nat.zero_add]
    rfl
  · rw [fb_walk w, e, ea, Nat.zero_add]
    rfl
theorem fb_less {g : List (Bool × Nat)} (w : Walk 0 none g) (e : endH 0 g = 0) (al : Alt g) (hne : g ≠ []) : fb 0 none 0 ((g.drop 1).map some) = some 0 := by
  cases g with
  | nil => exact absurd rfl hne
  | cons p r =>
    have h0 : 0 ≤ (0 : Int) + up p := w.2.1
    have hp : p.1 = true := by
      cases hb : p.1 with
      | true => rfl
      | false =>
        have h1 : 1 ≤ p.2 := alt_pos al (i := 0) rfl
        have : up p = -(p.2 : Int) := by
          unfold up
          rw [hb]
          rfl
        omega
    cases r with
    | nil =>
      have e : (0 : Int) + up p = 0 := e
      have h1 : 1 ≤ p.2 := alt_pos al (i := 0) rfl
      have : up p = (p.2 : Int) := by
        unfold up
        rw [hp]
        rfl
      omega
    | cons q r =>
      have hq : q.1 = false := by
        have := al.2.1
        rw [hp] at this
        cases hb : q.1 with
        | false => rfl
        | true => exact absurd hb.symm this
      have h1 : 1 ≤ q.2 := alt_pos al (i := 1) rfl
      have hu : up q = -(q.2 : Int) := by
        unfold up
        rw [hq]
        rfl
      show (if none = some q.1 then some 0 else if (0 : Int) + up q < 0 then some 0 else fb (0 + up q) (some q.1) (0 + 1) (r.map some)) = some 0
      rw [if_neg (by simp), if_pos (by omega)]
end Hr
namespace Hr
open PySem PySem.Spec PyProof.Rows L2
def wl (p : Bool × Nat) : List Nat := code p.1 :: TL.numL p.2
def Clean (x : List Nat) : Prop := (∀ c ∈ x, c ≠ 32 ∧ c ≠ 45) ∧ x.length ≤ 10
theorem word_wl (p : Bool × Nat) : wordOf p = mkS (wl p) := word_mk p
theorem words_wl (g : List (Bool × Nat)) : (g.map wordOf).map V.str = ((g.map wl).map mkS).map V.str := by
  have : g.map wordOf = (g.map wl).map mkS := by
    rw [List.map_map]
    exact List.map_congr_left fun p _ => word_wl p
  rw [this]
theorem Desc.app : ∀ {ts us : List (List Nat)} {ds es : List (Option (Bool × Nat))}, Desc ts ds → Desc us es → Desc (ts ++ us) (ds ++ es)
  | [], us, [], es, _, h => h
  | t :: ts, us, d :: ds, es, h, h' => ⟨h.1, h.2.1, Desc.app h.2.2 h'⟩
  | [], us, _ :: _, es, h, _ => h.elim
  | _ :: _, us, [], es, h, _ => h.elim
theorem num_small {n : Nat} (h : n ≤ 401) : (TL.numL n).length ≤ 3 := TL.numL_len (k := 3) (by decide) (by omega)
theorem desc_good : ∀ {g : List (Bool × Nat)}, (∀ p ∈ g, 1 ≤ p.2 ∧ p.2 ≤ 400) → Desc (g.map wl) (g.map some)
  | [], _ => trivial
  | (b, n) :: g, h => by
    obtain ⟨h1, h2⟩ := h (b, n) (List.mem_cons_self ..)
    have := num_small (n := n) (Nat.le_trans h2 (by decide))
    exact ⟨by show (TL.numL n).length + 1 ≤ 1000; omega, RunD.good h1 h2, desc_good fun p hp => h p (List.mem_cons_of_mem _ hp)⟩
theorem code_clean (b : Bool) : code b ≠ 32 ∧ code b ≠ 45 := by cases b <;> decide
theorem num_clean (n : Nat) : ∀ c ∈ TL.numL n, c ≠ 32 ∧ c ≠ 45 := fun c hc => by
  have := TL.numL_digits n c hc
  omega
theorem clean_wl {p : Bool × Nat} (h : p.2 ≤ 401) : Clean (wl p) := by
  refine ⟨fun c hc => ?_, ?_⟩
  · rcases List.mem_cons.mp hc with rfl | hc
    · exact code_clean _
    · exact num_clean _ c hc
  · have := num_small h
    show (TL.numL p.2).length + 1 ≤ 10
    omega
/-- words that row_of refuses at k -/
structure Bad13 (ts : List (List Nat)) (k : Nat) : Prop where
  ex : ∃ ds, Desc ts ds ∧ fb 0 none 0 ds = some k
  ne : ts ≠ []
  cl : ∀ x ∈ ts, Clean x
  len : ts.length ≤ 403
/-- good words of a row -/
structure Good13 (g : List (Bool × Nat)) : Prop where
  al : Alt g
  w : Walk 0 none g
  e : endH 0 g = 0
  ne : g ≠ []
  b : ∀ p ∈ g, 1 ≤ p.2 ∧ p.2 ≤ 400
  len : g.length ≤ 400
theorem good_part {g : List (Bool × Nat)} (G : Good13 g) {h : List (Bool × Nat)} (s : ∀ p ∈ h, p ∈ g) : Desc (h.map wl) (h.map some) ∧ ∀ x ∈ h.map wl, Clean x := by
  refine ⟨desc_good fun p hp => G.b p (s p hp), fun x hx => ?_⟩
  obtain ⟨p, hp, rfl⟩ := List.mem_map.mp hx
  exact clean_wl (Nat.le_trans (G.b p (s p hp)).2 (by decide))
theorem bad_in {g : List (Bool × Nat)} (G : Good13 g) {n m : Nat} (hn : n < g.length) (hm : n ≤ m) {t : List Nat} (hr : RunD t none) (hc : Clean t) : Bad13 ((g.map wl).take n ++ [t] ++ (g.map wl).drop m) n := by
  obtain ⟨d1, c1⟩ := good_part G (h := g.take n) fun p hp => List.mem_of_mem_take hp
  obtain ⟨d2, c2⟩ := good_part G (h := g.drop m) fun p hp => List.mem_of_mem_drop hp
  rw [← List.map_take, ← List.map_drop]
  have hl : (g.take n).length = n := by rw [List.length_take]; omega
  refine ⟨⟨(g.take n).map some ++ [none] ++ (g.drop m).map some, (d1.app (us := [t]) (es := [none]) ⟨Nat.le_trans hc.2 (by decide), hr, trivial⟩).app d2, ?_⟩, by simp, fun x hx => ?_, ?_⟩
  · rw [List.append_assoc]
    exact fb_none_at G.w (Nat.le_of_lt hn) _
  · rcases List.mem_append.mp hx with hx | hx
    · rcases List.mem_append.mp hx with hx | hx
      · exact c1 x hx
      · rw [List.mem_singleton.mp hx]
        exact hc
    · exact c2 x hx
  · have := G.len
    rw [List.length_append, List.length_append, List.length_map, List.length_map, hl, List.length_drop]
    show n + 1 + (g.length - m) ≤ 403
    omega
theorem bad_twice {g : List (Bool × Nat)} (G : Good13 g) {n : Nat} {p : Bool × Nat} (hp : g[n]? = some p) : Bad13 ((g.map wl).take n ++ [wl p] ++ (g.map wl).drop n) (n + 1) := by
  have hn := (List.getElem?_eq_some_iff.mp hp).1
  have hm := List.mem_of_getElem? hp
  obtain ⟨d1, c1⟩ := good_part G (h := g.take n) fun p hp => List.mem_of_mem_take hp
  obtain ⟨d2, c2⟩ := good_part G (h := g.drop n) fun p hp => List.mem_of_mem_drop hp
  obtain ⟨d0, c0⟩ := good_part G (h := [p]) fun q hq => by rw [List.mem_singleton.mp hq]; exact hm
  rw [← List.map_take, ← List.map_drop]
  have hl : (g.take n).length = n := by rw [List.length_take]; omega
  have ed : g.drop n = p :: g.drop (n + 1) := by
    rw [List.drop_eq_getElem_cons hn]
    congr 1
    exact (List.getElem?_eq_some_iff.mp hp).2
  refine ⟨⟨(g.take n).map some ++ [some p] ++ (g.drop n).map some, (d1.app d0).app d2, ?_⟩, by simp, fun x hx => ?_, ?_⟩
  · rw [List.append_assoc, ed]
    exact fb_twice G.w hp _
  · rcases List.mem_append.mp hx with hx | hx
    · rcases List.mem_append.mp hx with hx | hx
      · exact c1 x hx
      · exact c0 x hx
    · exact c2 x hx
  · have := G.len
    rw [List.length_append, List.length_append, List.length_map, List.length_map, hl, List.length_drop]
    show n + 1 + (g.length - n) ≤ 403
    omega
theorem bad_short {g : List (Bool × Nat)} (G : Good13 g) (h2 : 2 ≤ g.length) : Bad13 ((g.map wl).dropLast) (g.length - 1) := by
  obtain ⟨d1, c1⟩ := good_part G (h := g.dropLast) fun p hp => by rw [List.dropLast_eq_take] at hp; exact List.mem_of_mem_take hp
  rw [← List.map_dropLast]
  refine ⟨⟨_, d1, fb_short G.w G.e G.al G.ne⟩, fun e => ?_, c1, ?_⟩
  · have := congrArg List.length e
    rw [List.length_map, List.length_dropLast] at this
    have h0 : ([] : List (List Nat)).length = 0 := rfl
    omega
  · have := G.len
    rw [List.length_map, List.length_dropLast]
    omega
theorem bad_more {g : List (Bool × Nat)} (G : Good13 g) : Bad13 (g.map wl ++ [wl (true, 1)]) (g.length + 1) ∧ Bad13 (g.map wl ++ [wl (true, 1), wl (false, 2)]) (g.length + 1) := by
  obtain ⟨d1, c1⟩ := good_part G (h := g) fun p hp => hp
  have dA : Desc [wl (true, 1)] [some (true, 1)] := desc_good (g := [(true, 1)]) (by decide)
  have dB : Desc [wl (true, 1), wl (false, 2)] [some (true, 1), some (false, 2)] := desc_good (g := [(true, 1), (false, 2)]) (by decide)
  obtain ⟨f1, f2⟩ := fb_more G.w G.e G.al G.ne
  have := G.len
  refine ⟨⟨⟨_, d1.app dA, f1⟩, by simp, fun x hx => ?_, ?_⟩, ⟨⟨_, d1.app dB, f2⟩, by simp, fun x hx => ?_, ?_⟩⟩
  · rcases List.mem_append.mp hx with hx | hx
    · exact c1 x hx
    · rw [List.mem_singleton.mp hx]
      exact clean_wl (by decide)
  · rw [List.length_append, List.length_map]
    show g.length + 1 ≤ 403
    omega
  · rcases List.mem_append.mp hx with hx | hx
    · exact c1 x hx
    · rcases List.mem_cons.mp hx with rfl | hx
      · exact clean_wl (by decide)
      · rw [List.mem_singleton.mp hx]
        exact clean_wl (by decide)
  · rw [List.length_append, List.length_map]
    show g.length + 2 ≤ 403
    omega
theorem good_two {g : List (Bool × Nat)} (G : Good13 g) : 2 ≤ g.length := by
  obtain ⟨g', n, eg, h1, _⟩ := last_down G.w G.e G.al G.ne
  have : g' ≠ [] := fun z => by
    rw [z] at h1
    exact absurd h1 (by decide)
  have : 1 ≤ g'.length := List.length_pos_iff.mpr this
  rw [eg, List.length_append]
  show 2 ≤ g'.length + 1
  omega
theorem bad_less {g : List (Bool × Nat)} (G : Good13 g) : Bad13 ((g.map wl).drop 1) 0 := by
  obtain ⟨d1, c1⟩ := good_part G (h := g.drop 1) fun p hp => List.mem_of_mem_drop hp
  rw [← List.map_drop]
  have h2 := good_two G
  refine ⟨⟨_, d1, fb_less G.w G.e G.al G.ne⟩, fun e => ?_, c1, ?_⟩
  · have := congrArg List.length e
    rw [List.length_map, List.length_drop] at this
    have h0 : ([] : List (List Nat)).length = 0 := rfl
    omega
  · have := G.len
    rw [List.length_map, List.length_drop]
    omega
end Hr
/-! ### what told is asked -/
namespace Hr
open PySem PySem.Spec PyProof.Rows L2
theorem mem_joinL {c : Nat} : ∀ {ps : List (List Nat)}, c ∈ TL.joinL [32] ps → c = 32 ∨ ∃ p ∈ ps, c ∈ p
  | [], h => by cases h
  | [p], h => .inr ⟨p, List.mem_cons_self .., h⟩
  | p :: q :: r, h => by
    have h : c ∈ p ++ ([32] ++ TL.joinL [32] (q :: r)) := h
    rcases List.mem_append.mp h with h | h
    · exact .inr ⟨p, List.mem_cons_self .., h⟩
    · rcases List.mem_append.mp h with h | h
      · exact .inl (List.mem_singleton.mp h)
      · rcases mem_joinL h with h | ⟨x, hx, hc⟩
        · exact .inl h
        · exact .inr ⟨x, List.mem_cons_of_mem _ hx, hc⟩
theorem len_joinL : ∀ {ps : List (List Nat)}, (∀ p ∈ ps, p.length ≤ 10) → (TL.joinL [32] ps).length ≤ 11 * ps.length
  | [], _ => Nat.le_refl _
  | [p], h => by
    have := h p (List.mem_cons_self ..)
    show p.length ≤ 11
    omega
  | p :: q :: r, h => by
    have h1 := h p (List.mem_cons_self ..)
    have ih := len_joinL (ps := q :: r) fun x hx => h x (List.mem_cons_of_mem _ hx)
    show (p ++ ([32] ++ TL.joinL [32] (q :: r))).length ≤ 11 * ((q :: r).length + 1)
    rw [List.length_append, List.length_append]
    show p.length + (1 + _) ≤ _
    omega
theorem tl_words (ts : List (List Nat)) : TL.tl (Txt.join " " (ts.map mkS)) = TL.joinL [32] ts := by
  rw [TL.join_eq, TL.tl_join, show TL.tl (" " : Str) = [32] by decide +kernel, List.map_map]
  congr 1
  exact (List.map_congr_left fun t _ => mkS_tl t).trans (List.map_id ts)
theorem not_dash {ts : List (List Nat)} (h : ∀ x ∈ ts, Clean x) : Txt.join " " (ts.map mkS) ≠ "-" := fun e => by
  have e := congrArg TL.tl e
  rw [tl_words, show TL.tl ("-" : Str) = [45] by decide +kernel] at e
  have hm : 45 ∈ TL.joinL [32] ts := by
    rw [e]
    exact List.mem_cons_self ..
  rcases mem_joinL hm with h1 | ⟨x, hx, hc⟩
  · cases h1
  · exact ((h x hx).1 45 hc).2 rfl
theorem words_len {ts : List (List Nat)} (h : ∀ x ∈ ts, Clean x) : (Txt.join " " (ts.map mkS)).length ≤ 11 * ts.length := by
  rw [TL.len_tl, tl_words]
  exact len_joinL fun p hp => (h p hp).2
theorem sum_clean {ts : List (List Nat)} (h : ∀ x ∈ ts, Clean x) : ((ts.map mkS).map (·.length)).sum ≤ 10 * ts.length := by
  induction ts with
  | nil => exact Nat.le_refl _
  | cons t ts ih =>
    have h1 := ih fun x hx => h x (List.mem_cons_of_mem _ hx)
    have h2 := (h t (List.mem_cons_self ..)).2
    rw [List.map_cons, List.map_cons, List.sum_cons, List.length_cons, mkS_len]
    omega
theorem no_blank {ts : List (List Nat)} (h : ∀ x ∈ ts, Clean x) : ∀ t ∈ ts, 32 ∉ t := fun t ht hc => ((h t ht).1 32 hc).1 rfl
theorem rep_up {a : Nat} {r : List Bool} : ∀ (n : Nat), okb none a (List.replicate n true ++ r) = okb none (a + n) r
  | 0 => rfl
  | n + 1 => by
    show (under none a && okb none (a + 1) (List.replicate n true ++ r)) = okb none (a + (n + 1)) r
    rw [rep_up n]
    show (true && okb none (a + 1 + n) r) = _
    rw [Bool.true_and, show a + 1 + n = a + (n + 1) by omega]
theorem rep_down {r : List Bool} : ∀ (n a : Nat), n ≤ a → okb none a (List.replicate n false ++ r) = okb none (a - n) r
  | 0, a, _ => rfl
  | n + 1, a, h => by
    cases a with
    | zero => cases h
    | succ a =>
      show okb none (a + 1) (false :: (List.replicate n false ++ r)) = _
      have : okb none (a + 1) (false :: (List.replicate n false ++ r)) = okb none a (List.replicate n false ++ r) := rfl
      rw [this, rep_down n a (by omega), show a + 1 - (n + 1) = a - n by omega]
theorem first_up {l : List Bool} (h : okb none 0 l = true) : l = [] ∨ l[0]? = some true := by
  cases l with
  | nil => exact .inl rfl
  | cons b r =>
    cases b with
    | true => exact .inr rfl
    | false => exact absurd rfl (okb_down h).1
theorem good_row {l : List Bool} (h : okb none 0 l = true) (hl : l.length ≤ 400) (hne : l ≠ []) : Good13 (grp l) := by
  obtain ⟨w, e⟩ := walk_grp h
  refine ⟨alt_grp l, w, e, ?_, fun p hp => ?_, Nat.le_trans (grp_len l) hl⟩
  · cases l with
    | nil => exact absurd rfl hne
    | cons c r =>
      obtain ⟨n, g, e⟩ := grp_ne c r
      rw [e]
      simp
  · obtain ⟨i, hi⟩ := List.mem_iff_getElem?.mp hp
    have h1 := expd_len hi
    rw [expd_grp] at h1
    exact ⟨alt_pos (alt_grp l) hi, Nat.le_trans h1 hl⟩
/-- what row_of and told want to know of a text -/
structure AskedT (z : Str) (ts : List (List Nat)) (ds : List (Option (Bool × Nat))) : Prop where
  ez : z = Txt.join " " (ts.map mkS)
  nd : z ≠ "-"
  ne : ts ≠ []
  nb : ∀ t ∈ ts, 32 ∉ t
  d : Desc ts ds
  tl : ts.length ≤ 1000
  zl : z.length ≤ 100000
theorem asked_bad {ts : List (List Nat)} {k : Nat} (B : Bad13 ts k) : ∃ ds, AskedT (Txt.join " " (ts.map mkS)) ts ds ∧ fb 0 none 0 ds = some k := by
  obtain ⟨⟨ds, hd, hf⟩, ne, cl, len⟩ := B
  have := words_len cl
  exact ⟨ds, ⟨rfl, not_dash cl, ne, no_blank cl, hd, by omega, by omega⟩, hf⟩
theorem asked_good {l : List Bool} (h : okb none 0 l = true) (hl : l.length ≤ 400) (e : l ≠ []) : ∃ ts, AskedT (runsT l) ts ((grp l).map some) ∧ fb 0 none 0 ((grp l).map some) = none ∧ ∀ g, (grp l).map some = g.map some → expd g = l := by
  have G := good_row h hl e
  obtain ⟨hd, cl⟩ := good_part G (h := grp l) fun p hp => hp
  have er : runsT l = Txt.join " " (((grp l).map wl).map mkS) := by
    unfold runsT
    rw [if_neg e]
    congr 1
    rw [List.map_map]
    exact List.map_congr_left fun p _ => word_wl p
  have := words_len cl
  rw [List.length_map] at this
  have g1 := G.len
  refine ⟨(grp l).map wl, ⟨er, by rw [er]; exact not_dash cl, fun z => G.ne (List.map_eq_nil_iff.mp z), no_blank cl, hd, by rw [List.length_map]; omega, by rw [er]; omega⟩, fb_grp h, fun g eg => ?_⟩
  have : grp l = g := List.map_inj_right (fun _ _ z => Option.some.inj z) |>.mp eg
  rw [← this, expd_grp]
end Hr
/-! ### row_told asked, the word of its refusal -/
namespace Hr
open PySem PySem.Spec PyProof.Rows L2
/-- the j-th kind of refusal is due -/
inductive ToldBad : V → V → V → V → Nat → Prop where
  | n {n k i r : V} : flatV n = true → flatV k = true → flatV i = true → flatV r = true → (numB n 200 = false ∨ n = .int 0) → ToldBad n k i r 1
  | k {m : Nat} {k i r : V} : 1 ≤ m → m ≤ 200 → flatV k = true → flatV i = true → flatV r = true → numB k ((m : Int) - 1) = false → ToldBad (.int (m : Int)) k i r 1
  | i {m k : Nat} {i r : V} : k < m → m ≤ 200 → flatV i = true → flatV r = true → numB i (((cntc none k : Nat) : Int) - 1) = false → ToldBad (.int (m : Int)) (.int (k : Int)) i r 2
  | r {m k i : Nat} {r : V} : k < m → m ≤ 200 → i < cntc none k → flatV r = true → numB r (((cntc none (m - 1 - k) : Nat) : Int) - 1) = false → ToldBad (.int (m : Int)) (.int (k : Int)) (.int (i : Int)) r 2
section
variable {P : Program} {w : World} {K : PySem.W.Frag} {mg : Str → Option Value} {base : Heap} {cs : Nat → Addr}
def toldRow (m k i r : Nat) : List Bool := true :: (rowOf none k i ++ false :: rowOf none (m - 1 - k) r)
def ToldOk (m k i r : Nat) : Prop := k < m ∧ m ≤ 200 ∧ i < cntc none k ∧ r < cntc none (m - 1 - k)
def spRowTold (cs : Nat → Addr) : Sp := fun vs H Q E => ∃ n k i r : V, vs = [n, k, i, r] ∧ ((∃ j, ToldBad n k i r j ∧ ∀ H', Same H H' → E (.ref (cs j)) none H') ∨
  ∃ a b c d : Nat, n = .int (a : Int) ∧ k = .int (b : Int) ∧ i = .int (c : Int) ∧ r = .int (d : Int) ∧ ToldOk a b c d ∧ ∀ H', Same H H' → Q (.str (txt (toldRow a b c d))) H')
end
end Hr
/-! ### told by parts' ranks -/
namespace Hr
open PySem PySem.Spec PyProof.Rows L2
theorem scRankTold : FnScope ["row", "between", "behind"] ["row"] (defScope s_rank_told) := ⟨rfl, rfl, rfl, by decide +kernel, rfl, by decide +kernel, by decide +kernel⟩
theorem scRowTold : FnScope ["n", "k", "i", "r", "between", "behind"] ["n", "k", "i", "r"] (defScope s_row_told) := ⟨rfl, rfl, rfl, by decide +kernel, rfl, by decide +kernel, by decide +kernel⟩
/-- the four numbers of a row -/
def told4 (a b : Gv) : List Int := [(((Gv.tree a b).row.length / 2 : Nat) : Int), ((a.row.length / 2 : Nat) : Int), ((rk none (a.row.length / 2) a.row : Nat) : Int), ((rk none (b.row.length / 2) b.row : Nat) : Int)]
theorem gv_hill (g : Gv) : Hill none (g.row.length / 2) g.row := ⟨g.row_hill, okb_even g.row_hill⟩
theorem tree_half (a b : Gv) : (Gv.tree a b).row.length / 2 = a.row.length / 2 + b.row.length / 2 + 1 := by
  have h1 := (gv_hill a).2
  have h2 := (gv_hill b).2
  rw [tree_row, List.length_append, List.length_cons, List.length_append]
  have : ([false] : List Bool).length = 1 := rfl
  omega
section
variable {P : Program} {w : World} {K : PySem.W.Frag} {mg : Str → Option Value} {base : Heap} {CN CC CR : Addr} {cs : Nat → Addr}
def spRankToldX (CN : Addr) : Sp := fun vs H Q E => ∃ z : Str, vs = [.str z] ∧ z.length ≤ 400 ∧ (∀ a b : Gv, z = txt (Gv.tree a b).row → ∀ H' p, Same H H' → H p = none → H' p = some (.tup ((told4 a b).map V.int)) → Q (.ref p) H') ∧ ((z = txt [] ∨ hillB none z = false) → ∀ H', Same H H' → E (.ref CN) none H')
theorem cal_rankTold (D : Def K mg "rank_told" s_rank_told ["row"]) (C1 : Cal K mg (L2.CX P w) P w base 6 "cut" [] (spCutX CN)) (C2 : Cal K mg (L2.CX P w) P w base 5 "rank" [.non] (spRankX CC CN)) (m_len : mg "len" = none) : Cal K mg (L2.CX P w) P w base 7 "rank_told" [] (spRankToldX CN) := by
  refine D.calX scRankTold (fun vs H Q E h => ?_) (fun f cdv A outer s H vs Q E hr h => ?_)
  · obtain ⟨z, rfl, _⟩ := h
    rfl
  · obtain ⟨z, rfl, hz, q, qe⟩ := h
    have nd := scRankTold.nd
    refine ⟨_, pss_cons (ps_asg (pe_cX C1 hr (takes_of rfl rfl rfl rfl) (pa_cons (pv 0) pa_nil)) (pg_tup (by rfl) (pgs_cons (pg_name (i := 1) nd rfl (.inl rfl)) (pgs_cons (pg_name (i := 2) nd rfl (.inl rfl)) pgs_nil))))
      (pss_one (ps_ret (pe_tup (pa_cons (pe_op op_fdiv (pe_callB call_len_str (by rfl) m_len PySem.boot_len (pa_cons (pv 0) pa_nil)) pe_int) (pa_cons (pe_op op_fdiv (pe_callB call_len_str (by rfl) m_len PySem.boot_len (pa_cons (pv 1) pa_nil)) pe_int)
        (pa_cons (pe_cX C2 hr (takes_of rfl rfl rfl rfl) (pa_cons (pv 1) pa_nil)) (pa_cons (pe_cX C2 hr (takes_of rfl rfl rfl rfl) (pa_cons (pv 2) pa_nil)) pa_nil))))))), ?_⟩
    refine ⟨.str z, rfl, z, rfl, by omega, fun a b hab H1 p s1 np ep => ?_, fun hb => qe hb⟩
    subst hab
    have hl := tree_half a b
    have e0 := (gv_hill (Gv.tree a b)).2
    have e1 := (gv_hill a).2
    have e2 := (gv_hill b).2
    have zl : (txt (Gv.tree a b).row).length = (Gv.tree a b).row.length := txt_len _
    have rank_of : ∀ (g : Gv) (H1 : Hp) (R : VK), g.row.length / 2 ≤ 200 → (∀ H', Same H1 H' → R (.int ((rk none (g.row.length / 2) g.row : Nat) : Int)) H') → spRankX CC CN [.str (txt g.row), .non] H1 R E := fun g H1 R hn k => by
      have hg := (gv_hill g).2
      refine ⟨txt g.row, .non, rfl, rfl, by rw [txt_len]; omega, ⟨fun e => absurd e (by decide), fun c ec _ hf => ?_⟩, fun c ec hc hh => ?_⟩
      · have : c = none := by
          cases c with
          | none => rfl
          | some k => cases ec
        subst this
        exact absurd ((row_hillB g.row_hill).symm.trans hf) (by decide)
      · have ec2 : c = none := by
          cases c with
          | none => rfl
          | some k => cases ec
        subst ec2
        exact ⟨g.row, none, g.row.length / 2, rfl, trivial, gv_hill g, hn, k⟩
    refine ⟨p, _, rfl, .inl (.inl ep), rfl, _, _, rfl, _, _, rfl, rfl, ?_⟩
    refine ⟨_, rfl, txt (Gv.tree a b).row, rfl, sz (by omega), _, 2, rfl, rfl, ⟨by decide, by decide⟩, _, rfl, txt a.row, rfl, sz (by rw [txt_len]; omega), _, 2, rfl, rfl, ⟨by decide, by decide⟩, ?_⟩
    refine ⟨_, rfl, rank_of a H1 _ (by omega) fun H2 s2 => ?_⟩
    refine ⟨_, rfl, rank_of b H2 _ (by omega) fun H3 s3 => ?_⟩
    refine ⟨sz (show 4 ≤ 1000000 by decide), fun t nt => ?_⟩
    have s4 := (s1.trans s2).trans s3
    refine q a b rfl _ t (s4.trans (same_upd nt)) (s4.free nt) ?_
    rw [upd_same]
    show some (HO.tup [V.int (((txt (Gv.tree a b).row).length : Int) / 2), V.int (((txt a.row).length : Int) / 2), _, _]) = _
    rw [txt_len, txt_len, show ((Gv.tree a b).row.length : Int) / 2 = (((Gv.tree a b).row.length / 2 : Nat) : Int) by omega, show (a.row.length : Int) / 2 = ((a.row.length / 2 : Nat) : Int) by omega]
    rfl
theorem num1 {n : V} (h : numB n 200 = false ∨ n = .int 0) : numL n 1 200 = false := by
  rcases h with h | rfl
  · cases n with
    | int i =>
      have : ¬ (0 ≤ i ∧ i ≤ 200) := of_decide_eq_false h
      exact decide_eq_false (by omega)
    | _ => rfl
  · decide
theorem cal_rowTold (D : Def K mg "row_told" s_row_told ["n", "k", "i", "r"]) (C0 : Cal K mg (L2.CX P w) P w base 2 "check_number" [] (spChNumL (cs 1))) (C1 : Cal K mg (L2.CX P w) P w base 2 "check_number" [.int 0] (spChNumL (cs 1))) (C2 : Cal K mg (L2.CX P w) P w base 4 "row_at" [.non] (spRowAtX (cs 1) (cs 2))) (C3 : Cal K mg (L2.CX P w) P w base 5 "lifted" [.int 1] (spLiftedX (cs 0) (cs 1)))
    {t1 : Tok} (gM : mg "MOST_UPS" = some (.int 200 t1)) : Cal K mg (L2.CX P w) P w base 6 "row_told" [] (spRowTold cs) := by
  refine D.calX scRowTold (fun vs H Q E h => ?_) (fun f cdv A outer s H vs Q E hr h => ?_)
  · obtain ⟨n, k, i, r, rfl, _⟩ := h
    rfl
  · obtain ⟨n, k, i, r, rfl, h⟩ := h
    have nd := scRowTold.nd
    refine ⟨_, pss_cons (ps_expr (pe_cX C0 hr (takes_of rfl rfl rfl rfl) (pa_cons (pv 0) (pa_cons (pe_glob (v := .int 200) (by rfl) gM ⟨_, rfl⟩) (pa_cons pe_int pa_nil)))))
      (pss_cons (ps_expr (pe_cX C1 hr (takes_of rfl rfl rfl rfl) (pa_cons (pv 1) (pa_cons (pe_op op_sub (pv 0) pe_int) pa_nil))))
      (pss_cons (ps_set (i := 4) nd rfl (.inl rfl) (pe_cX C2 hr (takes_of rfl rfl rfl rfl) (pa_cons (pv 1) (pa_cons (pv 2) pa_nil))))
      (pss_cons (ps_set (i := 5) nd rfl (.inl rfl) (pe_cX C2 hr (takes_of rfl rfl rfl rfl) (pa_cons (pe_op op_sub (pe_op op_sub (pv 0) pe_int) (pv 1)) (pa_cons (pv 3) pa_nil))))
      (pss_one (ps_ret (pe_op op_add_str (pe_cX C3 hr (takes_of rfl rfl rfl rfl) (pa_cons (pv 4) pa_nil)) (pv 5))))))), ?_⟩
    -- a good n and k
    have kk : ∀ (m b : Nat), 1 ≤ m → m ≤ 200 → b < m → numL (V.int (m : Int)) 1 200 = true ∧ numL (V.int (b : Int)) 0 ((m : Int) - 1) = true := fun m b h1 h2 h3 => ⟨decide_eq_true (by omega), decide_eq_true (by omega)⟩
    have no : ∀ {b : Bool} {X : Prop}, b = true → b = false → X := fun {b} {X} h1 h2 => absurd (h1.symm.trans h2) (by decide)
    have nn : ∀ {c : Option Nat}, V.non = cV c → c = none := fun {c} ec => by
      cases c with
      | none => rfl
      | some k => cases ec
    have ii : ∀ {x y : Nat}, V.int (x : Int) = .int (y : Int) → y = x := fun {x y} h => by
      have := V.int.inj h
      omega
    have re_bad : ∀ (k : Nat) (v : V) (H1 : Hp), k ≤ 200 → (∀ H', Same H1 H' → E (.ref (cs 2)) none H') → RefuseAt (cs 1) (cs 2) (.int (k : Int)) v .non H1 E := fun k v H1 hk e => by
      refine ⟨fun hx => ?_, fun n c en ec hn hc hf H' s' => e H' s'⟩
      rcases hx with hx | hx
      · rw [numB_nat (by omega)] at hx
        cases hx
      · cases hx
    have re_ok : ∀ (k j : Nat) (H1 : Hp), k ≤ 200 → j < cntc none k → RefuseAt (cs 1) (cs 2) (.int (k : Int)) (.int (j : Int)) .non H1 E := fun k j H1 hk hj => by
      refine ⟨fun hx => ?_, fun n c en ec hn hc hf => ?_⟩
      · rcases hx with hx | hx
        · rw [numB_nat (by omega)] at hx
          cases hx
        · cases hx
      · rw [ii en, nn ec, numB_nat (by omega)] at hf
        cases hf
    have bad_no : ∀ (k : Nat) (v : V), numB v (((cntc none k : Nat) : Int) - 1) = false → ∀ (n x : Nat) (c : Option Nat), V.int (k : Int) = .int (n : Int) → v = .int (x : Int) → V.non = cV c → x < cntc c n → False := fun k v hb n x c en er ec hx => by
      rw [nn ec, ii en] at hx
      rw [er, numB_nat (by omega)] at hb
      cases hb
    rcases h with ⟨j, bad, qe⟩ | ⟨a, b, c, d, rfl, rfl, rfl, rfl, ok, q⟩
    · cases bad with
      | n f1 f2 f3 f4 hb =>
        refine ⟨_, rfl, _, _, _, rfl, f1, by omega, by omega, fun hg => no hg (num1 hb), fun _ => qe H (fun _ _ h => h)⟩
      | @k m _ _ _ h1 h2 f1 f2 f3 hb =>
        refine ⟨_, rfl, _, _, _, rfl, rfl, by omega, by omega, fun _ => ?_, fun hf => no (kk m 0 h1 h2 (by omega)).1 hf⟩
        refine ⟨_, rfl, _, rfl, _, _, rfl, rfl, _, _, _, rfl, f1, by omega, by omega, fun hg => no hg hb, fun _ => qe H (fun _ _ h => h)⟩
      | @i m k i r h1 h2 f1 f2 hb =>
        refine ⟨_, rfl, _, _, _, rfl, rfl, by omega, by omega, fun _ => ?_, fun hf => no (kk m k (by omega) h2 h1).1 hf⟩
        refine ⟨_, rfl, _, rfl, _, _, rfl, rfl, _, _, _, rfl, rfl, by omega, by omega, fun _ => ?_, fun hf => no (kk m k (by omega) h2 h1).2 hf⟩
        exact ⟨_, rfl, _, rfl, _, _, _, rfl, rfl, f1, rfl, re_bad k _ H (by omega) qe, fun n x c e1 e2 e3 _ _ h3 => (bad_no k _ hb n x c e1 e2 e3 h3).elim⟩
      | @r m k i r h1 h2 h3 f1 hb =>
        refine ⟨_, rfl, _, _, _, rfl, rfl, by omega, by omega, fun _ => ?_, fun hf => no (kk m k (by omega) h2 h1).1 hf⟩
        refine ⟨_, rfl, _, rfl, _, _, rfl, rfl, _, _, _, rfl, rfl, by omega, by omega, fun _ => ?_, fun hf => no (kk m k (by omega) h2 h1).2 hf⟩
        refine ⟨_, rfl, _, rfl, _, _, _, rfl, rfl, rfl, rfl, re_ok k i H (by omega) h3, fun n' x' c' e1 e2 e3 _ _ _ H1 s1 => ?_⟩
        rw [ii e1, ii e2, nn e3]
        refine ⟨_, rfl, _, _, rfl, rfl, _, rfl, _, _, rfl, rfl, _, rfl, ?_⟩
        have em : (m : Int) - 1 - (k : Int) = ((m - 1 - k : Nat) : Int) := by omega
        exact ⟨.int ((m - 1 - k : Nat) : Int), r, .non, (by
          show [V.int ((m : Int) - 1 - (k : Int)), r, V.non] = _
          rw [em]), rfl, f1, rfl, re_bad (m - 1 - k) _ H1 (by omega) fun H2 s2 => qe H2 (s1.trans s2), fun n x c e1 e2 e3 _ _ h3 => (bad_no (m - 1 - k) _ hb n x c e1 e2 e3 h3).elim⟩
    · obtain ⟨hba, ha, hc, hd⟩ := ok
      refine ⟨_, rfl, _, _, _, rfl, rfl, by omega, by omega, fun _ => ?_, fun hf => no (kk a b (by omega) ha hba).1 hf⟩
      refine ⟨_, rfl, _, rfl, _, _, rfl, rfl, _, _, _, rfl, rfl, by omega, by omega, fun _ => ?_, fun hf => no (kk a b (by omega) ha hba).2 hf⟩
      refine ⟨_, rfl, _, rfl, _, _, _, rfl, rfl, rfl, rfl, re_ok b c H (by omega) hc, fun n' x' c' e1 e2 e3 _ _ _ H1 s1 => ?_⟩
      rw [ii e1, ii e2, nn e3]
      refine ⟨_, rfl, _, _, rfl, rfl, _, rfl, _, _, rfl, rfl, _, rfl, ?_⟩
      have em : (a : Int) - 1 - (b : Int) = ((a - 1 - b : Nat) : Int) := by omega
      refine ⟨.int ((a - 1 - b : Nat) : Int), .int (d : Int), .non, (by
          show [V.int ((a : Int) - 1 - (b : Int)), V.int (d : Int), V.non] = _
          rw [em]), rfl, rfl, rfl, re_ok (a - 1 - b) d H1 (by omega) hd, fun n' x' c' e1 e2 e3 _ _ _ H2 s2 => ?_⟩
      rw [ii e1, ii e2, nn e3]
      have h1 := rowOf_hill hc
      have h2 := rowOf_hill hd
      have z1 : (txt (rowOf none b c)).length = 2 * b := by rw [txt_len, h1.2]
      have z2 : (txt (rowOf none (a - 1 - b) d)).length = 2 * (a - 1 - b) := by rw [txt_len, h2.2]
      refine ⟨_, rfl, _, _, rfl, rfl, by omega, fun _ k hk _ H3 s3 => ?_, fun e => no (row_hillB h1.1) e, fun _ e => absurd e (by decide)⟩
      have : k = 1 := by
        have := V.int.inj hk
        omega
      subst this
      have lx : ∀ (j : Nat) (b : Bool), (txt (List.replicate j b)).length = j := fun j b => by rw [txt_len, List.length_replicate]
      refine ⟨_, rfl, _, _, rfl, rfl, sz (by rw [PySem.Str.length_append, PySem.Str.length_append, lx, lx]; omega), ?_⟩
      have et : txt (List.replicate 1 true) ++ txt (rowOf none b c) ++ txt (List.replicate 1 false) ++ txt (rowOf none (a - 1 - b) d) = txt (toldRow a b c d) := by
        rw [txt_append, txt_append, txt_append]
        unfold toldRow
        congr 1
        show [true] ++ rowOf none b c ++ [false] ++ rowOf none (a - 1 - b) d = _
        rw [List.append_assoc, List.append_assoc]
        rfl
      show Q (.str (txt (List.replicate 1 true) ++ txt (rowOf none b c) ++ txt (List.replicate 1 false) ++ txt (rowOf none (a - 1 - b) d))) H3
      rw [et]
      exact q H3 ((s1.trans s2).trans s3)
end
end Hr
/-! ### next and ahead, with what they tell -/
namespace Hr
open PySem PySem.Spec PyProof.Rows L2
theorem scNext : FnScope ["row", "ceiling"] ["row", "ceiling"] (defScope sNext) := ⟨rfl, rfl, rfl, by decide +kernel, rfl, by decide +kernel, by decide +kernel⟩
theorem scAhead : FnScope ["row", "ceiling"] ["row", "ceiling"] (defScope sAhead) := ⟨rfl, rfl, rfl, by decide +kernel, rfl, by decide +kernel, by decide +kernel⟩
theorem scBeside : FnScope ["row", "ceiling", "step", "table", "r"] ["row", "ceiling", "step"] (defScope sBeside) := ⟨rfl, rfl, rfl, by decide +kernel, rfl, by decide +kernel, by decide +kernel⟩
section
variable {P : Program} {w : World} {K : PySem.W.Frag} {mg : Str → Option Value} {base : Heap} {CC CN CR CP : Addr}
def besideV (c : Option Nat) (n : Nat) (x : Int) : V := if 0 ≤ x ∧ x < ((cntc c n : Nat) : Int) then .str (txt (rowOf c n x.toNat)) else .non
def spBeside : Sp := fun vs H Q _ => ∃ (l : List Bool) (c : Option Nat) (n : Nat) (st : Int), vs = [.str (txt l), cV c, .int st] ∧ cOk 200 c ∧ Hill c n l ∧ n ≤ 200 ∧ ∀ H', Same H H' → Q (besideV c n (((rk c n l : Nat) : Int) + st)) H'
theorem cal_beside14 (D : Def K mg "row_beside" sBeside ["row", "ceiling", "step"]) (C1 : Cal K mg (L2.CX P w) P w base 3 "check_ceiling" [] (spChCeiX CC)) (C2 : Cal K mg (L2.CX P w) P w base 4 "check_hill" [] (spChHillX CN)) (C3 : Cal K mg CX0 P w base 3 "hill_table" [] spHill) (C4 : Cal K mg CX0 P w base 2 "number_of" [] spNumOf)
    (C5 : Cal K mg CX0 P w base 1 "is_number" [.int 0] spIsNumV) (C6 : Cal K mg CX0 P w base 2 "row_of_number" [] spOfNum) (C7 : Cal K mg CX0 P w base 1 "row_count" [] spCount) (mlen : mg "len" = none) : Cal K mg (L2.CX P w) P w base 5 "row_beside" [] spBeside := by
  refine D.calX scBeside (fun vs H Q E h => ?_) (fun f cdv A outer s H vs Q E hr h => ?_)
  · obtain ⟨l, c, n, st, rfl, _⟩ := h
    rfl
  · obtain ⟨l, c, n, st, rfl, hc, hh, hn, q⟩ := h
    have nd := scBeside.nd
    refine ⟨_, pss_cons (ps_expr (pe_cX C1 hr (takes_of rfl rfl rfl rfl) (pa_cons (pv 1) pa_nil))) (pss_cons (ps_expr (pe_cX C2 hr (takes_of rfl rfl rfl rfl) (pa_cons (pv 0) (pa_cons (pv 1) pa_nil))))
      (pss_cons (ps_set (i := 3) nd rfl (.inl rfl) (pe_c C3 hr (pa_cons (pe_op op_fdiv (pe_callB call_len_str (by rfl) mlen PySem.boot_len (pa_cons (pv 0) pa_nil)) pe_int) (pa_cons (pv 1) pa_nil))))
      (pss_cons (ps_set (i := 4) nd rfl (.inl rfl) (pe_op op_add (pe_c C4 hr (pa_cons (pv 0) (pa_cons (pv 3) pa_nil))) (pv 2)))
      (pss_cons (ps_if (pt_not (pt_val (pe_c C5 hr (pa_cons (pv 4) (pa_cons (pe_op op_sub (pe_c C7 hr (pa_cons (pv 3) pa_nil)) pe_int) pa_nil))))) (pss_one (ps_ret pe_non)) pss_nil)
      (pss_one (ps_ret (pe_c C6 hr (pa_cons (pv 4) (pa_cons (pv 3) pa_nil))))))))), ?_⟩
    have hz : (txt l).length = 2 * n := by rw [txt_len, hh.2]
    refine ⟨cV c, rfl, cV c, rfl, flat_cV c, fun _ => ?_, fun e => absurd ((ceilB_cV hc).symm.trans e) (by decide)⟩
    refine ⟨.str (txt l), rfl, cV c, rfl, txt l, c, rfl, by rw [hz]; omega, fun _ H1 s1 => ?_, fun e => absurd (((hillB_txt c l).trans hh.1).symm.trans e) (by decide)⟩
    refine ⟨.str (txt l), rfl, txt l, rfl, sz (by rw [hz]; omega), _, 2, rfl, rfl, ⟨by decide, by decide⟩, cV c, rfl, n, c, args_ic (half_len n hz), by omega, fun H2 p s2 np tb => ?_⟩
    have tb' := tb
    rw [← hh.2] at tb'
    refine ⟨.str (txt l), rfl, .ref p, rfl, l, p, low n c, rfl, tb', hh.low, by rw [hh.2]; omega, .int st, rfl, _, st, rfl, rfl, ?_⟩
    have sm := s1.trans s2
    refine ⟨_, rfl, .ref p, rfl, p, 2 * n, low n c, rfl, tb, _, 1, rfl, rfl, _, _, rfl, rfl, _, rfl, ?_⟩
    have qq := q
    unfold besideV at qq
    by_cases hb : 0 ≤ ((rk c n l : Nat) : Int) + st ∧ ((rk c n l : Nat) : Int) + st < ((cntc c n : Nat) : Int)
    · rw [show numB (.int (((rankOf (low n c) 0 l : Nat) : Int) + st)) (((W (low n c) (2 * n) 0 : Nat) : Int) - 1) = true from decide_eq_true ⟨hb.1, by have := hb.2; unfold rk cntc at this; omega⟩]
      refine iteF ?_
      have hx : ((((rk c n l : Nat) : Int) + st).toNat : Int) = ((rk c n l : Nat) : Int) + st := Int.toNat_of_nonneg hb.1
      refine ⟨_, rfl, .ref p, rfl, (((rk c n l : Nat) : Int) + st).toNat, 2 * n, low n c, p, ?_, tb, ?_, by omega, fun H3 s3 => ?_⟩
      · rw [hx]
        rfl
      · have := hb.2
        show (((rk c n l : Nat) : Int) + st).toNat < cntc c n
        omega
      · have := qq H3 (sm.trans s3)
        rw [if_pos hb] at this
        exact this
    · rw [show numB (.int (((rankOf (low n c) 0 l : Nat) : Int) + st)) (((W (low n c) (2 * n) 0 : Nat) : Int) - 1) = false from decide_eq_false fun z => hb ⟨z.1, by have := z.2; unfold rk cntc; omega⟩]
      refine iteT ?_
      have := qq H2 sm
      rw [if_neg hb] at this
      exact this
def spNext : Sp := fun vs H Q _ => ∃ (l : List Bool) (c : Option Nat) (n : Nat), vs = [.str (txt l), cV c] ∧ cOk 200 c ∧ Hill c n l ∧ n ≤ 200 ∧ ∀ H', Same H H' → Q (nextV c n l) H'
theorem cal_next14 (D : DefD K mg "next_row" sNext ["row", "ceiling"]) (C : Cal K mg (L2.CX P w) P w base 5 "row_beside" [] spBeside) : Cal K mg (L2.CX P w) P w base 6 "next_row" [] spNext ∧ Cal K mg (L2.CX P w) P w base 6 "next_row" [.non] spNext := by
  refine D.okX scNext (fun vs H Q E h => ?_) (fun f cdv A outer s H vs Q E hr h => ?_)
  · obtain ⟨l, c, n, rfl, _⟩ := h
    rfl
  · obtain ⟨l, c, n, rfl, hc, hh, hn, q⟩ := h
    refine ⟨_, pss_one (ps_ret (pe_cX C hr (takes_of rfl rfl rfl rfl) (pa_cons (pv 0) (pa_cons (pv 1) (pa_cons pe_int pa_nil))))), ?_⟩
    refine ⟨.str (txt l), rfl, cV c, rfl, l, c, n, 1, rfl, hc, hh, hn, fun H1 s1 => ?_⟩
    have e : besideV c n (((rk c n l : Nat) : Int) + 1) = nextV c n l := by
      unfold besideV nextV
      by_cases hb : rk c n l + 1 < cntc c n
      · rw [if_pos hb, if_pos (by omega), show (((rk c n l : Nat) : Int) + 1).toNat = rk c n l + 1 by omega]
      · rw [if_neg hb, if_neg (by omega)]
    rw [e]
    exact q H1 s1
def spAhead : Sp := fun vs H Q _ => ∃ (l : List Bool) (c : Option Nat) (n : Nat), vs = [.str (txt l), cV c] ∧ cOk 200 c ∧ Hill c n l ∧ n ≤ 200 ∧ ∀ H', Same H H' → Q (aheadV c n l) H'
theorem cal_ahead14 (D : DefD K mg "ahead_row" sAhead ["row", "ceiling"]) (C : Cal K mg (L2.CX P w) P w base 5 "row_beside" [] spBeside) : Cal K mg (L2.CX P w) P w base 6 "ahead_row" [] spAhead ∧ Cal K mg (L2.CX P w) P w base 6 "ahead_row" [.non] spAhead := by
  refine D.okX scAhead (fun vs H Q E h => ?_) (fun f cdv A outer s H vs Q E hr h => ?_)
  · obtain ⟨l, c, n, rfl, _⟩ := h
    rfl
  · obtain ⟨l, c, n, rfl, hc, hh, hn, q⟩ := h
    refine ⟨_, pss_one (ps_ret (pe_cX C hr (takes_of rfl rfl rfl rfl) (pa_cons (pv 0) (pa_cons (pv 1) (pa_cons (pe_un un_neg pe_int) pa_nil))))), ?_⟩
    refine ⟨.str (txt l), rfl, cV c, rfl, 1, rfl, l, c, n, -1, rfl, hc, hh, hn, fun H1 s1 => ?_⟩
    have hlt := hh.rk_lt
    have e : besideV c n (((rk c n l : Nat) : Int) + -1) = aheadV c n l := by
      unfold besideV aheadV
      by_cases hb : 0 < rk c n l
      · rw [if_pos hb, if_pos (by omega), show (((rk c n l : Nat) : Int) + -1).toNat = rk c n l - 1 by omega]
      · rw [if_neg hb, if_neg (by omega)]
    rw [e]
    exact q H1 s1
end
end Hr
/-! ### what the functions promise of hill rows alone -/
namespace Hr
open PySem PySem.Spec PyProof.Rows L2
theorem no_hill {l : List Bool} {p : Prop} (h : okb none 0 l = true) (e : hillB none (txt l) = false) : p := absurd ((row_hillB h).symm.trans e) (by decide)
theorem cV_none {c : Option Nat} (h : V.non = cV c) : c = none := by
  cases c with
  | none => rfl
  | some k => cases h
theorem told_row14 (a b : Gv) : toldRow ((Gv.tree a b).row.length / 2) (a.row.length / 2) (rk none (a.row.length / 2) a.row) (rk none (b.row.length / 2) b.row) = (Gv.tree a b).row := by
  unfold toldRow
  have e := tree_half a b
  rw [(gv_hill a).back, show (Gv.tree a b).row.length / 2 - 1 - a.row.length / 2 = b.row.length / 2 by omega, (gv_hill b).back]
  rfl
theorem hills_ok_len (g : Gv) : ∀ x ∈ hillsOf g, x.length ≤ g.row.length := fun x hx => by
  rw [← hills_flat g]
  exact (List.sublist_flatten_of_mem hx).length_le
theorem flat_ok : ∀ {ls : List (List Bool)}, (∀ l ∈ ls, okb none 0 l = true) → okb none 0 ls.flatten = true
  | [], _ => rfl
  | l :: ls, h => by
    rw [List.flatten_cons, hill_ext (h l (List.mem_cons_self ..))]
    exact flat_ok fun x hx => h x (List.mem_cons_of_mem _ hx)
theorem flat_rev_len (ls : List (List Bool)) : ls.reverse.flatten.length = ls.flatten.length := by
  induction ls with
  | nil => rfl
  | cons l ls ih =>
    have e : ([l] : List (List Bool)).flatten = l := List.append_nil l
    rw [List.reverse_cons, List.flatten_append, List.length_append, ih, e, List.flatten_cons, List.length_append]
    omega
section
variable {P : Program} {w : World} {K : PySem.W.Frag} {mg : Str → Option Value} {base : Heap} {CC CN CR CP CT : Addr} {CX : CXT} {dvs : List V} {cs : Nat → Addr} {k : Nat}
theorem rankG {x : Str} (C : Cal K mg CX P w base k x dvs (spRankX CC CN)) : Cal K mg CX P w base k x dvs spRank := C.imp fun vs H Q E ⟨l, c, n, e, hc, hh, hn, q⟩ =>
  ⟨txt l, cV c, e, flat_cV c, by rw [txt_len, hh.2]; omega, ⟨fun z => absurd ((ceilB_cV hc).symm.trans z) (by decide), fun c' e' _ hb => by
    have hb1 : hillB c (txt l) = true := (hillB_txt c l).trans hh.1
    have : c = c' := by
      cases c <;> cases c' <;> first | rfl | (cases e'; done) | (have := V.int.inj e'; congr 1; omega)
    rw [this, hb] at hb1
    cases hb1⟩, fun c' e' _ _ => ⟨l, c, n, rfl, hc, hh, hn, q⟩⟩
def spRowAtG : Sp := fun vs H Q _ => ∃ n r : Nat, vs = [.int (n : Int), .int (r : Int), .non] ∧ n ≤ 200 ∧ r < cntc none n ∧ ∀ H', Same H H' → Q (.str (txt (rowOf none n r))) H'
theorem rowAtG {x : Str} (C : Cal K mg CX P w base k x dvs (spRowAtX CC CR)) : Cal K mg CX P w base k x dvs spRowAtG := C.imp fun vs H Q E ⟨n, r, e, hn, hr, q⟩ =>
  ⟨_, _, _, e, rfl, rfl, rfl, ⟨fun z => z.elim (fun z => absurd ((numB_nat (n := n) (m := 200) (by omega)).symm.trans z) (by decide)) (fun z => absurd z (by decide)), fun n' c e1 e2 _ _ hb => by
    have e1 : n = n' := by have := V.int.inj e1; omega
    have e2 := cV_none e2
    subst e1 e2
    rw [numB_nat (by omega)] at hb
    cases hb⟩, fun n' r' c e1 e2 e3 _ _ _ => by
    have e1 : n = n' := by have := V.int.inj e1; omega
    have e2 : r = r' := by have := V.int.inj e2; omega
    have e3 := cV_none e3
    subst e1 e2 e3
    exact q⟩
def spHeightsG : Sp := fun vs H Q _ => ∃ l : List Bool, vs = [.str (txt l)] ∧ l.length ≤ 1000 ∧ ∀ H' p zs, Same H H' → zs.length = l.length + 1 → H' p = some (.lst zs) → Q (.ref p) H'
theorem heightsG {x : Str} (C : Cal K mg CX P w base k x dvs (spHeightsX CN)) : Cal K mg CX P w base k x dvs spHeightsG := C.imp fun vs H Q E ⟨l, e, hl, q⟩ =>
  ⟨txt l, e, by rw [txt_len]; exact hl, fun _ H' p s _ ep => q H' p _ s (by rw [List.length_map, hts_len, signs_txt]) ep, fun z => absurd ((isRowB_txt l).symm.trans z) (by decide)⟩
def spLiftG : Sp := fun vs H Q _ => ∃ (l : List Bool) (j : Nat), vs = [.str (txt l), .int (j : Int)] ∧ okb none 0 l = true ∧ l.length ≤ 1000 ∧ j ≤ 200 ∧ ∀ H', Same H H' → Q (.str (txt (List.replicate j true ++ l ++ List.replicate j false))) H'
theorem liftG {x : Str} (C : Cal K mg CX P w base k x dvs (spLiftedX CN CC)) : Cal K mg CX P w base k x dvs spLiftG := C.imp fun vs H Q E ⟨l, j, e, ok, hl, hj, q⟩ =>
  ⟨txt l, _, e, rfl, by rw [txt_len]; exact hl, fun _ j' e' _ H' s => by
    have e' : j = j' := by have := V.int.inj e'; omega
    subst e'
    rw [txt_append, txt_append]
    exact q H' s, fun z => no_hill ok z, fun _ z => absurd ((numB_nat (n := j) (m := 200) (by omega)).symm.trans z) (by decide)⟩
def spJoinG (K : PySem.W.Frag) : Sp := fun vs H Q _ => ∃ (a : Addr) (ls : List (List Bool)), vs = [.ref a] ∧ SqL K H a (rowsV ls) ∧ ls.length ≤ 1000 ∧ (∀ l ∈ ls, okb none 0 l = true ∧ l.length ≤ 1000) ∧ ∀ H', Same H H' → Q (.str (txt ls.flatten)) H'
theorem joinG {x : Str} (C : Cal K mg CX P w base k x dvs (spJoinedX K CN)) : Cal K mg CX P w base k x dvs (spJoinG K) := C.imp fun vs H Q E ⟨a, ls, e, hS, hn, hl, q⟩ =>
  ⟨a, ls.map txt, e, by rw [← rowsV_strs]; exact hS, by rw [List.length_map]; exact hn, fun z hz => by
    obtain ⟨l, hm, rfl⟩ := List.mem_map.mp hz
    rw [txt_len]
    exact (hl l hm).2, fun _ H' s => by
    rw [join_txts]
    exact q H' s, fun ⟨z, hz, hb⟩ => by
    obtain ⟨l, hm, rfl⟩ := List.mem_map.mp hz
    exact no_hill (hl l hm).1 hb⟩
def spMirG : Sp := fun vs H Q _ => ∃ l : List Bool, vs = [.str (txt l)] ∧ okb none 0 l = true ∧ l.length ≤ 1000 ∧ ∀ H', Same H H' → Q (.str (txt (mir l))) H'
theorem mirG {x : Str} (C : Cal K mg CX P w base k x dvs (spMirX CN)) : Cal K mg CX P w base k x dvs spMirG := C.imp fun vs H Q E ⟨l, e, ok, hl, q⟩ =>
  ⟨txt l, e, by rw [txt_len]; exact hl, fun l' e' _ => by
    rw [← txt_inj e']
    exact q, fun z => no_hill ok z⟩
def spFoldG : Sp := fun vs H Q _ => ∃ g : Gv, vs = [.str (txt g.row)] ∧ g.row.length ≤ 1000 ∧ ∀ H' p ws, Same H H' → TreesIn H' g ws → H' p = some (.tup ws) → Q (.ref p) H'
theorem foldG {x : Str} (C : Cal K mg CX P w base k x dvs (spFolded CN)) : Cal K mg CX P w base k x dvs spFoldG := C.imp fun vs H Q E ⟨g, e, hl, q⟩ =>
  ⟨txt g.row, e, by rw [txt_len]; exact hl, fun g' e' H' s p ws ht hp => by
    have e' : g = g' := Gv.row_inj (txt_inj e')
    subst e'
    exact q H' p ws s ht hp, fun z => no_hill g.row_hill z⟩
def spUnfG : Sp := fun vs H Q _ => ∃ (p : Addr) (ws : List V) (g : Gv), vs = [.ref p] ∧ H p = some (.tup ws) ∧ TreesIn H g ws ∧ g.row.length ≤ 1000 ∧ ∀ H', Same H H' → Q (.str (txt g.row)) H'
theorem unfG {x : Str} (C : Cal K mg CX P w base k x dvs (spUnf CT)) : Cal K mg CX P w base k x dvs spUnfG := C.imp fun vs H Q E ⟨p, ws, g, e, hp, ht, hl, q⟩ =>
  ⟨_, e, .inl ⟨p, ws, g.x, rfl, hp, ht.x, by have := g.x_nodes; omega, fun _ H' s => by
    rw [Gv.x_row]
    exact q H' s, fun z => absurd (g.x_good.symm.trans z) (by decide)⟩⟩
def spPairsG : Sp := fun vs H Q _ => ∃ l : List Bool, vs = [.str (txt l)] ∧ okb none 0 l = true ∧ l.length ≤ 1000 ∧ ∀ H' p ps, Same H H' → PairsOf l ps → H' p = some (.lst (ps.map V.int)) → Q (.ref p) H'
theorem pairsG {x : Str} (C : Cal K mg CX P w base k x dvs (spPairsX CN)) : Cal K mg CX P w base k x dvs spPairsG := C.imp fun vs H Q E ⟨l, e, ok, hl, q⟩ =>
  ⟨txt l, e, by rw [txt_len]; exact hl, fun l' e' _ H' p ps s _ h hp => by
    rw [← txt_inj e'] at h
    exact q H' p ps s h hp, fun z => no_hill ok z⟩
def spOfPairsG : Sp := fun vs H Q _ => ∃ (a : Addr) (ps : List Int) (l : List Bool), vs = [.ref a] ∧ H a = some (.lst (ps.map V.int)) ∧ PairsOf l ps ∧ l.length ≤ 1000 ∧ ∀ H', Same H H' → Q (.str (txt l)) H'
theorem ofPairsG {x : Str} (C : Cal K mg CX P w base k x dvs (spOfPairs CP)) : Cal K mg CX P w base k x dvs spOfPairsG := C.imp fun vs H Q E ⟨a, ps, l, e, ha, hp, hl, q⟩ =>
  ⟨a, ps, e, ha, by rw [hp.2.1]; exact hl, fun l' h' => by
    have : l' = l := by rw [← h'.signs, hp.signs]
    rw [this]
    exact q, fun z => absurd hp (z l)⟩
def spRunsG : Sp := fun vs H Q _ => ∃ l : List Bool, vs = [.str (txt l)] ∧ okb none 0 l = true ∧ l.length ≤ 1000 ∧ ∀ H', Same H H' → Q (.str (runsT l)) H'
theorem runsG {x : Str} (C : Cal K mg CX P w base k x dvs (spRuns CN)) : Cal K mg CX P w base k x dvs spRunsG := C.imp fun vs H Q E ⟨l, e, ok, hl, q⟩ =>
  ⟨txt l, e, by rw [txt_len]; exact hl, fun l' e' _ => by
    rw [← txt_inj e']
    exact q, fun z => no_hill ok z⟩
def spOfRunsG : Sp := fun vs H Q _ => ∃ l : List Bool, vs = [.str (runsT l)] ∧ okb none 0 l = true ∧ l.length ≤ 400 ∧ ∀ H', Same H H' → Q (.str (txt l)) H'
theorem ofRunsG {x : Str} (C : Cal K mg CX P w base k x dvs (spRowOf CT)) : Cal K mg CX P w base k x dvs spOfRunsG := C.imp fun vs H Q E ⟨l, e, ok, hl, q⟩ => by
  by_cases el : l = []
  · subst el
    refine ⟨_, e, .inl ⟨rfl, fun H' s => ?_⟩⟩
    have := q H' s
    rw [← enil] at this
    exact this
  · obtain ⟨ts, A, f, G⟩ := asked_good ok hl el
    refine ⟨_, e, .inr ⟨ts, _, A.ez, A.nd, A.ne, A.nb, A.d, A.tl, A.zl, fun g eg _ H' s => ?_, fun j ej => ?_⟩⟩
    · rw [G g eg]
      exact q H' s
    · rw [f] at ej
      cases ej
def spPartsG : Sp := fun vs H Q _ => ∃ g : Gv, vs = [.str (txt g.row)] ∧ g.row.length ≤ 1000 ∧ ∀ H' p, Same H H' → H' p = some (.lst (rowsV (hillsOf g))) → Q (.ref p) H'
theorem partsG {x : Str} (C : Cal K mg CX P w base k x dvs (spPartsX CN)) : Cal K mg CX P w base k x dvs spPartsG := C.imp fun vs H Q E ⟨g, e, hl, q⟩ =>
  ⟨txt g.row, e, by rw [txt_len]; exact hl, fun g' e' H' p s _ hp => by
    have e' : g = g' := Gv.row_inj (txt_inj e')
    subst e'
    exact q H' p s hp, fun z => no_hill g.row_hill z⟩
def spCutG : Sp := fun vs H Q _ => ∃ a b : Gv, vs = [.str (txt (Gv.tree a b).row)] ∧ (Gv.tree a b).row.length ≤ 1000 ∧ ∀ H' p, Same H H' → H' p = some (.tup [.str (txt a.row), .str (txt b.row)]) → Q (.ref p) H'
theorem cutG {x : Str} (C : Cal K mg CX P w base k x dvs (spCutX CN)) : Cal K mg CX P w base k x dvs spCutG := C.imp fun vs H Q E ⟨a, b, e, hl, q⟩ =>
  ⟨_, e, by rw [txt_len]; exact hl, fun a' b' e' H' p s _ hp => by
    have e' : Gv.tree a b = Gv.tree a' b' := Gv.row_inj (txt_inj e')
    injection e' with e1 e2
    subst e1 e2
    exact q H' p s hp, fun z => z.elim (fun z => by cases txt_inj z) (fun z => no_hill (Gv.tree a b).row_hill z)⟩
def spRankToldG : Sp := fun vs H Q _ => ∃ a b : Gv, vs = [.str (txt (Gv.tree a b).row)] ∧ (Gv.tree a b).row.length ≤ 400 ∧ ∀ H' p, Same H H' → H' p = some (.tup ((told4 a b).map V.int)) → Q (.ref p) H'
theorem rankToldG {x : Str} (C : Cal K mg CX P w base k x dvs (spRankToldX CN)) : Cal K mg CX P w base k x dvs spRankToldG := C.imp fun vs H Q E ⟨a, b, e, hl, q⟩ =>
  ⟨_, e, by rw [txt_len]; exact hl, fun a' b' e' H' p s _ hp => by
    have e' : Gv.tree a b = Gv.tree a' b' := Gv.row_inj (txt_inj e')
    injection e' with e1 e2
    subst e1 e2
    exact q H' p s hp, fun z => z.elim (fun z => by cases txt_inj z) (fun z => no_hill (Gv.tree a b).row_hill z)⟩
def spRowToldG : Sp := fun vs H Q _ => ∃ a b : Gv, vs = (told4 a b).map V.int ∧ (Gv.tree a b).row.length ≤ 400 ∧ ∀ H', Same H H' → Q (.str (txt (Gv.tree a b).row)) H'
theorem rowToldG {x : Str} (C : Cal K mg CX P w base k x dvs (spRowTold cs)) : Cal K mg CX P w base k x dvs spRowToldG := C.imp fun vs H Q E ⟨a, b, e, hl, q⟩ => by
  have e1 := tree_half a b
  have h1 := (gv_hill a).rk_lt
  have h2 := (gv_hill b).rk_lt
  have e2 : (Gv.tree a b).row.length / 2 - 1 - a.row.length / 2 = b.row.length / 2 := by omega
  refine ⟨_, _, _, _, e, .inr ⟨_, _, _, _, rfl, rfl, rfl, rfl, ⟨by omega, by omega, h1, by rw [e2]; exact h2⟩, fun H' s => ?_⟩⟩
  rw [told_row14]
  exact q H' s
end
end Hr
/-! ### t + u -/
namespace Hr
open PySem PySem.Spec PyProof.Rows L2
section
variable {X : Cx}
/-- t + u, wherever it lies -/
def rCatW : R2 := fun x y H Q => ∃ a b xs ys, x = .ref a ∧ y = .ref b ∧ H a = some (.tup xs) ∧ H b = some (.tup ys) ∧ xs.length + ys.length ≤ sizeLine ∧ ∀ p H', Same H H' → H' p = some (.tup (xs ++ ys)) → Q (.ref p) H'
theorem op_catW : OpR X (binaryOp .Add) rCatW := by
  intro pins s σ H x y v u Q I rx ry h
  obtain ⟨a, b, xs, ys, rfl, rfl, ha, hb, hz, q⟩ := h
  refine op_catA pins s σ H _ _ v u Q I rx ry ⟨a, b, xs, ys, rfl, rfl, .inl (.inl ha), .inl (.inl hb), hz, fun e => q b H (Same.refl H) ?_, fun _ e => q a H (Same.refl H) ?_, fun _ _ p np => q p _ (same_upd np) upd_same⟩
  · rw [e]
    exact hb
  · rw [e, List.append_nil]
    exact ha
end
end Hr
namespace Hr
/-! ### growing beginnings lead to all rows -/
def rwsC (c : Option Nat) : Nat → Nat → List (List Bool)
  | 0, h => if h = 0 then [[]] else []
  | k + 1, h => (if 0 < h then (rwsC c k (h - 1)).map (false :: ·) else []) ++ (if under c h = true then (rwsC c k (h + 1)).map (true :: ·) else [])
theorem rwsC_nil (c : Option Nat) : ∀ k h, k < h → rwsC c k h = []
  | 0, h, e => by
    unfold rwsC
    rw [if_neg (by omega)]
  | k + 1, h, e => by
    unfold rwsC
    rw [rwsC_nil c k (h - 1) (by omega), rwsC_nil c k (h + 1) (by omega)]
    split <;> split <;> rfl
theorem rwsC_low (c : Option Nat) (n : Nat) : ∀ k h, k + h ≤ 2 * n → h ≤ low n c → rwsC c k h = rws (low n c) k h
  | 0, h, _, _ => rfl
  | k + 1, h, e, l => by
    unfold rwsC rws
    congr 1
    · by_cases h0 : h = 0
      · rw [if_pos h0, if_neg (by omega)]
      · rw [if_neg h0, if_pos (by omega), rwsC_low c n k (h - 1) (by omega) (by omega)]
    · by_cases hT : h < low n c
      · have hu : under c h = true := by
          cases c with
          | none => rfl
          | some j =>
            have : h < min n j := hT
            exact decide_eq_true (by omega)
        rw [if_pos hT, if_pos hu, rwsC_low c n k (h + 1) (by omega) (by omega)]
      · rw [if_neg hT]
        by_cases hu : under c h = true
        · rw [if_pos hu]
          have : k < h + 1 := by
            cases c with
            | none =>
              have : ¬ h < n := hT
              omega
            | some j =>
              have h1 : ¬ h < min n j := hT
              have h2 : h < j := of_decide_eq_true hu
              omega
          rw [rwsC_nil c k (h + 1) this]
          rfl
        · rw [if_neg hu]
/-- beginnings as lists of signs -/
abbrev grwB (c : Option Nat) (k : Nat) : List (List Bool × Nat) := grown (· ++ [false]) (· ++ [true]) c [] k
def ends (c : Option Nat) (m : Nat) (p : List Bool × Nat) : List (List Bool) := (rwsC c m p.2).map (p.1 ++ ·)
theorem rwsC_succ (c : Option Nat) (k h : Nat) : rwsC c (k + 1) h = (if 0 < h then (rwsC c k (h - 1)).map (false :: ·) else []) ++ (if under c h = true then (rwsC c k (h + 1)).map (true :: ·) else []) := rfl
theorem ends_grow1 (c : Option Nat) (m : Nat) (p : List Bool × Nat) : (grow1 (· ++ [false]) (· ++ [true]) c p).flatMap (ends c m) = ends c (m + 1) p := by
  unfold grow1
  rw [List.flatMap_append]
  unfold ends
  rw [rwsC_succ, List.map_append]
  congr 1
  · split
    · rw [List.flatMap_singleton, List.map_map]
      refine List.map_congr_left fun x _ => ?_
      show (p.1 ++ [false]) ++ x = p.1 ++ false :: x
      rw [List.append_assoc]
      rfl
    · rfl
  · split
    · rw [List.flatMap_singleton, List.map_map]
      refine List.map_congr_left fun x _ => ?_
      show (p.1 ++ [true]) ++ x = p.1 ++ true :: x
      rw [List.append_assoc]
      rfl
    · rfl
theorem ends_grown (c : Option Nat) : ∀ k m, (grwB c k).flatMap (ends c m) = rwsC c (k + m) 0
  | 0, m => by
    show [(([] : List Bool), 0)].flatMap (ends c m) = _
    rw [List.flatMap_singleton, Nat.zero_add]
    unfold ends
    exact (List.map_congr_left fun x _ => rfl).trans (List.map_id _)
  | k + 1, m => by
    show ((grwB c k).flatMap (grow1 (· ++ [false]) (· ++ [true]) c)).flatMap (ends c m) = _
    rw [List.flatMap_assoc]
    rw [show (fun x => (grow1 (· ++ [false]) (· ++ [true]) c x).flatMap (ends c m)) = ends c (m + 1) from funext fun p => ends_grow1 c m p]
    rw [ends_grown c k (m + 1)]
    congr 1
    omega
theorem grwB_rows (c : Option Nat) (n : Nat) : ((grwB c (2 * n)).filter fun p => p.2 == 0).map (·.1) = rws (low n c) (2 * n) 0 := by
  rw [← rwsC_low c n (2 * n) 0 (by omega) (Nat.zero_le _)]
  have h := ends_grown c (2 * n) 0
  rw [Nat.add_zero] at h
  rw [← h]
  generalize grwB c (2 * n) = l
  induction l with
  | nil => rfl
  | cons p l ih =>
    rw [List.flatMap_cons, ← ih]
    unfold ends
    show _ = List.map _ (if p.2 = 0 then [[]] else []) ++ _
    by_cases e : p.2 = 0
    · rw [List.filter_cons_of_pos (by simp [e]), if_pos e, List.map_cons]
      show _ = (p.1 ++ []) :: List.map _ _
      rw [List.append_nil]
    · rw [List.filter_cons_of_neg (by simp [e]), if_neg e]
      rfl
/-- growing carried over -/
theorem grown_map {α β : Type} (f : α → β) (d u : α → α) (d' u' : β → β) (hd : ∀ x, f (d x) = d' (f x)) (hu : ∀ x, f (u x) = u' (f x)) (c : Option Nat) (a : α) : ∀ k, grown d' u' c (f a) k = (grown d u c a k).map fun p => (f p.1, p.2)
  | 0 => rfl
  | k + 1 => by
    show growAll d' u' c (grown d' u' c (f a) k) = (growAll d u c (grown d u c a k)).map _
    rw [grown_map f d u d' u' hd hu c a k]
    unfold growAll
    rw [List.flatMap_map, List.map_flatMap]
    congr 1
    funext p
    unfold grow1
    rw [List.map_append]
    congr 1
    · split
      · show [(d' (f p.1), p.2 - 1)] = [(f (d p.1), p.2 - 1)]
        rw [hd]
      · rfl
    · split
      · show [(u' (f p.1), p.2 + 1)] = [(f (u p.1), p.2 + 1)]
        rw [hu]
      · rfl
/-! ### the order of texts -/
/-- false stands ahead of true -/
def ltB : List Bool → List Bool → Bool
  | [], [] => false
  | [], _ :: _ => true
  | _ :: _, [] => false
  | a :: r, b :: t => (!a && b) || (a == b && ltB r t)
theorem rws_sorted (T : Nat) : ∀ k h, (rws T k h).Pairwise fun a b => ltB a b = true
  | 0, h => by
    unfold rws
    split
    · exact List.pairwise_singleton _ _
    · exact List.Pairwise.nil
  | k + 1, h => by
    unfold rws
    rw [List.pairwise_append]
    refine ⟨?_, ?_, fun a ha b hb => ?_⟩
    · split
      · exact List.Pairwise.nil
      · rw [List.pairwise_map]
        refine (rws_sorted T k (h - 1)).imp fun {a b} e => ?_
        show (false || (true && ltB a b)) = true
        rw [e]
        rfl
    · split
      · rw [List.pairwise_map]
        refine (rws_sorted T k (h + 1)).imp fun {a b} e => ?_
        show (false || (true && ltB a b)) = true
        rw [e]
        rfl
      · exact List.Pairwise.nil
    · have h1 : ∃ r, a = false :: r := by
        split at ha
        · cases ha
        · obtain ⟨r, _, e⟩ := List.mem_map.mp ha
          exact ⟨r, e.symm⟩
      have h2 : ∃ r, b = true :: r := by
        split at hb
        · obtain ⟨r, _, e⟩ := List.mem_map.mp hb
          exact ⟨r, e.symm⟩
        · cases hb
      obtain ⟨r, rfl⟩ := h1
      obtain ⟨t, rfl⟩ := h2
      rfl
/-- ranks rise as the rows do -/
theorem rank_lt_iff (T : Nat) : ∀ (a b : List Bool) (h : Nat), a.length = b.length → okb (some T) h a = true → okb (some T) h b = true → (rankOf T h a < rankOf T h b ↔ ltB a b = true)
  | [], [], h, _, _, _ => by
    constructor
    · intro e
      exact absurd e (Nat.lt_irrefl _)
    · intro e
      cases e
  | [], _ :: _, _, e, _, _ => by cases e
  | _ :: _, [], _, e, _, _ => by cases e
  | false :: a, false :: b, h, e, ea, eb => by
    have el : a.length = b.length := Nat.succ.inj e
    have := rank_lt_iff T a b (h - 1) el (okb_down ea).2 (okb_down eb).2
    show rankOf T (h - 1) a < rankOf T (h - 1) b ↔ (false || (true && ltB a b)) = true
    rw [this]
    simp
  | true :: a, true :: b, h, e, ea, eb => by
    have el : a.length = b.length := Nat.succ.inj e
    have := rank_lt_iff T a b (h + 1) el (okb_up ea).2 (okb_up eb).2
    show dn T a.length h + rankOf T (h + 1) a < dn T b.length h + rankOf T (h + 1) b ↔ (false || (true && ltB a b)) = true
    rw [el]
    simp only [Bool.true_and, Bool.false_or]
    rw [← this]
    omega
  | false :: a, true :: b, h, e, ea, eb => by
    have el : a.length = b.length := Nat.succ.inj e
    obtain ⟨h0, ea'⟩ := okb_down ea
    have h1 := rank_lt ea'
    constructor
    · intro _
      rfl
    · intro _
      show rankOf T (h - 1) a < dn T b.length h + rankOf T (h + 1) b
      unfold dn
      rw [if_neg h0, ← el]
      omega
  | true :: a, false :: b, h, e, ea, eb => by
    have el : a.length = b.length := Nat.succ.inj e
    obtain ⟨h0, eb'⟩ := okb_down eb
    have h1 := rank_lt eb'
    constructor
    · intro z
      have z : dn T a.length h + rankOf T (h + 1) a < rankOf T (h - 1) b := z
      unfold dn at z
      rw [if_neg h0, el] at z
      omega
    · intro z
      cases z
end Hr
/-! ### texts in order -/
namespace Hr
open PySem PySem.Spec PyProof.Rows L2
theorem lt_codes : ∀ {a b : List Bool}, a.length = b.length → (a.map code < b.map code ↔ ltB a b = true)
  | [], [], _ => by
    constructor
    · intro h
      exact absurd h (List.not_lt_nil _)
    · intro h
      cases h
  | [], _ :: _, e => by cases e
  | _ :: _, [], e => by cases e
  | x :: a, y :: b, e => by
    have ih := lt_codes (a := a) (b := b) (Nat.succ.inj e)
    rw [List.map_cons, List.map_cons, List.cons_lt_cons_iff, ih]
    show _ ↔ ((!x && y) || (x == y && ltB a b)) = true
    cases x <;> cases y <;> simp [code]
theorem lt_txt {a b : List Bool} (e : a.length = b.length) : decide ((txt a).cps.toList < (txt b).cps.toList) = ltB a b := by
  have : (txt a).cps.toList < (txt b).cps.toList ↔ ltB a b = true := lt_codes e
  rw [Bool.eq_iff_iff, decide_eq_true_eq]
  exact this
end Hr
/-! ### the law's own mirror, and its deeds -/
namespace Hr
open PySem PySem.Spec PyProof.Rows L2
theorem scLMir : FnScope ["_law_row", "_law_sign"] ["_law_row"] (defScope sMir) := ⟨rfl, rfl, rfl, by decide +kernel, rfl, by decide +kernel, by decide +kernel⟩
theorem scGone : FnScope ["_law_row", "_law_mark", "_law_way", "_law_inner", "_law_rest", "_law_told"] ["_law_row", "_law_mark"] (defScope sGone) := ⟨rfl, rfl, rfl, by decide +kernel, rfl, by decide +kernel, by decide +kernel⟩
section
variable {P : Program} {w : World} {K : PySem.W.Frag} {mg : Str → Option Value} {base : Heap}
def spLMir : Sp := fun vs H Q _ => ∃ l : List Bool, vs = [.str (txt l)] ∧ l.length ≤ 1000 ∧ ∀ H', Same H H' → Q (.str (txt (mir l))) H'
theorem cal_lmir (D : Def K mg "_law_mirrored" sMir ["_law_row"]) (m_int : mg "int" = none) : Cal K mg CX0 P w base 1 "_law_mirrored" [] spLMir := by
  refine D.cal scLMir (fun vs H Q E h => ?_) (fun f cdv A outer s H vs Q E hr h => ?_)
  · obtain ⟨l, rfl, _⟩ := h
    rfl
  · obtain ⟨l, rfl, hl, q⟩ := h
    have nd := scLMir.nd
    refine ⟨_, (pss_one (ps_ret (pe_join pe_str (pe_lc (own := [("_law_sign", 1)]) (g := gName 1) (tt := tYes) rfl nd (pi_str (pe_revT (pv 0))) (blkOk_by (N := ["_law_row", "_law_sign"]) (sc := defScope sMir) (by decide +kernel)) (fun _ _ _ _ _ => (pg_name (i := 1) nd rfl (Or.inl rfl) (Or.inr rfl))) (fun _ _ _ _ _ => pts_nil) (fun _ _ _ _ _ => (pe_ix ix_str pe_str (pe_callTy call_int1 (by rfl) m_int boot_int (pa_cons (pe_cmpR op_eq (pv 1) pe_str (nomark _)) pa_nil)) (fun _ _ => rfl))))))), ?_⟩
    refine ⟨⟨_, rfl⟩, _, rfl, txt l, rfl, sz (by rw [txt_len]; omega), ?_⟩
    rw [revT_txt]
    refine ⟨txt l.reverse, rfl, fun D nD => ?_⟩
    refine lc_it walk_str (fun i H' => Same H H' ∧ H' D = some (.lst (((mir l).take i).map fun b => V.str (sgn b)))) ⟨same_upd nD, upd_same⟩ (fun _ _ _ _ => trivial) ?_ ?_
    · rintro i x H2 H3 hi ⟨sm, eD⟩ ⟨rfl, c, hc, rfl⟩
      rw [txt_at] at hc
      obtain ⟨b, hb, rfl⟩ := Option.map_eq_some_iff.mp hc
      have hm : (mir l)[i]? = some (!b) := by
        unfold mir
        rw [List.getElem?_map, hb]
        rfl
      refine ⟨rfl, ?_⟩
      unfold tYes
      refine iteT ?_
      have hsz : (((mir l).take i).map fun b => V.str (sgn b)).length < sizeLine := szl (by
        rw [List.length_map, List.length_take, mir_len]
        omega)
      have fin : (((mir l).take (i + 1)).map fun b => V.str (sgn b)) = (((mir l).take i).map fun b => V.str (sgn b)) ++ [.str (sgn (!b))] := by
        rw [take_snoc hm, List.map_append]
        rfl
      have hud : ("ud" : Str).length ≤ 1000000 := by decide +kernel
      refine ⟨_, rfl, rfl, .inr ⟨b, ?_, "ud", if b = true then 1 else 0, code (!b), rfl, ?_, sz hud, ?_, ?_⟩⟩
      · refine congrArg (fun b => [V.bl b]) ?_
        rw [is_u, code_u]
      · cases b <;> rfl
      · cases b with
        | true => exact atI_nat (j := 1) (by decide +kernel)
        | false => exact atI_nat (j := 0) (by decide +kernel)
      · refine ⟨_, eD, hsz, same_updN sm nD, ?_⟩
        rw [upd_same, fin]
        rfl
    · rintro H2 ⟨sm, eD⟩
      rw [txt_size, List.length_reverse, List.take_of_length_le (by rw [mir_len]; exact Nat.le_refl _)] at eD
      refine ⟨"", D, (mir l).map sgn, rfl, rfl, .inl (.inl (.inl (by rw [List.map_map]; exact eD))), ?_, ?_⟩
      · rw [sgn_sum, mir_len, len_E]
        omega
      · rw [join_signs]
        exact q H2 sm
def spGone : Sp := fun vs H Q _ => ∃ (g : Gv) (m : Int), vs = [.str (txt g.row), .int m] ∧ g.row.length ≤ 390 ∧
  ∀ l' H' p, Same H H' → okb none 0 l' = true → l'.length ≤ g.row.length + 4 → H' p = some (.tup [.str (txt l'), .str (txt l')]) → Q (.ref p) H'
theorem e_uu : ("uu" : Str) = txt [true, true] := by decide +kernel
theorem e_dd : ("dd" : Str) = txt [false, false] := by decide +kernel
theorem lift_ok {l : List Bool} (h : okb none 0 l = true) (k : Nat) : okb none 0 (List.replicate k true ++ l ++ List.replicate k false) = true := by
  rw [List.append_assoc, rep_up]
  have h2 := okb_app (r := List.replicate k false) (h := k) h
  rw [Nat.add_zero] at h2
  rw [Nat.zero_add, h2]
  have := rep_down (r := []) k k (Nat.le_refl _)
  rw [List.append_nil, Nat.sub_self] at this
  exact this
set_option maxHeartbeats 1000000 in
theorem cal_gone (D : Def K mg "_law_gone" sGone ["_law_row", "_law_mark"]) (c_lifted : Cal K mg (L2.CX P w) P w base 5 "lifted" [] spLiftG) (c_lifted1 : Cal K mg (L2.CX P w) P w base 5 "lifted" [.int 1] spLiftG) (c_joined : Cal K mg (L2.CX P w) P w base 5 "joined" [] (spJoinG K))
    (c_mirrored : Cal K mg (L2.CX P w) P w base 5 "mirrored" [] spMirG) (c_lmir : Cal K mg CX0 P w base 1 "_law_mirrored" [] spLMir) (c_unfolded : Cal K mg (L2.CX P w) P w base 2 "unfolded" [] spUnfG) (c_folded : Cal K mg (L2.CX P w) P w base 5 "folded" [] spFoldG)
    (c_of : Cal K mg (L2.CX P w) P w base 6 "row_of_pairs" [] spOfPairsG) (c_pairs : Cal K mg (L2.CX P w) P w base 5 "pairs" [] spPairsG) (c_row_of : Cal K mg (L2.CX P w) P w base 4 "row_of" [] spOfRunsG) (c_runs : Cal K mg (L2.CX P w) P w base 5 "runs" [] spRunsG)
    (c_parts : Cal K mg (L2.CX P w) P w base 5 "parts" [] spPartsG) (c_cut : Cal K mg (L2.CX P w) P w base 6 "cut" [] spCutG) (c_rank_told : Cal K mg (L2.CX P w) P w base 7 "rank_told" [] spRankToldG) (c_row_told : Cal K mg (L2.CX P w) P w base 6 "row_told" [] spRowToldG)
    (c_row_at1 : Cal K mg (L2.CX P w) P w base 4 "row_at" [.non] spRowAtG) : Cal K mg CX0 P w base 8 "_law_gone" [] spGone := by
  refine D.cal scGone (fun vs H Q E h => ?_) (fun f cdv A outer s H vs Q E hr h => ?_)
  · obtain ⟨g, m, rfl, _⟩ := h
    rfl
  · obtain ⟨g, m, rfl, hl, q⟩ := h
    have nd := scGone.nd
    refine ⟨_, (pss_cons (ps_set (i := 2) nd rfl (.inl rfl) (pe_op op_mod (pv 1) pe_int))
    (pss_cons (ps_if (pt_cmpR op_eq (pv 2) pe_int (nomark _)) (pss_one (ps_ret (pe_tup (pa_cons (pe_cL c_lifted hr (pa_cons (pv 0) (pa_cons pe_int pa_nil))) (pa_cons (pe_op op_add_str (pe_op op_add_str pe_str (pv 0)) pe_str) pa_nil))))) pss_nil)
    (pss_cons (ps_if (pt_cmpR op_eq (pv 2) pe_int (nomark _)) (pss_one (ps_ret (pe_tup (pa_cons (pe_cL c_joined hr (pa_cons (pe_lst (pa_cons (pv 0) (pa_cons pe_str (pa_cons (pe_slice sl_str (pv 0) po_none (po_some pe_int)) pa_nil)))) pa_nil)) (pa_cons (pe_op op_add_str (pv 0) pe_str) pa_nil))))) pss_nil)
    (pss_cons (ps_if (pt_cmpR op_eq (pv 2) pe_int (nomark _)) (pss_one (ps_ret (pe_tup (pa_cons (pe_cL c_mirrored hr (pa_cons (pv 0) pa_nil)) (pa_cons (pe_c c_lmir hr (pa_cons (pv 0) pa_nil)) pa_nil))))) pss_nil)
    (pss_cons (ps_if (pt_cmpR op_eq (pv 2) pe_int (nomark _)) (pss_one (ps_ret (pe_tup (pa_cons (pe_cL c_unfolded hr (pa_cons (pe_op op_catW (pe_cL c_folded hr (pa_cons (pv 0) pa_nil)) (pe_cL c_folded hr (pa_cons pe_str pa_nil))) pa_nil)) (pa_cons (pe_op op_add_str (pv 0) pe_str) pa_nil))))) pss_nil)
    (pss_cons (ps_if (pt_cmpR op_eq (pv 2) pe_int (nomark _)) (pss_one (ps_ret (pe_tup (pa_cons (pe_cL c_of hr (pa_cons (pe_cL c_pairs hr (pa_cons (pv 0) pa_nil)) pa_nil)) (pa_cons (pv 0) pa_nil))))) pss_nil)
    (pss_cons (ps_if (pt_cmpR op_eq (pv 2) pe_int (nomark _)) (pss_one (ps_ret (pe_tup (pa_cons (pe_cL c_row_of hr (pa_cons (pe_cL c_runs hr (pa_cons (pv 0) pa_nil)) pa_nil)) (pa_cons (pv 0) pa_nil))))) pss_nil)
    (pss_cons (ps_if (pt_cmpR op_eq (pv 2) pe_int (nomark _)) (pss_one (ps_ret (pe_tup (pa_cons (pe_cL c_joined hr (pa_cons (pe_revL (pe_cL c_parts hr (pa_cons (pv 0) pa_nil))) pa_nil)) (pa_cons (pe_join pe_str (pe_revL (pe_cL c_parts hr (pa_cons (pv 0) pa_nil)))) pa_nil))))) pss_nil)
    (pss_cons (ps_if (PW.pt (pw_and (pt_cmpR op_eq (pv 2) pe_int (nomark _)) (pw_and1 (pt_cmpR op_ne (pv 0) pe_str (nomark _))))) (pss_cons (ps_asg (pe_cL c_cut hr (pa_cons (pv 0) pa_nil)) (pg_tup (by rfl) (pgs_cons (pg_name (i := 3) nd rfl (.inl rfl)) (pgs_cons (pg_name (i := 4) nd rfl (.inl rfl)) pgs_nil))))
      (pss_one (ps_ret (pe_tup (pa_cons (pe_cL c_joined hr (pa_cons (pe_lst (pa_cons (pv 4) (pa_cons (pe_cL c_lifted1 hr (pa_cons (pv 3) pa_nil)) pa_nil))) pa_nil)) (pa_cons (pe_op op_add_str (pe_op op_add_str (pe_op op_add_str (pv 4) pe_str) (pv 3)) pe_str) pa_nil)))))) pss_nil)
    (pss_cons (ps_if (pt_cmpR op_ne (pv 0) pe_str (nomark _)) (pss_cons (ps_set (i := 5) nd rfl (.inl rfl) (pe_cL c_rank_told hr (pa_cons (pv 0) pa_nil)))
      (pss_one (ps_ret (pe_tup (pa_cons (pe_cL c_row_told hr (pa_cons (pe_ix ix_tup (pv 5) pe_int (fun _ _ => rfl)) (pa_cons (pe_ix ix_tup (pv 5) pe_int (fun _ _ => rfl)) (pa_cons (pe_ix ix_tup (pv 5) pe_int (fun _ _ => rfl)) (pa_cons (pe_ix ix_tup (pv 5) pe_int (fun _ _ => rfl)) pa_nil))))) (pa_cons (pv 0) pa_nil)))))) pss_nil)
    (pss_one (ps_ret (pe_tup (pa_cons (pe_cL c_row_at1 hr (pa_cons pe_int (pa_cons pe_int pa_nil))) (pa_cons pe_str pa_nil))))))))))))))), ?_⟩
    have ok := g.row_hill
    have hzl : (txt g.row).length = g.row.length := txt_len _
    have luu : ("uu" : Str).length = 2 := by decide +kernel
    have ldd : ("dd" : Str).length = 2 := by decide +kernel
    have lud : ("ud" : Str).length = 2 := by decide +kernel
    have lu : ("u" : Str).length = 1 := by decide +kernel
    have ld : ("d" : Str).length = 1 := by decide +kernel
    have fin : ∀ (l' : List Bool) (z1 z2 : Str) (H1 : Hp), Same H H1 → okb none 0 l' = true → l'.length ≤ g.row.length + 4 → z1 = txt l' → z2 = txt l' → ∀ p, H1 p = none → Q (.ref p) (upd H1 p (.tup [.str z1, .str z2])) := fun l' z1 z2 H1 s ok hl e1 e2 p np => by
      subst e1 e2
      exact q l' _ p (s.trans (same_upd np)) ok hl upd_same
    refine ⟨_, rfl, m, 9, rfl, rfl, (by show (0 : Int) < 9; decide), ?_⟩
    refine ⟨_, rfl, rfl, _, rfl, ite2 (fun _ => ?_) (fun _ => ?_)⟩
    · -- lifted
      refine ⟨_, rfl, g.row, 2, rfl, ok, by omega, by decide, fun H1 s1 => ?_⟩
      refine ⟨_, rfl, _, _, rfl, rfl, sz (by omega), _, _, rfl, rfl, sz (by rw [PySem.Str.length_append]; omega), ?_⟩
      refine ⟨sz (show 2 ≤ 1000000 by decide), fun t nt => fin _ _ _ H1 s1 ?_ ?_ rfl ?_ t nt⟩
      · exact lift_ok ok 2
      · rw [List.length_append, List.length_append, List.length_replicate, List.length_replicate]
        omega
      · rw [e_uu, e_dd, txt_append, txt_append]
        rfl
    refine ⟨_, rfl, rfl, _, rfl, ite2 (fun _ => ?_) (fun _ => ?_)⟩
    · -- joined with a hill
      refine ⟨_, rfl, _, rfl, 0, rfl, txt g.row, rfl, sz (by omega), ?_⟩
      rw [show cutS (txt g.row) none (some 0) = txt [] from cutS_to (k := 0) (Nat.zero_le _)]
      refine ⟨sz (show 3 ≤ 1000000 by decide), fun L nL => ?_⟩
      have s1 := same_upd (o := .lst [.str (txt g.row), .str "ud", .str (txt [])]) nL
      refine ⟨L, [g.row, [true, false], []], rfl, .inl (.inl ?_), show 3 ≤ 1000 by decide, fun x hx => ?_, fun H2 s2 => ?_⟩
      · rw [upd_same, eud]
        rfl
      · rcases List.mem_cons.mp hx with rfl | hx
        · exact ⟨ok, by omega⟩
        · rcases List.mem_cons.mp hx with rfl | hx
          · exact ⟨rfl, by decide⟩
          · rw [List.mem_singleton.mp hx]
            exact ⟨rfl, by decide⟩
      refine ⟨_, rfl, _, _, rfl, rfl, sz (by omega), ?_⟩
      refine ⟨sz (show 2 ≤ 1000000 by decide), fun t nt => fin _ _ _ H2 (s1.trans s2) ?_ ?_ rfl ?_ t nt⟩
      · show okb none 0 (g.row ++ ([true, false] ++ ([] ++ []))) = true
        rw [hill_ext ok]
        rfl
      · show (g.row ++ ([true, false] ++ ([] ++ []))).length ≤ _
        rw [List.length_append]
        show _ + 2 ≤ _
        omega
      · rw [eud, txt_append]
        rfl
    refine ⟨_, rfl, rfl, _, rfl, ite2 (fun _ => ?_) (fun _ => ?_)⟩
    · -- from its end
      refine ⟨_, rfl, g.row, rfl, ok, by omega, fun H1 s1 => ?_⟩
      refine ⟨_, rfl, g.row, rfl, by omega, fun H2 s2 => ?_⟩
      refine ⟨sz (show 2 ≤ 1000000 by decide), fun t nt => fin _ _ _ H2 (s1.trans s2) (mir_hill ok) ?_ rfl rfl t nt⟩
      rw [mir_len]
      omega
    refine ⟨_, rfl, rfl, _, rfl, ite2 (fun _ => ?_) (fun _ => ?_)⟩
    · -- folded and unfolded
      refine ⟨_, rfl, g, rfl, by omega, fun H1 p ws s1 ht hp => ?_⟩
      refine ⟨.tree .no .no, ?_, by decide, fun H2 p2 us s2 hu hp2 => ?_⟩
      · show [V.str "ud"] = [V.str (txt [true, false])]
        rw [eud]
      have wl := ht.len
      have ul := hu.len
      have ul : us.length ≤ 2 := ul
      refine ⟨p, p2, ws, us, rfl, rfl, s2 _ _ hp, hp2, sz (by omega), fun T H3 s3 hT => ?_⟩
      have er : (g.app (.tree .no .no)).row = g.row ++ [true, false] := Gv.app_row7 _ _
      refine ⟨T, _, g.app (.tree .no .no), rfl, hT, ((ht.same s2).app hu).same s3, ?_, fun H4 s4 => ?_⟩
      · rw [er, List.length_append]
        show _ + 2 ≤ _
        omega
      refine ⟨_, rfl, _, _, rfl, rfl, sz (by omega), ?_⟩
      refine ⟨sz (show 2 ≤ 1000000 by decide), fun t nt => fin _ _ _ H4 (s1.trans (s2.trans (s3.trans s4))) (g.app (.tree .no .no)).row_hill ?_ rfl ?_ t nt⟩
      · rw [er, List.length_append]
        show _ + 2 ≤ _
        omega
      · rw [er, eud, txt_append]
    refine ⟨_, rfl, rfl, _, rfl, ite2 (fun _ => ?_) (fun _ => ?_)⟩
    · -- paired
      refine ⟨_, rfl, g.row, rfl, ok, by omega, fun H1 p ps s1 hps hp => ?_⟩
      refine ⟨p, ps, g.row, rfl, hp, hps, by omega, fun H2 s2 => ?_⟩
      exact ⟨_, rfl, sz (show 2 ≤ 1000000 by decide), fun t nt => fin _ _ _ H2 (s1.trans s2) ok (by omega) rfl rfl t nt⟩
    refine ⟨_, rfl, rfl, _, rfl, ite2 (fun _ => ?_) (fun _ => ?_)⟩
    · -- told by runs
      refine ⟨_, rfl, g.row, rfl, ok, by omega, fun H1 s1 => ?_⟩
      refine ⟨g.row, rfl, ok, by omega, fun H2 s2 => ?_⟩
      exact ⟨_, rfl, sz (show 2 ≤ 1000000 by decide), fun t nt => fin _ _ _ H2 (s1.trans s2) ok (by omega) rfl rfl t nt⟩
    refine ⟨_, rfl, rfl, _, rfl, ite2 (fun _ => ?_) (fun _ => ?_)⟩
    · -- its hills from the last
      have hn := hills_len g
      have hf := hills_flat g
      have hok := hills_ok g
      have hol := hills_ok_len g
      have rv : (rowsV (hillsOf g)).reverse = rowsV (hillsOf g).reverse := (List.map_reverse ..).symm
      refine ⟨_, rfl, g, rfl, by omega, fun H1 p s1 hp => ?_⟩
      refine ⟨p, rowsV (hillsOf g), rfl, .inl (.inl hp), fun p2 np2 => ?_⟩
      rw [rv]
      have s2 := same_upd (o := .lst (rowsV (hillsOf g).reverse)) np2
      refine ⟨p2, (hillsOf g).reverse, rfl, .inl (.inl upd_same), by rw [List.length_reverse]; omega, fun x hx => ?_, fun H2 s3 => ?_⟩
      · have hx := List.mem_reverse.mp hx
        have := hol x hx
        exact ⟨hok x hx, by omega⟩
      have sA := s1.trans (s2.trans s3)
      refine ⟨⟨_, rfl⟩, _, rfl, g, rfl, by omega, fun H3 p3 s4 hp3 => ?_⟩
      refine ⟨p3, rowsV (hillsOf g), rfl, .inl (.inl hp3), fun p4 np4 => ?_⟩
      rw [rv]
      have s5 := same_upd (o := .lst (rowsV (hillsOf g).reverse)) np4
      refine ⟨"", p4, (hillsOf g).reverse.map txt, rfl, rfl, .inl (.inl (.inl ?_)), ?_, ?_⟩
      · rw [upd_same, rowsV_strs]
      · rw [sum_lens, flat_rev_len, hf, len_E]
        omega
      · rw [join_txts]
        refine ⟨sz (show 2 ≤ 1000000 by decide), fun t nt => fin _ _ _ _ (sA.trans (s4.trans s5)) ?_ ?_ rfl rfl t nt⟩
        · exact flat_ok fun x hx => hok x (List.mem_reverse.mp hx)
        · rw [flat_rev_len, hf]
          omega
    cases g with
    | no =>
      have E0 : (!decide (V.str (txt Gv.no.row) = V.str "")) = false := by rw [decide_eq_true (show V.str (txt Gv.no.row) = V.str "" from congrArg V.str enil.symm)]; rfl
      have hc : 0 < cntc none 0 := by decide
      refine ⟨_, rfl, rfl, _, rfl, ite2 (fun _ => ?_) (fun _ => ?_)⟩
      · refine ⟨_, rfl, rfl, _, rfl, ?_⟩
        rw [E0]
        refine iteF ?_
        refine ⟨_, rfl, rfl, _, rfl, ?_⟩
        rw [E0]
        refine iteF ?_
        refine ⟨0, 0, rfl, by decide, hc, fun H1 s1 => ?_⟩
        exact ⟨sz (show 2 ≤ 1000000 by decide), fun t nt => fin [] _ _ H1 s1 rfl (Nat.zero_le _) rfl enil t nt⟩
      · refine ⟨_, rfl, rfl, _, rfl, ?_⟩
        rw [E0]
        refine iteF ?_
        refine ⟨0, 0, rfl, by decide, hc, fun H1 s1 => ?_⟩
        exact ⟨sz (show 2 ≤ 1000000 by decide), fun t nt => fin [] _ _ H1 s1 rfl (Nat.zero_le _) rfl enil t nt⟩
    | tree a b =>
      have hne : ¬ (V.str (txt (Gv.tree a b).row) = V.str "") := fun z => by
        have := txt_inj ((V.str.inj z).trans enil)
        cases this
      have E1 : (!decide (V.str (txt (Gv.tree a b).row) = V.str "")) = true := by rw [decide_eq_false hne]; rfl
      have hsum : a.row.length + b.row.length + 2 = (Gv.tree a b).row.length := by
        rw [tree_row, List.length_append, List.length_cons, List.length_append]
        have : ([false] : List Bool).length = 1 := rfl
        omega
      have la : (txt a.row).length = a.row.length := txt_len _
      have lb : (txt b.row).length = b.row.length := txt_len _
      refine ⟨_, rfl, rfl, _, rfl, ite2 (fun _ => ?_) (fun _ => ?_)⟩
      · -- cut and put together
        refine ⟨_, rfl, rfl, _, rfl, ?_⟩
        rw [E1]
        refine iteT ?_
        refine ⟨_, rfl, a, b, rfl, by omega, fun H1 p s1 hp => ?_⟩
        refine ⟨p, _, rfl, .inl (.inl hp), rfl, _, _, rfl, _, _, rfl, rfl, ?_⟩
        refine ⟨_, rfl, _, rfl, a.row, 1, rfl, a.row_hill, by omega, by decide, fun H2 s2 => ?_⟩
        refine ⟨sz (show 2 ≤ 1000000 by decide), fun L nL => ?_⟩
        have la1 := lift_ok a.row_hill 1
        have ll1 : (List.replicate 1 true ++ a.row ++ List.replicate 1 false).length = a.row.length + 2 := by
          rw [List.length_append, List.length_append, List.length_replicate, List.length_replicate]
          omega
        have e1 : txt (List.replicate 1 true ++ a.row ++ List.replicate 1 false) = ("u" : Str) ++ txt a.row ++ ("d" : Str) := by
          rw [eu1, ed1, txt_append, txt_append]
          rfl
        have ec : txt b.row ++ ("u" : Str) ++ txt a.row ++ ("d" : Str) = txt (b.row ++ (List.replicate 1 true ++ a.row ++ List.replicate 1 false)) := by
          rw [eu1, ed1, txt_append, txt_append, txt_append, List.append_assoc, List.append_assoc]
          rfl
        generalize List.replicate 1 true ++ a.row ++ List.replicate 1 false = l1 at la1 ll1 e1 ec ⊢
        have s3 := same_upd (o := .lst [.str (txt b.row), .str (txt l1)]) nL
        refine ⟨L, [b.row, l1], rfl, .inl (.inl upd_same), show 2 ≤ 1000 by decide, fun x hx => ?_, fun H3 s4 => ?_⟩
        · rcases List.mem_cons.mp hx with rfl | hx
          · exact ⟨b.row_hill, by omega⟩
          · rw [List.mem_singleton.mp hx]
            exact ⟨la1, by omega⟩
        refine ⟨_, rfl, _, _, rfl, rfl, sz (by omega), _, rfl, _, _, rfl, rfl, sz (by rw [PySem.Str.length_append]; omega), _, _, rfl, rfl, sz (by rw [PySem.Str.length_append, PySem.Str.length_append]; omega), ?_⟩
        have ef : ([b.row, l1] : List (List Bool)).flatten = b.row ++ l1 := by
          show b.row ++ (l1 ++ []) = _
          rw [List.append_nil]
        rw [ef]
        refine ⟨sz (show 2 ≤ 1000000 by decide), fun t nt => fin (b.row ++ l1) _ _ H3 (s1.trans (s2.trans (s3.trans s4))) ?_ ?_ rfl ec t nt⟩
        · rw [hill_ext b.row_hill]
          exact la1
        · rw [List.length_append]
          omega
      · -- told by the ranks of its parts
        refine ⟨_, rfl, rfl, _, rfl, ?_⟩
        rw [E1]
        refine iteT ?_
        refine ⟨_, rfl, a, b, rfl, by omega, fun H1 p s1 hp => ?_⟩
        refine ⟨_, rfl, p, _, _, _, rfl, rfl, .inl (.inl hp), at_of (j := 0) rfl rfl, _, rfl, p, _, _, _, rfl, rfl, .inl (.inl hp), at_of (j := 1) rfl rfl, _, rfl, p, _, _, _, rfl, rfl, .inl (.inl hp), at_of (j := 2) rfl rfl, _, rfl, p, _, _, _, rfl, rfl, .inl (.inl hp), at_of (j := 3) rfl rfl, ?_⟩
        refine ⟨a, b, rfl, by omega, fun H2 s2 => ?_⟩
        exact ⟨_, rfl, sz (show 2 ≤ 1000000 by decide), fun t nt => fin _ _ _ H2 (s1.trans s2) ok (by omega) rfl rfl t nt⟩
end
end Hr
/-! ### the law -/
namespace Hr
open PySem PySem.Spec PyProof.Rows L2
abbrev nLaw : List Str := ["_law_script", "_law_row", "_law_k", "_law_cell", "_law_mark", "_law_before", "_law_step", "_law_due"]
theorem scLaw : FnScope nLaw ["_law_script"] (defScope sLaw) := ⟨rfl, rfl, rfl, by decide +kernel, rfl, by decide +kernel, by decide +kernel⟩
theorem ne_self (z : Str) : (!decide (V.str z = V.str z)) = false := by
  rw [decide_eq_true rfl]
  rfl
theorem no_empty : (!decide (V.str (txt Gv.no.row) = V.str "")) = false := by
  rw [decide_eq_true (show V.str (txt Gv.no.row) = V.str "" from congrArg V.str enil.symm)]
  rfl
theorem tree_full (a b : Gv) : (!decide (V.str (txt (Gv.tree a b).row) = V.str "")) = true := by
  have hne : ¬ (V.str (txt (Gv.tree a b).row) = V.str "") := fun z => by
    have := txt_inj ((V.str.inj z).trans enil)
    cases this
  rw [decide_eq_false hne]
  rfl
theorem tree_pos (a b : Gv) : 0 < (Gv.tree a b).row.length := by
  rw [tree_row, List.length_append, List.length_cons]
  omega
/-- a row beside: one up or one down in rank -/
def Beside (n : Nat) (l l2 : List Bool) (st : Int) : Prop := Hill none n l2 ∧ ((rk none n l2 : Nat) : Int) - ((rk none n l : Nat) : Int) = st
theorem beside_next {n : Nat} {l : List Bool} : nextV none n l = .non ∨ ∃ l2, nextV none n l = .str (txt l2) ∧ Beside n l l2 1 := by
  unfold nextV
  by_cases h : rk none n l + 1 < cntc none n
  · rw [if_pos h]
    have := rowOf_rk h
    exact .inr ⟨_, rfl, rowOf_hill h, by omega⟩
  · rw [if_neg h]
    exact .inl rfl
theorem beside_ahead {n : Nat} {l : List Bool} (hh : Hill none n l) : aheadV none n l = .non ∨ ∃ l2, aheadV none n l = .str (txt l2) ∧ Beside n l l2 (-1) := by
  unfold aheadV
  by_cases h : 0 < rk none n l
  · rw [if_pos h]
    have hlt := hh.rk_lt
    have h2 : rk none n l - 1 < cntc none n := by omega
    have := rowOf_rk h2
    exact .inr ⟨_, rfl, rowOf_hill h2, by omega⟩
  · rw [if_neg h]
    exact .inl rfl
/-- which of the two, by the mark -/
theorem pick14 {n : Nat} {l : List Bool} (hh : Hill none n l) (mk : Int) (h0 : 0 ≤ mk) : ∃ (j : Nat) (x : V) (st : Int), mk / 3 % 2 = (j : Int) ∧ ([nextV none n l, aheadV none n l])[j]? = some x ∧ ([V.int 1, V.int (-1)])[j]? = some (.int st) ∧ (st = 1 ∨ st = -1) ∧ (x = .non ∨ ∃ l2, x = .str (txt l2) ∧ Beside n l l2 st) := by
  by_cases h : mk / 3 % 2 = 0
  · exact ⟨0, _, 1, h, rfl, rfl, .inl rfl, beside_next⟩
  · exact ⟨1, _, -1, by omega, rfl, rfl, .inr rfl, beside_ahead hh⟩
section
variable {P : Program} {w : World} {K : PySem.W.Frag} {mg : Str → Option Value} {base : Heap}
def spLaw (K : PySem.W.Frag) : Sp := fun vs H Q _ => ∃ (a : Addr) (ns : List Int), vs = [.ref a] ∧ SqL K H a (ns.map V.int) ∧ ns.length ≤ 63 ∧ ∀ H', Q (.bl true) H'
set_option maxHeartbeats 1000000 in
theorem ok_law {f : Addr} {fd : FuncData} (F : Fun K "law" "law" sLaw f fd) (c_mixed : Cal K mg CX0 P w base 1 "_law_mixed" [] spMixed) (c_gone : Cal K mg CX0 P w base 8 "_law_gone" [] spGone) (c_cut : Cal K mg (L2.CX P w) P w base 6 "cut" [] spCutG)
    (c_next1 : Cal K mg (L2.CX P w) P w base 6 "next_row" [.non] spNext) (c_ahead1 : Cal K mg (L2.CX P w) P w base 6 "ahead_row" [.non] spAhead) (c_rank1 : Cal K mg (L2.CX P w) P w base 5 "rank" [.non] spRank) (c_row_at1 : Cal K mg (L2.CX P w) P w base 4 "row_at" [.non] spRowAtG)
    (c_is_hill1 : Cal K mg CX0 P w base 3 "is_hill" [.non] spIsHill) (c_heights : Cal K mg (L2.CX P w) P w base 2 "heights" [] spHeightsG)
    (m_len : mg "len" = none) (m_enumerate : mg "enumerate" = none) : FnOk P w K mg base CX0 9 f fd ["_law_script"] (spLaw K) := by
  refine F.ok scLaw (fun vs H Q E h => ?_) (fun cdv A outer s H vs Q E hr h => ?_)
  · obtain ⟨a, ns, rfl, _⟩ := h
    rfl
  · obtain ⟨a, ns, rfl, hS, hlen, q⟩ := h
    have nd := scLaw.nd
    refine ⟨_, (pss_cons (ps_set (i := 1) nd rfl (.inl rfl) pe_str)
    (pss_cons (ps_for PassesOwn.never rfl (pi_enum (by rfl) m_enumerate (pa_cons (pv 0) pa_nil)) (pg_tup rfl (pgs_cons (pg_name (i := 2) nd rfl (.inl rfl)) (pgs_cons (pg_name (i := 3) nd rfl (.inl rfl)) pgs_nil))) (pss_cons (ps_set (i := 4) nd rfl (.inl rfl) (pe_c c_mixed hr (pa_cons (pv 3) (pa_cons (pv 2) pa_nil))))
      (C8.pss_cut (ps_if (pt_cmpR op_gt (pe_callB call_len_str (by rfl) m_len PySem.boot_len (pa_cons (pv 1) pa_nil)) pe_int (nomark _)) (pss_one (ps_set (i := 1) nd rfl (.inl rfl) (pe_ix ix_tup (pe_cL c_cut hr (pa_cons (pv 1) pa_nil)) pe_int (fun _ _ => rfl)))) pss_nil)
      (pss_cons (ps_set (i := 5) nd rfl (.inl rfl) (pv 1))
      (C8.pss_cut (ps_if (PW.pt (pw_and (pt_cmpR op_eq (pe_op op_mod (pv 4) pe_int) pe_int (nomark _)) (pw_and1 (pt_cmpR op_ne (pv 1) pe_str (nomark _))))) (pss_cons (ps_set (i := 1) nd rfl (.inl rfl) (pe_orT (pe_ix ix_list (pe_lst (pa_cons (pe_cL c_next1 hr (pa_cons (pv 1) pa_nil)) (pa_cons (pe_cL c_ahead1 hr (pa_cons (pv 1) pa_nil)) pa_nil))) (pe_op op_mod (pe_op op_fdiv (pv 4) pe_int) pe_int) (fun _ _ => rfl)) (pe_one (pv 1))))
        (pss_cons (ps_set (i := 6) nd rfl (.inl rfl) (pe_ix ix_list (pe_lst (pa_cons pe_int (pa_cons (pe_un un_neg pe_int) pa_nil))) (pe_op op_mod (pe_op op_fdiv (pv 4) pe_int) pe_int) (fun _ _ => rfl)))
        (pss_cons (ps_if (PW.pt (pw_and (pt_cmpR op_ne (pv 1) (pv 5) (nomark _)) (pw_and1 (pt_cmpR op_ne (pe_op op_sub (pe_cL c_rank1 hr (pa_cons (pv 1) pa_nil)) (pe_cL c_rank1 hr (pa_cons (pv 5) pa_nil))) (pv 6) (nomark _))))) (pss_one (ps_ret pe_bl)) pss_nil)
        (pss_one (ps_if (PW.pt (pw_and (pt_cmpR op_ne (pv 1) (pv 5) (nomark _)) (pw_and1 (pt_cmpR op_ne (pe_cmpR op_lt_str (pv 5) (pv 1) (nomark _)) (pe_cmpR op_eq (pv 6) pe_int (nomark _)) (nomark _))))) (pss_one (ps_ret pe_bl)) pss_nil)))))
        (pss_cons (ps_asg (pe_c c_gone hr (pa_cons (pv 1) (pa_cons (pe_op op_fdiv (pv 4) pe_int) pa_nil))) (pg_tup (by rfl) (pgs_cons (pg_name (i := 1) nd rfl (.inl rfl)) (pgs_cons (pg_name (i := 7) nd rfl (.inl rfl)) pgs_nil))))
        (pss_one (ps_if (pt_cmpR op_ne (pv 1) (pv 7) (nomark _)) (pss_one (ps_ret pe_bl)) pss_nil))))
      (pss_one (ps_if (PW.pt (pw_or (pt_not (pt_val (pe_c c_is_hill1 hr (pa_cons (pv 1) pa_nil)))) (pw_or1 (pt_cmpR op_ne (pe_callB call_len_seq (by rfl) m_len PySem.boot_len (pa_cons (pe_cL c_heights hr (pa_cons (pv 1) pa_nil)) pa_nil)) (pe_op op_add (pe_callB call_len_str (by rfl) m_len PySem.boot_len (pa_cons (pv 1) pa_nil)) pe_int) (nomark _))))) (pss_one (ps_ret pe_bl)) pss_nil)))))))
    (pss_one (ps_ret (pe_cmpR op_eq (pe_cL c_rank1 hr (pa_cons (pe_cL c_row_at1 hr (pa_cons (pe_op op_fdiv (pe_callB call_len_str (by rfl) m_len PySem.boot_len (pa_cons (pv 1) pa_nil)) pe_int) (pa_cons (pe_cL c_rank1 hr (pa_cons (pv 1) pa_nil)) pa_nil))) pa_nil)) (pe_cL c_rank1 hr (pa_cons (pv 1) pa_nil)) (nomark _)))))), ?_⟩
    refine ⟨.ref a, rfl, a, ns.map V.int, rfl, hS, ?_⟩
    refine for_it (walk_enum (K := K) (a := a) (xs := ns.map V.int)) (fun i σ H' => ∃ (g : Gv) (y2 y3 y4 y5 y6 y7 : Option V), σ = [some (.ref a), some (.str (txt g.row)), y2, y3, y4, y5, y6, y7] ∧ Same H H' ∧ g.row.length ≤ 4 * i) ?_ ?_ ?_ ?_
    · refine ⟨.no, none, none, none, none, none, none, ?_, Same.refl H, Nat.zero_le _⟩
      rw [enil]
      rfl
    · rintro i σ H' _ ⟨_, _, _, _, _, _, _, rfl, sm, _⟩
      exact sm.seq hS
    · rintro i x σ H1 H2 hi ⟨g, y2, y3, y4, y5, y6, y7, rfl, sm, hg⟩ ⟨T, k0, v, rfl, nT, rfl, ek, ev⟩
      have ek : k0 = .int (i : Int) := (Option.some.inj ek).symm
      subst ek
      rw [List.length_map] at hi
      obtain ⟨z, rfl⟩ : ∃ z, v = .int z := by
        have ev : (ns.map V.int)[i]? = some v := ev
        rw [List.getElem?_map] at ev
        obtain ⟨z, _, e⟩ := Option.map_eq_some_iff.mp ev
        exact ⟨z, e.symm⟩
      refine ⟨T, _, rfl, .inl (.inl upd_same), rfl, _, _, rfl, _, _, rfl, rfl, ?_⟩
      replace sm := sm.trans (same_upd (o := .tup [.int (i : Int), .int z]) nT)
      generalize upd H1 T (.tup [.int (i : Int), .int z]) = H3 at sm ⊢
      refine ⟨.int z, rfl, .int (i : Int), rfl, z, (i : Int), rfl, ?_⟩
      have h0 := mixed_nonneg z i
      generalize mixed z i = mk at h0 ⊢
      -- not too long
      refine ⟨fun σ' H' => ∃ g' : Gv, σ' = [some (.ref a), some (.str (txt g'.row)), some (.int (i : Int)), some (.int z), some (.int mk), y5, y6, y7] ∧ Same H H' ∧ g'.row.length ≤ 4 * i, ?_, ?_⟩
      · have hzl : (txt g.row).length = g.row.length := txt_len _
        refine ⟨_, rfl, txt g.row, rfl, sz (by omega), _, 56, rfl, rfl, _, rfl, ite2 (fun e => ?_) (fun e => ?_)⟩
        · have e : (56 : Int) < ((txt g.row).length : Int) := of_decide_eq_true e
          cases g with
          | no =>
            have e0 : (txt Gv.no.row).length = 0 := by decide +kernel
            rw [e0] at e
            exact absurd e (by decide)
          | tree b c =>
            refine ⟨_, rfl, b, c, rfl, by omega, fun H4 p s4 hp => ?_⟩
            refine ⟨p, _, _, _, rfl, rfl, .inl (.inl hp), at_of (j := 1) rfl rfl, ?_⟩
            refine ⟨c, rfl, sm.trans s4, ?_⟩
            have := tree_row b c
            have h2 := congrArg List.length this
            rw [List.length_append] at h2
            omega
        · exact ⟨g, rfl, sm, hg⟩
      rintro σ' H4 ⟨g1, rfl, s4, hg1⟩
      clear sm hg g
      refine ⟨_, rfl, ?_⟩
      have hzl : (txt g1.row).length = g1.row.length := txt_len _
      -- a deed
      refine ⟨fun σ' H' => ∃ (g2 : Gv) (y6 y7 : Option V), σ' = [some (.ref a), some (.str (txt g2.row)), some (.int (i : Int)), some (.int z), some (.int mk), some (.str (txt g1.row)), y6, y7] ∧ Same H H' ∧ g2.row.length ≤ 4 * i + 4, ?_, ?_⟩
      · refine ⟨_, rfl, mk, 3, rfl, rfl, (by show (0 : Int) < 3; decide), rfl, _, rfl, ite2 (fun _ => ?_) (fun _ => ?_)⟩
        · refine ⟨_, rfl, rfl, _, rfl, ?_⟩
          cases g1 with
          | no =>
            rw [no_empty]
            refine iteF ?_
            refine ⟨_, rfl, _, rfl, mk, 3, rfl, rfl, ⟨by decide, by decide⟩, .no, mk / 3, rfl, by decide, fun l' H5 p s5 ok' hl' hp => ?_⟩
            obtain ⟨g2, rfl⟩ := grove_row ok'
            refine ⟨p, _, rfl, .inl (.inl hp), rfl, _, _, rfl, _, _, rfl, rfl, ?_⟩
            refine ⟨_, rfl, _, rfl, rfl, _, rfl, ?_⟩
            rw [ne_self]
            refine iteF ?_
            exact ⟨g2, _, _, rfl, s4.trans s5, Nat.le_trans hl' (Nat.add_le_add_right hg1 4)⟩
          | tree b c =>
            rw [tree_full]
            refine iteT ?_
            have hpos := tree_pos b c
            generalize Gv.tree b c = g1 at hg1 hzl hpos ⊢
            have hh := gv_hill g1
            have hn : g1.row.length / 2 ≤ 200 := by omega
            have hn2 := hh.2
            generalize g1.row.length / 2 = n at hh hn hn2
            obtain ⟨j, x, st, ej, hx, hst, hs1, hb⟩ := pick14 hh mk h0
            refine ⟨_, rfl, g1.row, none, n, rfl, trivial, hh, hn, fun H5 s5 => ?_⟩
            refine ⟨_, rfl, g1.row, none, n, rfl, trivial, hh, hn, fun H6 s6 => ?_⟩
            refine ⟨sz (show 2 ≤ 1000000 by decide), fun L nL => ?_⟩
            have s7 := same_upd (o := .lst [nextV none n g1.row, aheadV none n g1.row]) nL
            have eL : (upd H6 L (.lst [nextV none n g1.row, aheadV none n g1.row])) L = some (.lst [nextV none n g1.row, aheadV none n g1.row]) := upd_same
            generalize upd H6 L (.lst [nextV none n g1.row, aheadV none n g1.row]) = H7 at s7 eL ⊢
            have sA := s4.trans (s5.trans (s6.trans s7))
            refine ⟨_, rfl, mk, 3, rfl, rfl, ⟨by decide, by decide⟩, mk / 3, 2, rfl, rfl, (by show (0 : Int) < 2; decide), L, _, _, x, rfl, rfl, .inl (.inl eL), at_of ej hx, ?_⟩
            clear s4 s5 s6 s7 eL nL
            have e0 : ¬ ((0 : Int) = 1) := by decide
            rcases hb with rfl | ⟨l2, rfl, hl2, hr⟩
            · refine ⟨false, rfl, iteF ?_⟩
              refine ⟨_, rfl, ?_⟩
              refine ⟨1, rfl, sz (show 2 ≤ 1000000 by decide), fun L2 nL2 => ?_⟩
              have s8 := same_upd (o := .lst [.int 1, .int (-1)]) nL2
              have eL2 : (upd H7 L2 (.lst [.int 1, .int (-1)])) L2 = some (.lst [.int 1, .int (-1)]) := upd_same
              generalize upd H7 L2 (.lst [.int 1, .int (-1)]) = H8 at s8 eL2 ⊢
              refine ⟨_, rfl, mk, 3, rfl, rfl, ⟨by decide, by decide⟩, mk / 3, 2, rfl, rfl, (by show (0 : Int) < 2; decide), L2, _, _, .int st, rfl, rfl, .inl (.inl eL2), at_of ej hst, ?_⟩
              refine ⟨_, rfl, _, rfl, rfl, _, rfl, ?_⟩
              rw [ne_self]
              refine iteF ?_
              refine iteF ?_
              refine ⟨_, rfl, _, rfl, rfl, _, rfl, ?_⟩
              rw [ne_self]
              refine iteF ?_
              refine iteF ?_
              exact ⟨g1, _, _, rfl, sA.trans s8, by omega⟩
            · have zl2 : (txt l2).length = 2 * n := by rw [txt_len, hl2.2]
              have hne : ¬ (V.str (txt l2) = V.str (txt g1.row)) := fun e => by
                have e := txt_inj (V.str.inj e)
                rw [e] at hr
                omega
              have tne : (!decide (V.str (txt l2) = V.str (txt g1.row))) = true := by
                rw [decide_eq_false hne]
                rfl
              refine ⟨true, ⟨sz (by omega), ?_⟩, iteT ?_⟩
              · have : ((txt l2).length : Int) ≠ 0 := by omega
                exact (bne_iff_ne.mpr this).symm
              refine ⟨1, rfl, sz (show 2 ≤ 1000000 by decide), fun L2 nL2 => ?_⟩
              have s8 := same_upd (o := .lst [.int 1, .int (-1)]) nL2
              have eL2 : (upd H7 L2 (.lst [.int 1, .int (-1)])) L2 = some (.lst [.int 1, .int (-1)]) := upd_same
              generalize upd H7 L2 (.lst [.int 1, .int (-1)]) = H8 at s8 eL2 ⊢
              refine ⟨_, rfl, mk, 3, rfl, rfl, ⟨by decide, by decide⟩, mk / 3, 2, rfl, rfl, (by show (0 : Int) < 2; decide), L2, _, _, .int st, rfl, rfl, .inl (.inl eL2), at_of ej hst, ?_⟩
              refine ⟨_, rfl, _, rfl, rfl, _, rfl, ?_⟩
              rw [tne]
              refine iteT ?_
              refine ⟨_, rfl, l2, none, n, rfl, trivial, hl2, hn, fun H9 s9 => ?_⟩
              refine ⟨_, rfl, g1.row, none, n, rfl, trivial, hh, hn, fun H10 s10 => ?_⟩
              refine ⟨_, _, rfl, rfl, _, rfl, rfl, _, rfl, iteNS (congrArg V.int hr) ?_⟩
              refine ⟨_, rfl, _, rfl, rfl, _, rfl, ?_⟩
              rw [tne]
              refine iteT ?_
              refine ⟨_, rfl, _, rfl, txt g1.row, txt l2, rfl, rfl, _, rfl, rfl, rfl, _, rfl, iteNS ?_ ?_⟩
              · refine congrArg V.bl ?_
                have hsame : g1.row.length = l2.length := by rw [hl2.2, hn2]
                have iff := rank_lt_iff (low n none) g1.row l2 0 hsame hh.low hl2.low
                have iff : rk none n g1.row < rk none n l2 ↔ ltB g1.row l2 = true := iff
                rw [lt_txt hsame, Bool.eq_iff_iff, ← iff, decide_eq_true_eq]
                rcases hs1 with rfl | rfl
                · exact ⟨fun _ => rfl, fun _ => by omega⟩
                · exact ⟨fun h => by omega, fun h => by cases h⟩
              obtain ⟨g2, e2⟩ := grove_row hl2.1
              subst e2
              exact ⟨g2, _, _, rfl, sA.trans (s8.trans (s9.trans s10)), by rw [hl2.2]; omega⟩
        · refine ⟨_, rfl, _, rfl, mk, 3, rfl, rfl, ⟨by decide, by decide⟩, g1, mk / 3, rfl, by omega, fun l' H5 p s5 ok' hl' hp => ?_⟩
          obtain ⟨g2, rfl⟩ := grove_row ok'
          refine ⟨p, _, rfl, .inl (.inl hp), rfl, _, _, rfl, _, _, rfl, rfl, ?_⟩
          refine ⟨_, rfl, _, rfl, rfl, _, rfl, ?_⟩
          rw [ne_self]
          refine iteF ?_
          exact ⟨g2, _, _, rfl, s4.trans s5, by omega⟩
      rintro σ' H5 ⟨g2, z6, z7, rfl, s5, hg2⟩
      clear s4 hg1 hzl
      have hzl : (txt g2.row).length = g2.row.length := txt_len _
      refine ⟨_, rfl, txt g2.row, none, rfl, by omega, fun H6 s6 => ?_⟩
      rw [row_hillB g2.row_hill]
      refine ⟨true, rfl, iteF ?_⟩
      refine ⟨_, rfl, g2.row, rfl, by omega, fun H7 p zs s7 hz hp => ?_⟩
      refine ⟨p, zs, rfl, .inl (.inl (.inl hp)), _, rfl, txt g2.row, rfl, sz (by omega), _, 1, rfl, rfl, rfl, _, rfl, iteNS ?_ ?_⟩
      · exact congrArg V.int (by omega)
      · exact ⟨g2, _, _, _, _, _, _, rfl, s5.trans (s6.trans s7), by omega⟩
    · rintro σ H1 ⟨g, y2, y3, y4, y5, y6, y7, rfl, sm, hg⟩
      rw [List.length_map] at hg
      have hzl : (txt g.row).length = g.row.length := txt_len _
      have hh := gv_hill g
      have hn : g.row.length / 2 ≤ 200 := by omega
      have hn2 := hh.2
      have hlt := hh.rk_lt
      refine ⟨_, rfl, txt g.row, rfl, sz (by omega), _, 2, rfl, rfl, ⟨by decide, by decide⟩, _, rfl, g.row, none, g.row.length / 2, rfl, trivial, hh, hn, fun H2 s2 => ?_⟩
      refine ⟨g.row.length / 2, rk none (g.row.length / 2) g.row, ?_, hn, hlt, fun H3 s3 => ?_⟩
      · show [V.int (((txt g.row).length : Int) / 2), _, V.non] = _
        rw [hzl, show (g.row.length : Int) / 2 = ((g.row.length / 2 : Nat) : Int) by omega]
      refine ⟨_, none, g.row.length / 2, rfl, trivial, rowOf_hill hlt, hn, fun H4 s4 => ?_⟩
      refine ⟨_, rfl, g.row, none, g.row.length / 2, rfl, trivial, hh, hn, fun H5 s5 => ?_⟩
      rw [rowOf_rk hlt]
      refine ⟨rfl, ?_⟩
      rw [decide_eq_true rfl]
      exact q _
end
end Hr
/-! ### what the top has written -/
namespace Hr
open PySem PySem.Spec PyProof.Rows L2
theorem all_mk {l : PySem.W.OpenLaw} {w : World} {K : PySem.W.Frag} {h : Heap} {mg : Str → Option Value} {fa f : Addr} (X : K.In h) (G : h.Ns mainGlobals mg) (hfa : mg "law" = some (.ref fa))
    {od an : Option Addr} {sl : Array (Option Value)} {oc kV dc pm cd ct : Value} {tk_MOST_UPS tk_MOST_HEIGHT tk_MOST_SIGNS tk_UP tk_DOWN tk_MOST_TIMES tk_BLANK tk_NO_RUNS : Tok} {CH c0 c1 c2 c4 c5 c7 fI cda cc7 N7 : Addr} {nm7 q7 : Str} {bs7 : List Value} {sn7 : List Str} {sub7 : List Value} {ab7 : Bool} {col7 : Option Bool} {dd7 : Option Addr} {j0 j1 j2 j3 j5 : Option Value} {oc7 ccl7 cl7 doc7 pm7 ct7 : Value} {od7 an7 cdd7 cld7 : Option Addr} {osl7 ccs7 csl7 : Array (Option Value)} {vv7 : Array Value} {file7 : Str} {tf7 : Tok}
    (a : PySem.W.nsIn K mainGlobals "law" = some (some (.ref f))) (l1 : K.lookup f = some ⟨oc, od, .func (PySem.W.fnOf "law" "law" (defArgs sLaw) (defBody sLaw) (defScope sLaw) .none kV dc pm an cd ct), sl⟩) (c : PySem.W.codeIn K cd "law" = true) (k : PySem.W.keepIn K (.ref f) = true)
    (d_hill_table : Def K mg "hill_table" sHill ["n", "ceiling"])
    (d_ways_table : Def K mg "ways_table" sTable ["left", "top"])
    (d_with_one_more_sign : Def K mg "with_one_more_sign" sStep ["found"])
    (d_lower_of : Def K mg "lower_of" sLow ["height", "ceiling"])
    (d_check_ceiling : Def K mg "check_ceiling" sChCei ["ceiling"])
    (d_heights : Def K mg "heights" sHeights ["row"])
    (d_is_row : Def K mg "is_row" sIsRow ["text"])
    (d_row_beside : Def K mg "row_beside" sBeside ["row", "ceiling", "step"])
    (d_number_of : Def K mg "number_of" sNumOf ["row", "table"])
    (d_row_of_number : Def K mg "row_of_number" sOfNum ["r", "table"])
    (d_ways_down : Def K mg "ways_down" sDown ["table", "height", "left"])
    (d_row_count : Def K mg "row_count" sCount ["table"])
    (d_folded : Def K mg "folded" s_folded ["row"])
    (d_unfolded : Def K mg "unfolded" s_unfolded ["grove"])
    (d_trees_from_last : Def K mg "trees_from_last" s_trees_from_last ["grove"])
    (d_pairs : Def K mg "pairs" s_pairs ["row"])
    (d_row_of_pairs : Def K mg "row_of_pairs" s_row_of_pairs ["places"])
    (d_is_list_of_places : Def K mg "is_list_of_places" s_is_list_of_places ["places"])
    (d_cut : Def K mg "cut" s_cut ["row"])
    (d_parts : Def K mg "parts" s_parts ["row"])
    (d_joined : Def K mg "joined" s_joined ["rows"])
    (d_mirrored : Def K mg "mirrored" s_mirrored ["row"])
    (d_rank_told : Def K mg "rank_told" s_rank_told ["row"])
    (d_row_told : Def K mg "row_told" s_row_told ["n", "k", "i", "r"])
    (d_runs : Def K mg "runs" s_runs ["row"])
    (d_equal_signs : Def K mg "equal_signs" s_equal_signs ["row"])
    (d_row_of : Def K mg "row_of" s_row_of ["text"])
    (d_check_words : Def K mg "check_words" s_check_words ["words"])
    (d_rise : Def K mg "rise" s_rise ["run"])
    (d_is_run : Def K mg "is_run" s_is_run ["word"])
    (d_is_length : Def K mg "is_length" s_is_length ["text"])
    (d_law_mixed : Def K mg "_law_mixed" sMixed ["_law_cell", "_law_k"])
    (d_law_mirrored : Def K mg "_law_mirrored" sMir ["_law_row"])
    (d_law_gone : Def K mg "_law_gone" sGone ["_law_row", "_law_mark"])
    (d_is_hill : DefD K mg "is_hill" sIsHill ["row", "ceiling"])
    (d_check_hill : DefD K mg "check_hill" sChHill ["row", "ceiling"])
    (d_rank : DefD K mg "rank" sRank ["row", "ceiling"])
    (d_row_at : DefD K mg "row_at" sRowAt ["n", "r", "ceiling"])
    (d_next_row : DefD K mg "next_row" sNext ["row", "ceiling"])
    (d_ahead_row : DefD K mg "ahead_row" sAhead ["row", "ceiling"])
    (d_is_number : DefV K mg "is_number" sIsNum ["value", "most", "least"] (.int 0))
    (d_check_number : DefV K mg "check_number" sChNum ["value", "most", "least"] (.int 0))
    (d_lifted : DefV K mg "lifted" s_lifted ["row", "times"] (.int 1))
    (g_MOST_UPS : PySem.W.nsIn K mainGlobals "MOST_UPS" = some (some (.int 200 tk_MOST_UPS)))
    (g_MOST_HEIGHT : PySem.W.nsIn K mainGlobals "MOST_HEIGHT" = some (some (.int 200 tk_MOST_HEIGHT)))
    (g_MOST_SIGNS : PySem.W.nsIn K mainGlobals "MOST_SIGNS" = some (some (.int 400 tk_MOST_SIGNS)))
    (g_UP : PySem.W.nsIn K mainGlobals "UP" = some (some (.str "u" tk_UP)))
    (g_DOWN : PySem.W.nsIn K mainGlobals "DOWN" = some (some (.str "d" tk_DOWN)))
    (g_MOST_TIMES : PySem.W.nsIn K mainGlobals "MOST_TIMES" = some (some (.int 200 tk_MOST_TIMES)))
    (g_BLANK : PySem.W.nsIn K mainGlobals "BLANK" = some (some (.str " " tk_BLANK)))
    (g_NO_RUNS : PySem.W.nsIn K mainGlobals "NO_RUNS" = some (some (.str "-" tk_NO_RUNS)))
    (z_all : PySem.W.nsIn K mainGlobals "all" = some none)
    (z_bool : PySem.W.nsIn K mainGlobals "bool" = some none)
    (z_enumerate : PySem.W.nsIn K mainGlobals "enumerate" = some none)
    (z_int : PySem.W.nsIn K mainGlobals "int" = some none)
    (z_isinstance : PySem.W.nsIn K mainGlobals "isinstance" = some none)
    (z_len : PySem.W.nsIn K mainGlobals "len" = some none)
    (z_list : PySem.W.nsIn K mainGlobals "list" = some none)
    (z_max : PySem.W.nsIn K mainGlobals "max" = some none)
    (z_min : PySem.W.nsIn K mainGlobals "min" = some none)
    (z_range : PySem.W.nsIn K mainGlobals "range" = some none)
    (z_reversed : PySem.W.nsIn K mainGlobals "reversed" = some none)
    (z_str : PySem.W.nsIn K mainGlobals "str" = some none)
    (z_super : PySem.W.nsIn K mainGlobals "super" = some none)
    (z_tuple : PySem.W.nsIn K mainGlobals "tuple" = some none)
    (z_zip : PySem.W.nsIn K mainGlobals "zip" = some none)
    (gc0 : PySem.W.nsIn K mainGlobals "NoRow" = some (some (.ref c0)))
    (gc1 : PySem.W.nsIn K mainGlobals "NoCount" = some (some (.ref c1)))
    (gc2 : PySem.W.nsIn K mainGlobals "NoRank" = some (some (.ref c2)))
    (gc4 : PySem.W.nsIn K mainGlobals "NoTree" = some (some (.ref c4)))
    (gc5 : PySem.W.nsIn K mainGlobals "NoPairs" = some (some (.ref c5)))
    (gc7 : PySem.W.nsIn K mainGlobals "NoText" = some (some (.ref c7)))
    (gH : PySem.W.nsIn K mainGlobals "HillError" = some (some (.ref CH)))
    (x0 : PySem.W.excIn K c0 [.type "ValueError", .type "Exception", .type "BaseException", .type "object"] "ValueError.__new__" = true)
    (k0 : PySem.W.keepIn K (.ref c0) = true)
    (b0 : PySem.W.subIn K (.ref c0) (.type "BaseException") = some true)
    (t0 : PySem.W.typeIn K (.ref c0) = some (.type "type"))
    (x1 : PySem.W.excIn K c1 [.type "ValueError", .type "Exception", .type "BaseException", .type "object"] "ValueError.__new__" = true)
    (k1 : PySem.W.keepIn K (.ref c1) = true)
    (b1 : PySem.W.subIn K (.ref c1) (.type "BaseException") = some true)
    (t1 : PySem.W.typeIn K (.ref c1) = some (.type "type"))
    (x2 : PySem.W.excIn K c2 [.type "ValueError", .type "Exception", .type "BaseException", .type "object"] "ValueError.__new__" = true)
    (k2 : PySem.W.keepIn K (.ref c2) = true)
    (b2 : PySem.W.subIn K (.ref c2) (.type "BaseException") = some true)
    (t2 : PySem.W.typeIn K (.ref c2) = some (.type "type"))
    (x4 : PySem.W.excIn K c4 [.type "ValueError", .type "Exception", .type "BaseException", .type "object"] "ValueError.__new__" = true)
    (k4 : PySem.W.keepIn K (.ref c4) = true)
    (b4 : PySem.W.subIn K (.ref c4) (.type "BaseException") = some true)
    (t4 : PySem.W.typeIn K (.ref c4) = some (.type "type"))
    (x5 : PySem.W.excIn K c5 [.type "ValueError", .type "Exception", .type "BaseException", .type "object"] "ValueError.__new__" = true)
    (k5 : PySem.W.keepIn K (.ref c5) = true)
    (b5 : PySem.W.subIn K (.ref c5) (.type "BaseException") = some true)
    (t5 : PySem.W.typeIn K (.ref c5) = some (.type "type"))
    (k7 : PySem.W.keepIn K (.ref c7) = true)
    (b7 : PySem.W.subIn K (.ref c7) (.type "BaseException") = some true)
    (t7 : PySem.W.typeIn K (.ref c7) = some (.type "type"))
    (xc7 : K.lookup c7 = some (excClassObj nm7 q7 c7 N7 bs7 [.ref CH, .type "ValueError", .type "Exception", .type "BaseException", .type "object"] true sn7 sub7 ab7 col7 dd7 j0 j1 j2 j3 j5 "ValueError.__new__"))
    (sa7 : PySem.W.findIn K (.ref c7) "__setattr__" = some (some (.builtin "object.__setattr__")))
    (no7 : PySem.W.findIn K (.ref c7) "word" = some none)
    (iC7 : PySem.W.findIn K (.ref c7) "__init__" = some (some (.ref fI)))
    (tI7 : PySem.W.typeIn K (.ref fI) = some (.type "function"))
    (su7 : PySem.W.ks_superIn K c7 c7 "__init__" = some (some (.builtin "ValueError.__init__")))
    (ow7 : PySem.W.mroIn K c7 (.ref c7) = some true)
    (vs7 : PySem.W.subIn K (.ref c7) (.type "ValueError") = some true)
    (op7 : PySem.W.nsIn K PySem.cStatics "thirdparty.any" = some none)
    (fn7 : K.lookup fI = some ⟨oc7, od7, .func (PySem.W.ksFn "__init__" "NoText.__init__" PySem.NTX.ntA PySem.NTX.ntB PySem.NTX.ntS .none .none doc7 pm7 an7 (.ref cda) ct7 cc7), osl7⟩)
    (cd7 : PySem.W.codeIn K (.ref cda) "NoText.__init__" = true)
    (co7 : K.lookup cda = some ⟨ccl7, cdd7, .fields vv7, ccs7⟩)
    (vw7 : vv7[2]? = some (.str file7 tf7))
    (fi7 : ((l.prog.main.file : Str) == file7) = true)
    (ce7 : K.lookup cc7 = some ⟨cl7, cld7, .cell (some (.ref c7)), csl7⟩)
    (ht7 : (l.prog.main.scope.names.lookup ("super" : Str)).isSome = false)
    : ∃ fd : FuncData, (∀ (s : Shared) (v : Value), BindsTo s fd ⟨[v], []⟩ [("_law_script", v)]) ∧ ∀ base : Heap, K.In base → base.Ns mainGlobals mg → FnOk l.prog w K mg base CX0 9 fa fd ["_law_script"] (spLaw K) := by
  have e := hfa.symm.trans (PySem.W.mg_of X G a)
  cases e
  have F := fun_mk (st := sLaw) l1 c k
  refine ⟨PySem.W.fnOf "law" "law" (defArgs sLaw) (defBody sLaw) (defScope sLaw) .none kV dc pm an cd ct, fun s v => .of_eq rfl, fun base _ _ => ?_⟩
  have m_all := PySem.W.mg_none_of X G z_all
  have m_bool := PySem.W.mg_none_of X G z_bool
  have m_enumerate := PySem.W.mg_none_of X G z_enumerate
  have m_int := PySem.W.mg_none_of X G z_int
  have m_isinstance := PySem.W.mg_none_of X G z_isinstance
  have m_len := PySem.W.mg_none_of X G z_len
  have m_list := PySem.W.mg_none_of X G z_list
  have m_max := PySem.W.mg_none_of X G z_max
  have m_min := PySem.W.mg_none_of X G z_min
  have m_range := PySem.W.mg_none_of X G z_range
  have m_reversed := PySem.W.mg_none_of X G z_reversed
  have m_str := PySem.W.mg_none_of X G z_str
  have m_super := PySem.W.mg_none_of X G z_super
  have m_tuple := PySem.W.mg_none_of X G z_tuple
  have m_zip := PySem.W.mg_none_of X G z_zip
  have c_MOST_UPS := PySem.W.mg_of X G g_MOST_UPS
  have c_MOST_HEIGHT := PySem.W.mg_of X G g_MOST_HEIGHT
  have c_MOST_SIGNS := PySem.W.mg_of X G g_MOST_SIGNS
  have c_UP := PySem.W.mg_of X G g_UP
  have c_DOWN := PySem.W.mg_of X G g_DOWN
  have c_MOST_TIMES := PySem.W.mg_of X G g_MOST_TIMES
  have c_BLANK := PySem.W.mg_of X G g_BLANK
  have c_NO_RUNS := PySem.W.mg_of X G g_NO_RUNS
  have mc0 := PySem.W.mg_of X G gc0
  have mc1 := PySem.W.mg_of X G gc1
  have mc2 := PySem.W.mg_of X G gc2
  have mc4 := PySem.W.mg_of X G gc4
  have mc5 := PySem.W.mg_of X G gc5
  have mc7 := PySem.W.mg_of X G gc7
  have er0 : Err K mg "NoRow" c0 := ⟨mc0, x0, k0, b0, t0⟩
  have er1 : Err K mg "NoCount" c1 := ⟨mc1, x1, k1, b1, t1⟩
  have er2 : Err K mg "NoRank" c2 := ⟨mc2, x2, k2, b2, t2⟩
  have er4 : Err K mg "NoTree" c4 := ⟨mc4, x4, k4, b4, t4⟩
  have er5 : Err K mg "NoPairs" c5 := ⟨mc5, x5, k5, b5, t5⟩
  have ox7 : L2.OexC K c7 := ⟨⟨_, _, _, _, _, _, _, _, _, _, _, _, _, _, _, xc7, rfl⟩, sa7, b7, t7, k7⟩
  have nt : PySem.NTX.NTxt l.prog K mg c7 fI := ⟨mc7, ox7, no7, iC7, tI7, su7, ow7, vs7, op7, m_super, ⟨_, _, _, _, _, _, _, _, _, _, _, _, _, _, _, _, _, _, fn7, cd7, co7, vw7, fi7, ce7⟩, ht7⟩
  obtain ⟨cIsNumA, cIsNum⟩ := cal_isNumV (P := l.prog) (w := w) (base := base) d_is_number m_isinstance m_int m_bool
  obtain ⟨cChNumA, cChNum⟩ := cal_chNumX er1 d_check_number cIsNumA
  obtain ⟨_, cChNumL⟩ := cal_chNumL er1 d_check_number cIsNumA
  have cChCei := cal_chCeiX d_check_ceiling cChNum c_MOST_HEIGHT
  have cLow := cal_low (P := l.prog) (w := w) (base := base) d_lower_of m_min
  have cStep := cal_step (P := l.prog) (w := w) (base := base) d_with_one_more_sign m_len m_range
  have cTable := cal_table d_ways_table cStep m_range
  have cHill := cal_hill d_hill_table cTable cLow
  have cIsRow := cal_isRow (P := l.prog) (w := w) (base := base) d_is_row m_isinstance m_str m_all c_UP c_DOWN
  have cHeights := cal_heightsX er0 d_heights cIsRow c_UP
  obtain ⟨cIsHill, cIsHill1⟩ := cal_isHill d_is_hill cIsRow cHeights m_min m_max
  obtain ⟨cChHill, cChHill1⟩ := cal_chHillX er0 d_check_hill cIsHill
  have cDown := cal_down (P := l.prog) (w := w) (base := base) d_ways_down
  have cCount := cal_count (P := l.prog) (w := w) (base := base) d_row_count
  have cNumOf := cal_numOf d_number_of cDown m_len c_UP
  have cOfNum := cal_ofNum d_row_of_number cDown m_len m_range m_reversed c_UP c_DOWN
  obtain ⟨cRank, cRank1⟩ := cal_rankX d_rank cChCei cChHill cHill cNumOf m_len
  obtain ⟨cRowAt, cRowAt1⟩ := cal_rowAtX er2 d_row_at cChNum cChCei cIsNum cHill cOfNum cCount c_MOST_UPS
  have cBeside := cal_beside14 d_row_beside cChCei cChHill cHill cNumOf cIsNum cOfNum cCount m_len
  obtain ⟨cNext, cNext1⟩ := cal_next14 d_next_row cBeside
  obtain ⟨cAhead, cAhead1⟩ := cal_ahead14 d_ahead_row cBeside
  have cTrees := cal_trees (P := l.prog) (w := w) (base := base) er4 d_trees_from_last m_isinstance m_tuple m_list m_reversed
  have cUnf := cal_unf d_unfolded cTrees c_UP c_DOWN
  have cFolded := cal_folded d_folded cChHill1 c_UP m_tuple
  have cPairs := cal_pairsX d_pairs cChHill1 m_len m_enumerate c_UP
  have cIsPlaces := cal_isPlaces d_is_list_of_places cIsNum m_isinstance m_list m_len m_all
  have cOf := cal_ofPairs er5 d_row_of_pairs cIsPlaces cIsHill1 cPairs m_enumerate c_UP c_DOWN
  have cParts := cal_partsX d_parts cChHill1 cHeights m_enumerate m_zip
  have cCut := cal_cutX er0 d_cut cParts m_len
  have cJoined := cal_joinedX d_joined cChHill1
  obtain ⟨cLifted, cLifted1⟩ := cal_liftedX d_lifted cChHill1 cChNum c_MOST_TIMES c_UP c_DOWN
  have cMir := cal_mirX d_mirrored cChHill1 m_reversed c_UP c_DOWN
  have cRankTold := cal_rankTold d_rank_told cCut cRank1 m_len
  have cRowTold := cal_rowTold (cs := (eight c0 c1 c2 c0 c4 c5 c0 c7)) d_row_told cChNumA cChNumL cRowAt1 cLifted1 c_MOST_UPS
  have cEq := cal_eq (P := l.prog) (w := w) (base := base) d_equal_signs c_UP c_DOWN c_BLANK
  have cRuns := cal_runs d_runs cChHill1 cEq c_NO_RUNS m_len
  have cLen := cal_len (P := l.prog) (w := w) (base := base) d_is_length c_MOST_SIGNS m_len m_str m_int
  have cRun := cal_run d_is_run cLen c_UP c_DOWN
  have cRise := cal_rise (P := l.prog) (w := w) (base := base) d_rise c_UP m_int
  have cCheck := cal_check (text_mk nt) d_check_words cRun cRise m_enumerate m_len
  have cRowOf := cal_rowOf d_row_of cCheck c_NO_RUNS c_BLANK m_int
  have cMixed := cal_mixed (P := l.prog) (w := w) (base := base) d_law_mixed
  have cLMir := cal_lmir (P := l.prog) (w := w) (base := base) d_law_mirrored m_int
  have cGone := cal_gone d_law_gone (liftG cLifted) (liftG cLifted1) (joinG cJoined) (mirG cMir) cLMir (unfG cUnf) (foldG cFolded) (ofPairsG cOf) (pairsG cPairs) (ofRunsG cRowOf) (runsG cRuns) (partsG cParts) (cutG cCut) (rankToldG cRankTold) (rowToldG cRowTold) (rowAtG cRowAt1)
  exact ok_law F cMixed cGone (cutG cCut) cNext1 cAhead1 (rankG cRank1) (rowAtG cRowAt1) cIsHill1 (heightsG cHeights) m_len m_enumerate
end Hr
open PySem PySem.W PyProof.Rows
set_option maxHeartbeats 0 in
theorem PySem.Challenge.cw_hillrows_k14_whole_by_deeds_holds : PySem.Challenge.rw_hillrows_k14_whole_by_deeds.Holds := by
  w_on; o_law; k_head; (case hw => w_witness2)
  k_fill
  refine L2.walk_of (l := PySem.Challenge.rw_hillrows_k14_whole_by_deeds) (n := 63) (k := 9) (x := "_law_script") (CX := fun _ => L2.CX0) (sp := fun w => Hr.spLaw _) rfl (by decide) rfl ⟨rfl, by decide, by decide⟩ (fun w h Y => PySem.W.kIn_of Y) ?F (fun _ _ a ns hl _ hS => ⟨a, ns, rfl, hS, hl, fun _ => rfl⟩) (fun _ _ _ _ _ h => h)
  case F =>
    intro w mg fa h KX G hmg
    refine' Hr.all_mk KX G hmg ?a ?l1 ?c ?k ?d_hill_table ?d_ways_table ?d_with_one_more_sign ?d_lower_of ?d_check_ceiling ?d_heights ?d_is_row ?d_row_beside ?d_number_of ?d_row_of_number ?d_ways_down ?d_row_count ?d_folded ?d_unfolded ?d_trees_from_last ?d_pairs ?d_row_of_pairs ?d_is_list_of_places ?d_cut ?d_parts ?d_joined ?d_mirrored ?d_rank_told ?d_row_told ?d_runs ?d_equal_signs ?d_row_of ?d_check_words ?d_rise ?d_is_run ?d_is_length ?d_law_mixed ?d_law_mirrored ?d_law_gone ?d_is_hill ?d_check_hill ?d_rank ?d_row_at ?d_next_row ?d_ahead_row ?d_is_number ?d_check_number ?d_lifted ?g_MOST_UPS ?g_MOST_HEIGHT ?g_MOST_SIGNS ?g_UP ?g_DOWN ?g_MOST_TIMES ?g_BLANK ?g_NO_RUNS ?z_all ?z_bool ?z_enumerate ?z_int ?z_isinstance ?z_len ?z_list ?z_max ?z_min ?z_range ?z_reversed ?z_str ?z_super ?z_tuple ?z_zip ?gc0 ?gc1 ?gc2 ?gc4 ?gc5 ?gc7 ?gH ?x0 ?k0 ?b0 ?t0 ?x1 ?k1 ?b1 ?t1 ?x2 ?k2 ?b2 ?t2 ?x4 ?k4 ?b4 ?t4 ?x5 ?k5 ?b5 ?t5 ?k7 ?b7 ?t7 ?xc7 ?sa7 ?no7 ?iC7 ?tI7 ?su7 ?ow7 ?vs7 ?op7 ?fn7 ?cd7 ?co7 ?vw7 ?fi7 ?ce7 ?ht7
    (case a => k_is); (case l1 => k_is); (case c => k_is); (case k => k_is)
    case d_hill_table =>
      refine' Hr.def_mk KX G (fun _ _ _ _ _ _ us hl => match us, hl with | [_, _], _ => rfl) ?a ?l ?c ?k
      (case a => k_is); (case l => k_is); (case c => k_is); (case k => k_is)
    case d_ways_table =>
      refine' Hr.def_mk KX G (fun _ _ _ _ _ _ us hl => match us, hl with | [_, _], _ => rfl) ?a ?l ?c ?k
      (case a => k_is); (case l => k_is); (case c => k_is); (case k => k_is)
    case d_with_one_more_sign =>
      refine' Hr.def_mk KX G (fun _ _ _ _ _ _ us hl => match us, hl with | [_], _ => rfl) ?a ?l ?c ?k
      (case a => k_is); (case l => k_is); (case c => k_is); (case k => k_is)
    case d_lower_of =>
      refine' Hr.def_mk KX G (fun _ _ _ _ _ _ us hl => match us, hl with | [_, _], _ => rfl) ?a ?l ?c ?k
      (case a => k_is); (case l => k_is); (case c => k_is); (case k => k_is)
    case d_check_ceiling =>
      refine' Hr.def_mk KX G (fun _ _ _ _ _ _ us hl => match us, hl with | [_], _ => rfl) ?a ?l ?c ?k
      (case a => k_is); (case l => k_is); (case c => k_is); (case k => k_is)
    case d_heights =>
      refine' Hr.def_mk KX G (fun _ _ _ _ _ _ us hl => match us, hl with | [_], _ => rfl) ?a ?l ?c ?k
      (case a => k_is); (case l => k_is); (case c => k_is); (case k => k_is)
    case d_is_row =>
      refine' Hr.def_mk KX G (fun _ _ _ _ _ _ us hl => match us, hl with | [_], _ => rfl) ?a ?l ?c ?k
      (case a => k_is); (case l => k_is); (case c => k_is); (case k => k_is)
    case d_row_beside =>
      refine' Hr.def_mk KX G (fun _ _ _ _ _ _ us hl => match us, hl with | [_, _, _], _ => rfl) ?a ?l ?c ?k
      (case a => k_is); (case l => k_is); (case c => k_is); (case k => k_is)
    case d_number_of =>
      refine' Hr.def_mk KX G (fun _ _ _ _ _ _ us hl => match us, hl with | [_, _], _ => rfl) ?a ?l ?c ?k
      (case a => k_is); (case l => k_is); (case c => k_is); (case k => k_is)
    case d_row_of_number =>
      refine' Hr.def_mk KX G (fun _ _ _ _ _ _ us hl => match us, hl with | [_, _], _ => rfl) ?a ?l ?c ?k
      (case a => k_is); (case l => k_is); (case c => k_is); (case k => k_is)
    case d_ways_down =>
      refine' Hr.def_mk KX G (fun _ _ _ _ _ _ us hl => match us, hl with | [_, _, _], _ => rfl) ?a ?l ?c ?k
      (case a => k_is); (case l => k_is); (case c => k_is); (case k => k_is)
    case d_row_count =>
      refine' Hr.def_mk KX G (fun _ _ _ _ _ _ us hl => match us, hl with | [_], _ => rfl) ?a ?l ?c ?k
      (case a => k_is); (case l => k_is); (case c => k_is); (case k => k_is)
    case d_folded =>
      refine' Hr.def_mk KX G (fun _ _ _ _ _ _ us hl => match us, hl with | [_], _ => rfl) ?a ?l ?c ?k
      (case a => k_is); (case l => k_is); (case c => k_is); (case k => k_is)
    case d_unfolded =>
      refine' Hr.def_mk KX G (fun _ _ _ _ _ _ us hl => match us, hl with | [_], _ => rfl) ?a ?l ?c ?k
      (case a => k_is); (case l => k_is); (case c => k_is); (case k => k_is)
    case d_trees_from_last =>
      refine' Hr.def_mk KX G (fun _ _ _ _ _ _ us hl => match us, hl with | [_], _ => rfl) ?a ?l ?c ?k
      (case a => k_is); (case l => k_is); (case c => k_is); (case k => k_is)
    case d_pairs =>
      refine' Hr.def_mk KX G (fun _ _ _ _ _ _ us hl => match us, hl with | [_], _ => rfl) ?a ?l ?c ?k
      (case a => k_is); (case l => k_is); (case c => k_is); (case k => k_is)
    case d_row_of_pairs =>
      refine' Hr.def_mk KX G (fun _ _ _ _ _ _ us hl => match us, hl with | [_], _ => rfl) ?a ?l ?c ?k
      (case a => k_is); (case l => k_is); (case c => k_is); (case k => k_is)
    case d_is_list_of_places =>
      refine' Hr.def_mk KX G (fun _ _ _ _ _ _ us hl => match us, hl with | [_], _ => rfl) ?a ?l ?c ?k
      (case a => k_is); (case l => k_is); (case c => k_is); (case k => k_is)
    case d_cut =>
      refine' Hr.def_mk KX G (fun _ _ _ _ _ _ us hl => match us, hl with | [_], _ => rfl) ?a ?l ?c ?k
      (case a => k_is); (case l => k_is); (case c => k_is); (case k => k_is)
    case d_parts =>
      refine' Hr.def_mk KX G (fun _ _ _ _ _ _ us hl => match us, hl with | [_], _ => rfl) ?a ?l ?c ?k
      (case a => k_is); (case l => k_is); (case c => k_is); (case k => k_is)
    case d_joined =>
      refine' Hr.def_mk KX G (fun _ _ _ _ _ _ us hl => match us, hl with | [_], _ => rfl) ?a ?l ?c ?k
      (case a => k_is); (case l => k_is); (case c => k_is); (case k => k_is)
    case d_mirrored =>
      refine' Hr.def_mk KX G (fun _ _ _ _ _ _ us hl => match us, hl with | [_], _ => rfl) ?a ?l ?c ?k
      (case a => k_is); (case l => k_is); (case c => k_is); (case k => k_is)
    case d_rank_told =>
      refine' Hr.def_mk KX G (fun _ _ _ _ _ _ us hl => match us, hl with | [_], _ => rfl) ?a ?l ?c ?k
      (case a => k_is); (case l => k_is); (case c => k_is); (case k => k_is)
    case d_row_told =>
      refine' Hr.def_mk KX G (fun _ _ _ _ _ _ us hl => match us, hl with | [_, _, _, _], _ => rfl) ?a ?l ?c ?k
      (case a => k_is); (case l => k_is); (case c => k_is); (case k => k_is)
    case d_runs =>
      refine' Hr.def_mk KX G (fun _ _ _ _ _ _ us hl => match us, hl with | [_], _ => rfl) ?a ?l ?c ?k
      (case a => k_is); (case l => k_is); (case c => k_is); (case k => k_is)
    case d_equal_signs =>
      refine' Hr.def_mk KX G (fun _ _ _ _ _ _ us hl => match us, hl with | [_], _ => rfl) ?a ?l ?c ?k
      (case a => k_is); (case l => k_is); (case c => k_is); (case k => k_is)
    case d_row_of =>
      refine' Hr.def_mk KX G (fun _ _ _ _ _ _ us hl => match us, hl with | [_], _ => rfl) ?a ?l ?c ?k
      (case a => k_is); (case l => k_is); (case c => k_is); (case k => k_is)
    case d_check_words =>
      refine' Hr.def_mk KX G (fun _ _ _ _ _ _ us hl => match us, hl with | [_], _ => rfl) ?a ?l ?c ?k
      (case a => k_is); (case l => k_is); (case c => k_is); (case k => k_is)
    case d_rise =>
      refine' Hr.def_mk KX G (fun _ _ _ _ _ _ us hl => match us, hl with | [_], _ => rfl) ?a ?l ?c ?k
      (case a => k_is); (case l => k_is); (case c => k_is); (case k => k_is)
    case d_is_run =>
      refine' Hr.def_mk KX G (fun _ _ _ _ _ _ us hl => match us, hl with | [_], _ => rfl) ?a ?l ?c ?k
      (case a => k_is); (case l => k_is); (case c => k_is); (case k => k_is)
    case d_is_length =>
      refine' Hr.def_mk KX G (fun _ _ _ _ _ _ us hl => match us, hl with | [_], _ => rfl) ?a ?l ?c ?k
      (case a => k_is); (case l => k_is); (case c => k_is); (case k => k_is)
    case d_law_mixed =>
      refine' Hr.def_mk KX G (fun _ _ _ _ _ _ us hl => match us, hl with | [_, _], _ => rfl) ?a ?l ?c ?k
      (case a => k_is); (case l => k_is); (case c => k_is); (case k => k_is)
    case d_law_mirrored =>
      refine' Hr.def_mk KX G (fun _ _ _ _ _ _ us hl => match us, hl with | [_], _ => rfl) ?a ?l ?c ?k
      (case a => k_is); (case l => k_is); (case c => k_is); (case k => k_is)
    case d_law_gone =>
      refine' Hr.def_mk KX G (fun _ _ _ _ _ _ us hl => match us, hl with | [_, _], _ => rfl) ?a ?l ?c ?k
      (case a => k_is); (case l => k_is); (case c => k_is); (case k => k_is)
    case d_is_hill =>
      refine' Hr.defD_mk (m := 1) KX G rfl (fun _ _ _ _ _ _ _ us its hu hi => match us, hu, its, hi with | [_, _], _, [_], _ => ⟨_, rfl, rfl⟩) (fun _ _ _ _ _ _ _ us its hu hi => match us, hu, its, hi with | [_], _, [_], _ => ⟨_, rfl, rfl⟩) ?a ?l ?c ?k ?t
      (case a => k_is); (case l => k_is); (case c => k_is); (case k => k_is); (case t => k_is)
    case d_check_hill =>
      refine' Hr.defD_mk (m := 1) KX G rfl (fun _ _ _ _ _ _ _ us its hu hi => match us, hu, its, hi with | [_, _], _, [_], _ => ⟨_, rfl, rfl⟩) (fun _ _ _ _ _ _ _ us its hu hi => match us, hu, its, hi with | [_], _, [_], _ => ⟨_, rfl, rfl⟩) ?a ?l ?c ?k ?t
      (case a => k_is); (case l => k_is); (case c => k_is); (case k => k_is); (case t => k_is)
    case d_rank =>
      refine' Hr.defD_mk (m := 1) KX G rfl (fun _ _ _ _ _ _ _ us its hu hi => match us, hu, its, hi with | [_, _], _, [_], _ => ⟨_, rfl, rfl⟩) (fun _ _ _ _ _ _ _ us its hu hi => match us, hu, its, hi with | [_], _, [_], _ => ⟨_, rfl, rfl⟩) ?a ?l ?c ?k ?t
      (case a => k_is); (case l => k_is); (case c => k_is); (case k => k_is); (case t => k_is)
    case d_row_at =>
      refine' Hr.defD_mk (m := 2) KX G rfl (fun _ _ _ _ _ _ _ us its hu hi => match us, hu, its, hi with | [_, _, _], _, [_], _ => ⟨_, rfl, rfl⟩) (fun _ _ _ _ _ _ _ us its hu hi => match us, hu, its, hi with | [_, _], _, [_], _ => ⟨_, rfl, rfl⟩) ?a ?l ?c ?k ?t
      (case a => k_is); (case l => k_is); (case c => k_is); (case k => k_is); (case t => k_is)
    case d_next_row =>
      refine' Hr.defD_mk (m := 1) KX G rfl (fun _ _ _ _ _ _ _ us its hu hi => match us, hu, its, hi with | [_, _], _, [_], _ => ⟨_, rfl, rfl⟩) (fun _ _ _ _ _ _ _ us its hu hi => match us, hu, its, hi with | [_], _, [_], _ => ⟨_, rfl, rfl⟩) ?a ?l ?c ?k ?t
      (case a => k_is); (case l => k_is); (case c => k_is); (case k => k_is); (case t => k_is)
    case d_ahead_row =>
      refine' Hr.defD_mk (m := 1) KX G rfl (fun _ _ _ _ _ _ _ us its hu hi => match us, hu, its, hi with | [_, _], _, [_], _ => ⟨_, rfl, rfl⟩) (fun _ _ _ _ _ _ _ us its hu hi => match us, hu, its, hi with | [_], _, [_], _ => ⟨_, rfl, rfl⟩) ?a ?l ?c ?k ?t
      (case a => k_is); (case l => k_is); (case c => k_is); (case k => k_is); (case t => k_is)
    case d_is_number =>
      refine' Hr.defV_mk (m := 2) KX G rfl (fun _ _ _ _ _ _ _ us its hu hi => match us, hu, its, hi with | [_, _, _], _, [_], _ => ⟨_, rfl, rfl⟩) (fun _ _ _ _ _ _ _ us its hu hi => match us, hu, its, hi with | [_, _], _, [_], _ => ⟨_, rfl, rfl⟩) ?a ?l ?c ?k ?hu ?t
      (case a => k_is); (case l => k_is); (case c => k_is); (case k => k_is); (case t => k_is); (case hu => exact ⟨_, rfl⟩)
    case d_check_number =>
      refine' Hr.defV_mk (m := 2) KX G rfl (fun _ _ _ _ _ _ _ us its hu hi => match us, hu, its, hi with | [_, _, _], _, [_], _ => ⟨_, rfl, rfl⟩) (fun _ _ _ _ _ _ _ us its hu hi => match us, hu, its, hi with | [_, _], _, [_], _ => ⟨_, rfl, rfl⟩) ?a ?l ?c ?k ?hu ?t
      (case a => k_is); (case l => k_is); (case c => k_is); (case k => k_is); (case t => k_is); (case hu => exact ⟨_, rfl⟩)
    case d_lifted =>
      refine' Hr.defV_mk (m := 1) KX G rfl (fun _ _ _ _ _ _ _ us its hu hi => match us, hu, its, hi with | [_, _], _, [_], _ => ⟨_, rfl, rfl⟩) (fun _ _ _ _ _ _ _ us its hu hi => match us, hu, its, hi with | [_], _, [_], _ => ⟨_, rfl, rfl⟩) ?a ?l ?c ?k ?hu ?t
      (case a => k_is); (case l => k_is); (case c => k_is); (case k => k_is); (case t => k_is); (case hu => exact ⟨_, rfl⟩)
    (case g_MOST_UPS => k_is)
    (case g_MOST_HEIGHT => k_is)
    (case g_MOST_SIGNS => k_is)
    (case g_UP => k_is)
    (case g_DOWN => k_is)
    (case g_MOST_TIMES => k_is)
    (case g_BLANK => k_is)
    (case g_NO_RUNS => k_is)
    (case z_all => k_is)
    (case z_bool => k_is)
    (case z_enumerate => k_is)
    (case z_int => k_is)
    (case z_isinstance => k_is)
    (case z_len => k_is)
    (case z_list => k_is)
    (case z_max => k_is)
    (case z_min => k_is)
    (case z_range => k_is)
    (case z_reversed => k_is)
    (case z_str => k_is)
    (case z_super => k_is)
    (case z_tuple => k_is)
    (case z_zip => k_is)
    (case gc0 => k_is)
    (case gc1 => k_is)
    (case gc2 => k_is)
    (case gc4 => k_is)
    (case gc5 => k_is)
    (case gc7 => k_is)
    (case gH => k_is)
    (case x0 => k_exc)
    (case k0 => k_is)
    (case b0 => k_is)
    (case t0 => k_is)
    (case x1 => k_exc)
    (case k1 => k_is)
    (case b1 => k_is)
    (case t1 => k_is)
    (case x2 => k_exc)
    (case k2 => k_is)
    (case b2 => k_is)
    (case t2 => k_is)
    (case x4 => k_exc)
    (case k4 => k_is)
    (case b4 => k_is)
    (case t4 => k_is)
    (case x5 => k_exc)
    (case k5 => k_is)
    (case b5 => k_is)
    (case t5 => k_is)
    (case k7 => k_is)
    (case b7 => k_is)
    (case t7 => k_is)
    (case xc7 => k_is)
    (case sa7 => k_is)
    (case no7 => k_is)
    (case iC7 => k_is)
    (case tI7 => k_is)
    (case su7 => first | k_is | rfl | decide +kernel)
    (case ow7 => first | k_is | rfl | decide +kernel)
    (case vs7 => k_is)
    (case op7 => k_is)
    (case fn7 => k_is)
    (case cd7 => k_is)
    (case co7 => k_is)
    (case vw7 => first | rfl | k_is)
    (case fi7 => first | rfl | decide +kernel | k_is)
    (case ce7 => k_is)
    (case ht7 => first | rfl | decide +kernel)
