import PyProof.Rows.All
import Wide.All
import OpenK.AllK
import Wide.FinOn
import HandS.ForMost
import HandS.IsInst
import HandS.Defaults
import HandS.Walk
import HandS.Codes
import HandS.RevRange
import HandS.ForExc
import KE.GoesMore
import HandS.ExcIs
import HandS.RaiseMore
import HandS.FStr
import HandS.ExcValue
import KE.RegKIsAll
import HandS.Rev
import HandS.Style
import HandS.TupSets
import PySem.Challenge.RW_hillrows_k12_whole_told_by_parts
set_option Elab.async false
set_option linter.all false
set_option maxRecDepth 100000
namespace Hr
/-- the ways to the ground with k signs from the height h, none above T (for h at most T) -/
def W (T : Nat) : Nat → Nat → Nat
  | 0, h => if h = 0 then 1 else 0
  | k + 1, h => (if h = 0 then 0 else W T k (h - 1)) + (if h < T then W T k (h + 1) else 0)
theorem W_zero (T : Nat) : ∀ k h, k < h → W T k h = 0
  | 0, h, e => by
    unfold W
    rw [if_neg (by omega)]
  | k + 1, h, e => by
    unfold W
    rw [if_neg (show ¬ h = 0 by omega), W_zero T k (h - 1) (by omega), W_zero T k (h + 1) (by omega)]
    split <;> rfl
theorem W_same {T T' : Nat} (hT : T ≤ T') : ∀ k h, h ≤ T → k + h ≤ 2 * T + 1 → W T k h = W T' k h
  | 0, h, _, _ => by simp only [W]
  | k + 1, h, e, l => by
    simp only [W]
    by_cases h0 : h = 0
    · rw [if_pos h0, if_pos h0]
      by_cases hl : h < T
      · rw [if_pos hl, if_pos (show h < T' by omega), W_same hT k (h + 1) (by omega) (by omega)]
      · rw [if_neg hl]
        by_cases hl' : h < T'
        · rw [if_pos hl', W_zero T' k (h + 1) (by omega)]
        · rw [if_neg hl']
    · rw [if_neg h0, if_neg h0, W_same hT k (h - 1) (by omega) (by omega)]
      by_cases hl : h < T
      · rw [if_pos hl, if_pos (show h < T' by omega), W_same hT k (h + 1) (by omega) (by omega)]
      · rw [if_neg hl]
        by_cases hl' : h < T'
        · rw [if_pos hl', W_zero T' k (h + 1) (by omega)]
        · rw [if_neg hl']
/-- one row of the table -/
def rowW (T k : Nat) : List Int := (List.range (T + 1)).map fun h => ((W T k h : Nat) : Int)
theorem rowW_len (T k : Nat) : (rowW T k).length = T + 1 := by
  unfold rowW
  rw [List.length_map, List.length_range]
theorem rowW_get {T k h : Nat} (e : h ≤ T) : (rowW T k)[h]? = some ((W T k h : Nat) : Int) := by
  unfold rowW
  rw [List.getElem?_map, List.getElem?_range (by omega)]
  rfl
theorem rowW_zero (T : Nat) : rowW T 0 = 1 :: List.replicate T 0 := by
  unfold rowW
  apply List.ext_getElem?
  intro i
  rw [List.getElem?_map]
  cases i with
  | zero => rw [List.getElem?_range (by omega)]; rfl
  | succ i =>
    rw [List.getElem?_cons_succ]
    by_cases h : i < T
    · rw [List.getElem?_range (by omega), List.getElem?_replicate, if_pos h]
      rfl
    · rw [List.getElem?_eq_none (by rw [List.length_range]; omega), List.getElem?_replicate, if_neg h]
      rfl
/-- the padded row -/
def padW (l : List Int) : List Int := 0 :: (l ++ [0])
theorem pad_lo {T k h : Nat} (e : h ≤ T) : (padW (rowW T k))[h]? = some (((if h = 0 then 0 else W T k (h - 1) : Nat)) : Int) := by
  unfold padW
  cases h with
  | zero => rfl
  | succ h =>
    rw [List.getElem?_cons_succ, List.getElem?_append_left (by rw [rowW_len]; omega), rowW_get (by omega)]
    rfl
theorem pad_hi {T k h : Nat} (e : h ≤ T) : (padW (rowW T k))[h + 2]? = some (((if h < T then W T k (h + 1) else 0 : Nat)) : Int) := by
  unfold padW
  rw [List.getElem?_cons_succ]
  by_cases hl : h < T
  · rw [List.getElem?_append_left (by rw [rowW_len]; omega), rowW_get (by omega), if_pos hl]
  · have e : h = T := by omega
    subst e
    rw [List.getElem?_append_right (by rw [rowW_len]; omega), rowW_len, Nat.sub_self, if_neg hl]
    rfl
theorem row_step {T k h : Nat} (e : h ≤ T) : ∃ a b : Int, (padW (rowW T k))[h]? = some a ∧ (padW (rowW T k))[h + 2]? = some b ∧ (rowW T (k + 1))[h]? = some (a + b) := by
  refine ⟨_, _, pad_lo e, pad_hi e, ?_⟩
  rw [rowW_get e]
  simp only [W]
  rw [Int.natCast_add]
theorem W_le (T : Nat) : ∀ k h, W T k h ≤ 2 ^ k
  | 0, h => by
    unfold W
    split <;> decide
  | k + 1, h => by
    have a := W_le T k (h - 1)
    have b := W_le T k (h + 1)
    unfold W
    rw [Nat.pow_succ]
    split <;> split <;> omega

/-! ### hill rows by growing beginnings -/
section
variable {α : Type} (d u : α → α)
/-- the ceiling: none or some k -/
def under : Option Nat → Nat → Bool
  | none, _ => true
  | some c, h => decide (h < c)
def low (h : Nat) : Option Nat → Nat
  | none => h
  | some c => min h c
def grow1 (c : Option Nat) (p : α × Nat) : List (α × Nat) :=
  (if 0 < p.2 then [(d p.1, p.2 - 1)] else []) ++ (if under c p.2 = true then [(u p.1, p.2 + 1)] else [])
def growAll (c : Option Nat) (l : List (α × Nat)) : List (α × Nat) := l.flatMap (grow1 d u c)
def grown (c : Option Nat) (a : α) : Nat → List (α × Nat)
  | 0 => [(a, 0)]
  | k + 1 => growAll d u c (grown c a k)
def cnt (h : Nat) (l : List (α × Nat)) : Nat := (l.filter fun p => p.2 == h).length
theorem cnt_nil (h : Nat) : cnt h ([] : List (α × Nat)) = 0 := rfl
theorem cnt_append (h : Nat) (l r : List (α × Nat)) : cnt h (l ++ r) = cnt h l + cnt h r := by
  unfold cnt
  rw [List.filter_append, List.length_append]
theorem cnt_one (h : Nat) (a : α) (k : Nat) : cnt h [(a, k)] = if k = h then 1 else 0 := by
  unfold cnt
  by_cases e : k = h
  · rw [if_pos e, List.filter_cons_of_pos (by simp [e])]
    rfl
  · rw [if_neg e, List.filter_cons_of_neg (by simp [e])]
    rfl
theorem cnt_cons (h : Nat) (p : α × Nat) (l : List (α × Nat)) : cnt h (p :: l) = (if p.2 = h then 1 else 0) + cnt h l := by
  rw [← List.singleton_append, cnt_append, show cnt h [p] = if p.2 = h then 1 else 0 from cnt_one h p.1 p.2]
theorem cnt_grow1 (c : Option Nat) (h : Nat) (p : α × Nat) : cnt h (grow1 d u c p) = (if p.2 = h + 1 then 1 else 0) + (if 0 < h ∧ under c (h - 1) = true ∧ p.2 = h - 1 then 1 else 0) := by
  unfold grow1
  rw [cnt_append]
  congr 1
  · by_cases e : 0 < p.2
    · rw [if_pos e, cnt_one]
      by_cases e2 : p.2 = h + 1
      · rw [if_pos e2, if_pos (by omega)]
      · rw [if_neg e2, if_neg (by omega)]
    · rw [if_neg e, cnt_nil, if_neg (by omega)]
  · by_cases e : under c p.2 = true
    · rw [if_pos e, cnt_one]
      by_cases e2 : p.2 + 1 = h
      · have : h - 1 = p.2 := by omega
        rw [if_pos e2, if_pos ⟨by omega, by rw [this]; exact e, by omega⟩]
      · rw [if_neg e2, if_neg (by omega)]
    · rw [if_neg e, cnt_nil]
      by_cases e2 : 0 < h ∧ under c (h - 1) = true ∧ p.2 = h - 1
      · rw [← e2.2.2] at e2
        exact absurd e2.2.1 e
      · rw [if_neg e2]
theorem cnt_growAll (c : Option Nat) (h : Nat) : ∀ l : List (α × Nat), cnt h (growAll d u c l) = cnt (h + 1) l + (if 0 < h ∧ under c (h - 1) = true then cnt (h - 1) l else 0)
  | [] => by
    show 0 = 0 + (if _ then 0 else 0)
    split <;> rfl
  | p :: l => by
    have e : growAll d u c (p :: l) = grow1 d u c p ++ growAll d u c l := rfl
    rw [e, cnt_append, cnt_grow1, cnt_growAll c h l, cnt_cons, cnt_cons]
    by_cases e1 : 0 < h ∧ under c (h - 1) = true
    · rw [if_pos e1, if_pos e1]
      by_cases e2 : p.2 = h - 1
      · rw [if_pos (show 0 < h ∧ under c (h - 1) = true ∧ p.2 = h - 1 from ⟨e1.1, e1.2, e2⟩), if_pos e2]
        omega
      · rw [if_neg (show ¬ (0 < h ∧ under c (h - 1) = true ∧ p.2 = h - 1) from fun z => e2 z.2.2), if_neg e2]
        omega
    · rw [if_neg e1, if_neg e1, if_neg (show ¬ (0 < h ∧ under c (h - 1) = true ∧ p.2 = h - 1) from fun z => e1 ⟨z.1, z.2.1⟩)]
      omega
/-- no row grown in k signs is higher than k -/
theorem cnt_grown (c : Option Nat) (a : α) (T : Nat) (hT : ∀ k, c = some k → T = k) : ∀ k h, (c = none → k + h ≤ 2 * T + 1) → h ≤ T → cnt h (grown d u c a k) = W T k h
  | 0, h, _, _ => by
    show cnt h [(a, 0)] = _
    rw [cnt_one]
    unfold W
    by_cases e : h = 0
    · rw [if_pos e, if_pos e.symm]
    · rw [if_neg e, if_neg (fun z => e z.symm)]
  | k + 1, h, hc, hl => by
    show cnt h (growAll d u c (grown d u c a k)) = _
    rw [cnt_growAll]
    simp only [W]
    rw [Nat.add_comm]
    congr 1
    · by_cases e0 : h = 0
      · rw [if_pos e0, if_neg (by omega)]
      · rw [if_neg e0]
        have hu : under c (h - 1) = true := by
          cases c with
          | none => rfl
          | some k =>
            have := hT k rfl
            unfold under
            exact decide_eq_true (by omega)
        rw [if_pos ⟨by omega, hu⟩, cnt_grown c a T hT k (h - 1) (fun z => by have := hc z; omega) (by omega)]
    · by_cases e : h < T
      · rw [if_pos e, cnt_grown c a T hT k (h + 1) (fun z => by have := hc z; omega) (by omega)]
      · rw [if_neg e]
        cases c with
        | none =>
          have z := hc rfl
          exact cnt_zero_len none a k (h + 1) (by omega)
        | some j =>
          have e3 := hT j rfl
          exact cnt_zero_top2 j a k (h + 1) (by omega)
where
  cnt_zero_len (c : Option Nat) (a : α) : ∀ k h, k < h → cnt h (grown d u c a k) = 0
    | 0, h, e => by
      show cnt h [(a, 0)] = 0
      rw [cnt_one, if_neg (by omega)]
    | k + 1, h, e => by
      show cnt h (growAll d u c (grown d u c a k)) = 0
      rw [cnt_growAll, cnt_zero_len c a k (h + 1) (by omega), cnt_zero_len c a k (h - 1) (by omega)]
      split <;> rfl
  cnt_zero_top2 (j : Nat) (a : α) : ∀ k h, j < h → cnt h (grown d u (some j) a k) = 0
    | 0, h, e => by
      show cnt h [(a, 0)] = 0
      rw [cnt_one, if_neg (by omega)]
    | k + 1, h, e => by
      show cnt h (growAll d u (some j) (grown d u (some j) a k)) = 0
      rw [cnt_growAll, cnt_zero_top2 j a k (h + 1) (by omega), if_neg (fun z => ?_)]
      have := z.2
      unfold under at this
      have := of_decide_eq_true this
      omega
theorem grown_len (c : Option Nat) (a : α) : ∀ k, (grown d u c a k).length ≤ 2 ^ k
  | 0 => Nat.le_refl 1
  | k + 1 => by
    have ih := grown_len c a k
    have g : ∀ l : List (α × Nat), (growAll d u c l).length ≤ 2 * l.length := by
      intro l
      induction l with
      | nil => exact Nat.le_refl _
      | cons p l il =>
        have e : growAll d u c (p :: l) = grow1 d u c p ++ growAll d u c l := rfl
        rw [e, List.length_append, List.length_cons]
        have : (grow1 d u c p).length ≤ 2 := by
          unfold grow1
          rw [List.length_append]
          split <;> split <;> simp
        omega
    have := g (grown d u c a k)
    show (growAll d u c (grown d u c a k)).length ≤ _
    rw [Nat.pow_succ]
    omega
/-- as many as the table counts -/
theorem counted_ok (c : Option Nat) (a : α) (n : Nat) : cnt 0 (grown d u c a (2 * n)) = W (low n c) (2 * n) 0 := by
  cases c with
  | none => exact cnt_grown d u none a n (fun _ z => nomatch z) _ _ (fun _ => by omega) (Nat.zero_le _)
  | some j =>
    rw [cnt_grown d u (some j) a j (fun k z => by cases z; rfl) _ _ (fun z => nomatch z) (Nat.zero_le _)]
    show W j (2 * n) 0 = W (min n j) (2 * n) 0
    by_cases h : j ≤ n
    · rw [Nat.min_eq_right h]
    · rw [Nat.min_eq_left (by omega)]
      exact (W_same (by omega) _ _ (Nat.zero_le _) (by omega)).symm
end
end Hr
namespace Hr
/-! ### rows as lists of signs: true is up -/
/-- all rows of k signs from the height h to the ground, none above T, in order -/
def rws (T : Nat) : Nat → Nat → List (List Bool)
  | 0, h => if h = 0 then [[]] else []
  | k + 1, h => (if h = 0 then [] else (rws T k (h - 1)).map (false :: ·)) ++ (if h < T then (rws T k (h + 1)).map (true :: ·) else [])
theorem rws_len (T : Nat) : ∀ k h, (rws T k h).length = W T k h
  | 0, h => by
    unfold rws W
    split <;> rfl
  | k + 1, h => by
    unfold rws W
    rw [List.length_append]
    congr 1
    · split
      · rfl
      · rw [List.length_map, rws_len T k (h - 1)]
    · split
      · rw [List.length_map, rws_len T k (h + 1)]
      · rfl
/-- the row of a rank -/
def unrank (T : Nat) : Nat → Nat → Nat → List Bool
  | 0, _, _ => []
  | k + 1, h, r => if r < (if h = 0 then 0 else W T k (h - 1)) then false :: unrank T k (h - 1) r else true :: unrank T k (h + 1) (r - (if h = 0 then 0 else W T k (h - 1)))
/-- the ways down -/
def dn (T k h : Nat) : Nat := if h = 0 then 0 else W T k (h - 1)
theorem unrank_succ (T k h r : Nat) : unrank T (k + 1) h r = if r < dn T k h then false :: unrank T k (h - 1) r else true :: unrank T k (h + 1) (r - dn T k h) := rfl
theorem W_succ (T k h : Nat) : W T (k + 1) h = dn T k h + (if h < T then W T k (h + 1) else 0) := rfl
/-- the rank of a row that goes on from h -/
def rankOf (T : Nat) : Nat → List Bool → Nat
  | _, [] => 0
  | h, true :: l => dn T l.length h + rankOf T (h + 1) l
  | h, false :: l => rankOf T (h - 1) l
/-- a row from h to the ground under the ceiling -/
def okb (c : Option Nat) : Nat → List Bool → Bool
  | h, [] => h == 0
  | h, true :: l => under c h && okb c (h + 1) l
  | h, false :: l => (h != 0) && okb c (h - 1) l
theorem okb_up {c : Option Nat} {h : Nat} {l : List Bool} (e : okb c h (true :: l) = true) : under c h = true ∧ okb c (h + 1) l = true := by
  unfold okb at e
  exact Bool.and_eq_true_iff.mp e
theorem okb_down {c : Option Nat} {h : Nat} {l : List Bool} (e : okb c h (false :: l) = true) : h ≠ 0 ∧ okb c (h - 1) l = true := by
  unfold okb at e
  obtain ⟨a, b⟩ := Bool.and_eq_true_iff.mp e
  exact ⟨by simpa using a, b⟩
theorem okb_len {c : Option Nat} : ∀ {l : List Bool} {h : Nat}, okb c h l = true → h ≤ l.length
  | [], h, e => by
    have : h = 0 := by simpa [okb] using e
    omega
  | true :: l, h, e => by
    have := okb_len (okb_up e).2
    rw [List.length_cons]
    omega
  | false :: l, h, e => by
    have := okb_len (okb_down e).2
    rw [List.length_cons]
    omega
theorem rank_lt {T : Nat} : ∀ {l : List Bool} {h : Nat}, okb (some T) h l = true → rankOf T h l < W T l.length h
  | [], h, e => by
    have e0 : h = 0 := by simpa [okb] using e
    rw [e0]
    exact Nat.zero_lt_one
  | true :: l, h, e => by
    obtain ⟨a, b⟩ := okb_up e
    have ih := rank_lt b
    have a' : h < T := of_decide_eq_true a
    rw [List.length_cons, W_succ, if_pos a']
    show dn T l.length h + rankOf T (h + 1) l < _
    omega
  | false :: l, h, e => by
    obtain ⟨a, b⟩ := okb_down e
    have ih := rank_lt b
    rw [List.length_cons, W_succ]
    show rankOf T (h - 1) l < _
    unfold dn
    rw [if_neg a]
    omega
theorem unrank_rank {T : Nat} : ∀ {l : List Bool} {h : Nat}, okb (some T) h l = true → unrank T l.length h (rankOf T h l) = l
  | [], h, e => rfl
  | true :: l, h, e => by
    obtain ⟨a, b⟩ := okb_up e
    rw [List.length_cons, unrank_succ]
    show (if dn T l.length h + rankOf T (h + 1) l < dn T l.length h then _ else true :: unrank T l.length (h + 1) (dn T l.length h + rankOf T (h + 1) l - dn T l.length h)) = _
    rw [if_neg (by omega), Nat.add_sub_cancel_left, unrank_rank b]
  | false :: l, h, e => by
    obtain ⟨a, b⟩ := okb_down e
    have := rank_lt b
    rw [List.length_cons, unrank_succ]
    show (if rankOf T (h - 1) l < dn T l.length h then false :: unrank T l.length (h - 1) (rankOf T (h - 1) l) else _) = _
    rw [if_pos (by unfold dn; rw [if_neg a]; exact this), unrank_rank b]
theorem unrank_ok {T : Nat} : ∀ {k h r : Nat}, r < W T k h → okb (some T) h (unrank T k h r) = true ∧ (unrank T k h r).length = k ∧ rankOf T h (unrank T k h r) = r
  | 0, h, r, e => by
    unfold W at e
    by_cases h0 : h = 0
    · rw [if_pos h0] at e
      refine ⟨?_, rfl, ?_⟩
      · rw [h0]
        rfl
      · show 0 = r
        omega
    · rw [if_neg h0] at e
      omega
  | k + 1, h, r, e => by
    rw [unrank_succ]
    rw [W_succ] at e
    by_cases hr : r < dn T k h
    · rw [if_pos hr]
      have h0 : h ≠ 0 := fun z => by
        unfold dn at hr
        rw [if_pos z] at hr
        omega
      have hr' : r < W T k (h - 1) := by
        unfold dn at hr
        rw [if_neg h0] at hr
        exact hr
      obtain ⟨a, b, c⟩ := unrank_ok hr'
      refine ⟨?_, by rw [List.length_cons, b], c⟩
      unfold okb
      rw [a, Bool.and_true]
      simpa using h0
    · rw [if_neg hr]
      by_cases hT : h < T
      · rw [if_pos hT] at e
        obtain ⟨a, b, c⟩ := unrank_ok (T := T) (k := k) (h := h + 1) (r := r - dn T k h) (by omega)
        refine ⟨?_, by rw [List.length_cons, b], ?_⟩
        · unfold okb
          rw [a, Bool.and_true]
          exact decide_eq_true hT
        · show dn T _ h + rankOf T (h + 1) _ = r
          rw [b, c]
          omega
      · rw [if_neg hT] at e
        omega
theorem unrank_get {T : Nat} : ∀ {k h r : Nat}, r < W T k h → (rws T k h)[r]? = some (unrank T k h r)
  | 0, h, r, e => by
    unfold W at e
    by_cases h0 : h = 0
    · rw [if_pos h0] at e
      have : r = 0 := by omega
      rw [this, h0]
      rfl
    · rw [if_neg h0] at e
      omega
  | k + 1, h, r, e => by
    rw [unrank_succ]
    rw [W_succ] at e
    unfold rws
    have hl : (if h = 0 then [] else (rws T k (h - 1)).map (false :: ·)).length = dn T k h := by
      unfold dn
      split
      · rfl
      · rw [List.length_map, rws_len]
    by_cases hr : r < dn T k h
    · rw [if_pos hr, List.getElem?_append_left (by rw [hl]; exact hr)]
      have h0 : h ≠ 0 := fun z => by
        unfold dn at hr
        rw [if_pos z] at hr
        omega
      have hr' : r < W T k (h - 1) := by
        unfold dn at hr
        rw [if_neg h0] at hr
        exact hr
      rw [if_neg h0, List.getElem?_map, unrank_get hr']
      rfl
    · rw [if_neg hr, List.getElem?_append_right (by rw [hl]; omega), hl]
      by_cases hT : h < T
      · rw [if_pos hT] at e ⊢
        rw [List.getElem?_map, unrank_get (T := T) (k := k) (h := h + 1) (r := r - dn T k h) (by omega)]
        rfl
      · rw [if_neg hT] at e
        omega
/-- a hill row of n ups is not higher than n -/
theorem okb_low {c : Option Nat} {n : Nat} : ∀ {l : List Bool} {h : Nat}, h + l.length ≤ 2 * n → okb c h l = true → okb (some (low n c)) h l = true
  | [], h, _, e => e
  | true :: l, h, hn, e => by
    obtain ⟨a, b⟩ := okb_up e
    rw [List.length_cons] at hn
    have := okb_len b
    unfold okb
    rw [okb_low (by omega) b, Bool.and_true]
    refine decide_eq_true ?_
    cases c with
    | none => show h < n; omega
    | some k =>
      have a' : h < k := of_decide_eq_true a
      show h < min n k
      omega
  | false :: l, h, hn, e => by
    obtain ⟨a, b⟩ := okb_down e
    rw [List.length_cons] at hn
    unfold okb
    rw [okb_low (by omega) b, Bool.and_true]
    simpa using a
theorem okb_up_of {c : Option Nat} {n : Nat} : ∀ {l : List Bool} {h : Nat}, okb (some (low n c)) h l = true → okb c h l = true
  | [], h, e => e
  | true :: l, h, e => by
    obtain ⟨a, b⟩ := okb_up e
    unfold okb
    rw [okb_up_of b, Bool.and_true]
    have a' : h < low n c := of_decide_eq_true a
    cases c with
    | none => rfl
    | some k =>
      have a' : h < min n k := a'
      exact decide_eq_true (by omega)
  | false :: l, h, e => by
    obtain ⟨a, b⟩ := okb_down e
    unfold okb
    rw [okb_up_of b, Bool.and_true]
    simpa using a
/-- how many ups -/
theorem okb_ups {c : Option Nat} : ∀ {l : List Bool} {h : Nat}, okb c h l = true → h + 2 * (l.filter id).length = l.length
  | [], h, e => by
    have e0 : h = 0 := by simpa [okb] using e
    rw [e0]
    rfl
  | true :: l, h, e => by
    have := okb_ups (okb_up e).2
    rw [List.length_cons, List.filter_cons_of_pos rfl, List.length_cons]
    omega
  | false :: l, h, e => by
    obtain ⟨a, b⟩ := okb_down e
    have := okb_ups b
    rw [List.length_cons, List.filter_cons_of_neg (by simp)]
    omega
theorem okb_even {c : Option Nat} {l : List Bool} (e : okb c 0 l = true) : l.length = 2 * (l.length / 2) := by
  have := okb_ups e
  omega
/-! ### heights -/
def sg (b : Bool) : Int := if b = true then 1 else -1
def hts : Int → List Bool → List Int
  | h, [] => [h]
  | h, b :: l => h :: hts (h + sg b) l
theorem hts_len : ∀ (l : List Bool) (h : Int), (hts h l).length = l.length + 1
  | [], _ => rfl
  | b :: l, h => by
    show (hts (h + sg b) l).length + 1 = _
    rw [hts_len l]
    rfl
theorem hts_ne (h : Int) (l : List Bool) : hts h l ≠ [] := by
  cases l <;> exact List.cons_ne_nil _ _
theorem hts_append : ∀ (l r : List Bool) (h : Int), hts h (l ++ r) = (hts h l).dropLast ++ hts (h + (l.map sg).sum) r
  | [], r, h => by
    show hts h r = [] ++ hts (h + 0) r
    rw [Int.add_zero]
    rfl
  | b :: l, r, h => by
    show h :: hts (h + sg b) (l ++ r) = (h :: hts (h + sg b) l).dropLast ++ _
    rw [hts_append l r, List.dropLast_cons_of_ne_nil (hts_ne _ _), List.map_cons, List.sum_cons, ← Int.add_assoc]
    rfl
theorem hts_snoc (l : List Bool) (b : Bool) (h : Int) : hts h (l ++ [b]) = hts h l ++ [h + (l.map sg).sum + sg b] := by
  have last : ∀ (l : List Bool) (h : Int), hts h l = (hts h l).dropLast ++ [h + (l.map sg).sum] := by
    intro l h
    have := hts_append l [] h
    rw [List.append_nil] at this
    exact this
  rw [hts_append, last l h]
  rw [List.dropLast_concat, List.append_assoc]
  rfl
theorem hts_last (l : List Bool) (h : Int) : (hts h l) = (hts h l).dropLast ++ [h + (l.map sg).sum] := by
  have := hts_append l [] h
  rw [List.append_nil] at this
  exact this
/-- a hill row by its heights -/
theorem okb_iff (c : Option Nat) : ∀ (l : List Bool) (h : Nat), (∀ k, c = some k → h ≤ k) → (okb c h l = true ↔ ((h : Int) + (l.map sg).sum = 0 ∧ (∀ x ∈ hts h l, 0 ≤ x) ∧ ∀ k, c = some k → ∀ x ∈ hts h l, x ≤ (k : Int)))
  | [], h, hc => by
    show ((h == 0) = true) ↔ _
    constructor
    · intro e
      have e0 : h = 0 := by simpa using e
      subst e0
      refine ⟨rfl, fun x hx => ?_, fun k hk x hx => ?_⟩
      · have := List.mem_singleton.mp hx
        omega
      · have := List.mem_singleton.mp hx
        omega
    · rintro ⟨e, _, _⟩
      have : (h : Int) + 0 = 0 := e
      have : h = 0 := by omega
      simp [this]
  | true :: l, h, hc => by
    have e1 : hts (h : Int) (true :: l) = (h : Int) :: hts ((h + 1 : Nat) : Int) l := rfl
    have e2 : ((true :: l).map sg).sum = 1 + (l.map sg).sum := by
      rw [List.map_cons, List.sum_cons]
      rfl
    rw [e1, e2]
    constructor
    · intro e
      obtain ⟨a, b⟩ := okb_up e
      have hc' : ∀ k, c = some k → h + 1 ≤ k := fun k hk => by
        rw [hk] at a
        exact of_decide_eq_true a
      obtain ⟨i1, i2, i3⟩ := (okb_iff c l (h + 1) hc').mp b
      refine ⟨by omega, fun x hx => ?_, fun k hk x hx => ?_⟩
      · rcases List.mem_cons.mp hx with z | z
        · omega
        · exact i2 x z
      · rcases List.mem_cons.mp hx with z | z
        · have := hc k hk
          omega
        · exact i3 k hk x z
    · rintro ⟨a, b, d⟩
      have hmem : ((h + 1 : Nat) : Int) ∈ hts ((h + 1 : Nat) : Int) l := by
        cases l <;> exact List.mem_cons_self ..
      have hc' : ∀ k, c = some k → h + 1 ≤ k := fun k hk => by
        have := d k hk _ (List.mem_cons_of_mem _ hmem)
        omega
      have := (okb_iff c l (h + 1) hc').mpr ⟨by omega, fun x hx => b x (List.mem_cons_of_mem _ hx), fun k hk x hx => d k hk x (List.mem_cons_of_mem _ hx)⟩
      unfold okb
      rw [this, Bool.and_true]
      cases c with
      | none => rfl
      | some k =>
        have := hc' k rfl
        exact decide_eq_true (by omega)
  | false :: l, h, hc => by
    have e2 : ((false :: l).map sg).sum = -1 + (l.map sg).sum := by
      rw [List.map_cons, List.sum_cons]
      rfl
    by_cases h0 : h = 0
    · subst h0
      have e1 : hts ((0 : Nat) : Int) (false :: l) = 0 :: hts (-1) l := rfl
      constructor
      · intro e
        exact absurd rfl (okb_down e).1
      · rintro ⟨a, b, d⟩
        have hmem : (-1 : Int) ∈ hts (-1) l := by
          cases l <;> exact List.mem_cons_self ..
        rw [e1] at b
        have := b _ (List.mem_cons_of_mem _ hmem)
        omega
    · have e1 : hts (h : Int) (false :: l) = (h : Int) :: hts ((h - 1 : Nat) : Int) l := by
        show (h : Int) :: hts ((h : Int) + -1) l = _
        rw [show (h : Int) + -1 = ((h - 1 : Nat) : Int) by omega]
      rw [e1, e2]
      have hc' : ∀ k, c = some k → h - 1 ≤ k := fun k hk => by
        have := hc k hk
        omega
      constructor
      · intro e
        obtain ⟨a, b⟩ := okb_down e
        obtain ⟨i1, i2, i3⟩ := (okb_iff c l (h - 1) hc').mp b
        refine ⟨by omega, fun x hx => ?_, fun k hk x hx => ?_⟩
        · rcases List.mem_cons.mp hx with z | z
          · omega
          · exact i2 x z
        · rcases List.mem_cons.mp hx with z | z
          · have := hc k hk
            omega
          · exact i3 k hk x z
      · rintro ⟨a, b, d⟩
        have := (okb_iff c l (h - 1) hc').mpr ⟨by omega, fun x hx => b x (List.mem_cons_of_mem _ hx), fun k hk x hx => d k hk x (List.mem_cons_of_mem _ hx)⟩
        unfold okb
        rw [this, Bool.and_true]
        simpa using h0
end Hr
/-! ### first hills, groves -/
namespace Hr
theorem okb_app {r : List Bool} {h : Nat} : ∀ {a : List Bool} {k : Nat}, okb none k a = true → okb none (h + k) (a ++ r) = okb none h r
  | [], k, e => by
    have e0 : k = 0 := by simpa [okb] using e
    rw [e0]
    rfl
  | true :: a, k, e => by
    show (true && okb none (h + k + 1) (a ++ r)) = _
    rw [Bool.true_and]
    exact okb_app (k := k + 1) (okb_up e).2
  | false :: a, k, e => by
    obtain ⟨k0, e1⟩ := okb_down e
    show ((h + k != 0) && okb none (h + k - 1) (a ++ r)) = _
    rw [show (h + k != 0) = true by simp; omega, Bool.true_and, show h + k - 1 = h + (k - 1) by omega]
    exact okb_app e1
/-- a walk down by one: the first down to there parts it -/
theorem okb_part : ∀ (m : Nat) {l : List Bool} {h : Nat}, l.length ≤ m → okb none (h + 1) l = true → ∃ a b, l = a ++ false :: b ∧ okb none 0 a = true ∧ okb none h b = true
  | m, [], h, _, e => by
    have : h + 1 = 0 := by simpa [okb] using e
    omega
  | m, false :: l, h, _, e => ⟨[], l, rfl, rfl, (okb_down e).2⟩
  | 0, true :: l, h, hm, e => absurd hm (by rw [List.length_cons]; omega)
  | m + 1, true :: l, h, hm, e => by
    rw [List.length_cons] at hm
    obtain ⟨a1, b1, e1, o1, p1⟩ := okb_part m (h := h + 1) (by omega) (okb_up e).2
    have h1 : b1.length ≤ m := by
      have := congrArg List.length e1
      rw [List.length_append, List.length_cons] at this
      omega
    obtain ⟨a2, b2, e2, o2, p2⟩ := okb_part m h1 p1
    refine ⟨true :: (a1 ++ false :: a2), b2, by rw [e1, e2, List.cons_append, List.append_assoc, List.cons_append], ?_, p2⟩
    show (true && okb none (0 + 1) (a1 ++ false :: a2)) = true
    rw [Bool.true_and]
    have := okb_app (r := false :: a2) (h := 1) o1
    rw [Nat.add_zero] at this
    rw [Nat.zero_add, this]
    show ((1 != 0) && okb none (1 - 1) a2) = true
    rw [Nat.sub_self, o2]
    rfl
theorem hill_part {l : List Bool} (e : okb none 0 (true :: l) = true) : ∃ a b, l = a ++ false :: b ∧ okb none 0 a = true ∧ okb none 0 b = true := okb_part l.length (Nat.le_refl _) (okb_up e).2
theorem hill_put {a b : List Bool} (ha : okb none 0 a = true) (hb : okb none 0 b = true) : okb none 0 (true :: (a ++ false :: b)) = true := by
  show (true && okb none (0 + 1) (a ++ false :: b)) = true
  have := okb_app (r := false :: b) (h := 1) ha
  rw [Nat.add_zero] at this
  rw [Bool.true_and, Nat.zero_add, this]
  show ((1 != 0) && okb none (1 - 1) b) = true
  rw [Nat.sub_self, hb]
  rfl
theorem hill_app {a b : List Bool} (ha : okb none 0 a = true) (hb : okb none 0 b = true) : okb none 0 (a ++ b) = true := by
  have := okb_app (r := b) (h := 0) ha
  rw [Nat.add_zero] at this
  rw [this]
  exact hb
/-- no hill row stands ahead of its own first down below -/
theorem part_one : ∀ {a a' b b' : List Bool} {h : Nat}, okb none h a = true → okb none h a' = true → a ++ false :: b = a' ++ false :: b' → a = a' ∧ b = b'
  | [], [], b, b', h, _, _, e => ⟨rfl, (List.cons.inj e).2⟩
  | [], x :: a', b, b', h, e1, e2, e => by
    have hx : x = false := (List.cons.inj e).1.symm
    have h0 : h = 0 := by simpa [okb] using e1
    rw [hx, h0] at e2
    exact absurd rfl (okb_down e2).1
  | x :: a, [], b, b', h, e1, e2, e => by
    have hx : x = false := (List.cons.inj e).1
    have h0 : h = 0 := by simpa [okb] using e2
    rw [hx, h0] at e1
    exact absurd rfl (okb_down e1).1
  | x :: a, y :: a', b, b', h, e1, e2, e => by
    obtain ⟨hx, he⟩ := List.cons.inj e
    subst hx
    cases x with
    | true =>
      obtain ⟨p, q⟩ := part_one (okb_up e1).2 (okb_up e2).2 he
      exact ⟨by rw [p], q⟩
    | false =>
      obtain ⟨p, q⟩ := part_one (okb_down e1).2 (okb_down e2).2 he
      exact ⟨by rw [p], q⟩
/-- a grove: none, or a tree (what hangs on it) and the trees behind it -/
inductive Gv where
  | no : Gv
  | tree : Gv → Gv → Gv
/-- its row -/
def Gv.row : Gv → List Bool
  | .no => []
  | .tree a b => true :: (a.row ++ false :: b.row)
/-- how deep it is -/
def Gv.deep : Gv → Nat
  | .no => 0
  | .tree a b => max (a.deep + 1) b.deep
/-- its trees -/
def Gv.trees : Gv → List Gv
  | .no => []
  | .tree a b => a :: b.trees
def Gv.of : List Gv → Gv
  | [] => .no
  | a :: r => .tree a (.of r)
theorem Gv.of_trees : ∀ g : Gv, Gv.of g.trees = g
  | .no => rfl
  | .tree a b => by
    show Gv.tree a (Gv.of b.trees) = _
    rw [of_trees b]
theorem Gv.trees_of : ∀ l : List Gv, (Gv.of l).trees = l
  | [] => rfl
  | a :: r => by
    show a :: (Gv.of r).trees = _
    rw [trees_of r]
def Gv.app : Gv → Gv → Gv
  | .no, g => g
  | .tree a b, g => .tree a (b.app g)
theorem Gv.trees_app : ∀ f g : Gv, (f.app g).trees = f.trees ++ g.trees
  | .no, _ => rfl
  | .tree a b, g => congrArg (a :: ·) (trees_app b g)
theorem Gv.row_app : ∀ f g : Gv, (f.app g).row = f.row ++ g.row
  | .no, _ => rfl
  | .tree a b, g => by
    show true :: (a.row ++ false :: (b.app g).row) = true :: (a.row ++ false :: b.row) ++ g.row
    rw [row_app b g, List.cons_append, List.append_assoc, List.cons_append]
theorem Gv.row_hill : ∀ g : Gv, okb none 0 g.row = true
  | .no => rfl
  | .tree a b => hill_put a.row_hill b.row_hill
theorem Gv.row_inj : ∀ {f g : Gv}, f.row = g.row → f = g
  | .no, .no, _ => rfl
  | .no, .tree _ _, e => by cases e
  | .tree _ _, .no, e => by cases e
  | .tree a b, .tree c d, e => by
    obtain ⟨p, q⟩ := part_one a.row_hill c.row_hill (List.cons.inj e).2
    rw [row_inj p, row_inj q]
theorem grove_of : ∀ (m : Nat) {l : List Bool}, l.length ≤ m → okb none 0 l = true → ∃ g : Gv, g.row = l
  | _, [], _, _ => ⟨.no, rfl⟩
  | _, false :: l, _, e => absurd rfl (okb_down e).1
  | 0, true :: l, hm, _ => absurd hm (by rw [List.length_cons]; omega)
  | m + 1, true :: l, hm, e => by
    obtain ⟨a, b, rfl, ha, hb⟩ := hill_part e
    rw [List.length_cons, List.length_append, List.length_cons] at hm
    obtain ⟨f, rfl⟩ := grove_of m (by omega) ha
    obtain ⟨g, rfl⟩ := grove_of m (by omega) hb
    exact ⟨.tree f g, rfl⟩
/-- every hill row is the row of just one grove -/
theorem grove_row {l : List Bool} (e : okb none 0 l = true) : ∃ g : Gv, g.row = l := grove_of l.length (Nat.le_refl _) e
theorem Gv.deep_le : ∀ g : Gv, 2 * g.deep ≤ g.row.length
  | .no => Nat.le_refl _
  | .tree a b => by
    have h1 := deep_le a
    have h2 := deep_le b
    show 2 * max (a.deep + 1) b.deep ≤ (true :: (a.row ++ false :: b.row)).length
    rw [List.length_cons, List.length_append, List.length_cons]
    omega
/-! ### turnings -/
/-- the law's walk: below 0 but at the end nowhere -/
def stayB : Int → List Bool → Bool
  | _, [] => false
  | h, b :: l => if h + sg b < 0 then l.isEmpty else stayB (h + sg b) l
theorem stayB_iff : ∀ (l : List Bool) (h : Int), stayB h l = true ↔ (l ≠ [] ∧ h + (l.map sg).sum < 0 ∧ ∀ i, 0 < i → i < l.length → 0 ≤ h + ((l.take i).map sg).sum)
  | [], h => ⟨fun e => (nomatch (show false = true from e)), fun e => absurd rfl e.1⟩
  | b :: l, h => by
    have ih := stayB_iff l (h + sg b)
    show (if h + sg b < 0 then l.isEmpty else stayB (h + sg b) l) = true ↔ _
    by_cases hn : h + sg b < 0
    · rw [if_pos hn]
      constructor
      · intro e
        have e : l = [] := by simpa using e
        subst e
        refine ⟨List.cons_ne_nil _ _, ?_, fun i h0 h1 => ?_⟩
        · show h + (sg b + 0) < 0
          omega
        · have h1 : i < 1 := h1
          omega
      · rintro ⟨_, _, h3⟩
        cases l with
        | nil => rfl
        | cons c l =>
          have := h3 1 (by omega) (by rw [List.length_cons, List.length_cons]; omega)
          have : 0 ≤ h + (sg b + 0) := this
          omega
    · rw [if_neg hn, ih]
      constructor
      · rintro ⟨_, h2, h3⟩
        refine ⟨List.cons_ne_nil _ _, ?_, fun i h0 h1 => ?_⟩
        · rw [List.map_cons, List.sum_cons]
          omega
        · obtain ⟨j, rfl⟩ : ∃ j, i = j + 1 := ⟨i - 1, by omega⟩
          rw [List.take_succ_cons, List.map_cons, List.sum_cons]
          rw [List.length_cons] at h1
          by_cases hj : j = 0
          · subst hj
            show 0 ≤ h + (sg b + 0)
            omega
          · have := h3 j (by omega) (by omega)
            omega
      · rintro ⟨_, h2, h3⟩
        rw [List.map_cons, List.sum_cons] at h2
        refine ⟨fun z => ?_, by omega, fun i h0 h1 => ?_⟩
        · subst z
          have h2 : h + (sg b + 0) < 0 := h2
          omega
        · have := h3 (i + 1) (by omega) (by rw [List.length_cons]; omega)
          rw [List.take_succ_cons, List.map_cons, List.sum_cons] at this
          omega
/-- the height at the place i -/
def hgt (l : List Bool) (i : Nat) : Int := ((l.take i).map sg).sum
def turned (l : List Bool) (k : Nat) : List Bool := l.drop k ++ l.take k
/-- the place k is the first lowest one -/
def Lowest (l : List Bool) (k : Nat) : Prop := (∀ i, i < k → hgt l k < hgt l i) ∧ ∀ i, k ≤ i → i ≤ l.length → hgt l k ≤ hgt l i
theorem hgt_drop (l : List Bool) (k j : Nat) : ((((l.drop k).take j)).map sg).sum = hgt l (k + j) - hgt l k := by
  unfold hgt
  rw [List.take_add, List.map_append, List.sum_append]
  omega
theorem hgt_len (l : List Bool) : hgt l l.length = (l.map sg).sum := by
  unfold hgt
  rw [List.take_length]
theorem hgt_drop_all (l : List Bool) {k : Nat} (hk : k ≤ l.length) : ((l.drop k).map sg).sum = hgt l l.length - hgt l k := by
  have := hgt_drop l k (l.length - k)
  rw [show k + (l.length - k) = l.length by omega, List.take_of_length_le (by rw [List.length_drop]; omega)] at this
  exact this
/-- a turning stays up just where it begins behind the first lowest place -/
theorem turned_iff {l : List Bool} (hs : (l.map sg).sum = -1) {k : Nat} (h0 : 0 < k) (hk : k ≤ l.length) : stayB 0 (turned l k) = true ↔ Lowest l k := by
  have hlen : (turned l k).length = l.length := by
    unfold turned
    rw [List.length_append, List.length_drop, List.length_take]
    omega
  have hsum : ((turned l k).map sg).sum = -1 := by
    unfold turned
    rw [List.map_append, List.sum_append, hgt_drop_all l hk, hgt_len, hs]
    show -1 - hgt l k + hgt l k = -1
    omega
  have hat : ∀ j, j ≤ l.length → (((turned l k).take j).map sg).sum = if j ≤ l.length - k then hgt l (k + j) - hgt l k else -1 - hgt l k + hgt l (j - (l.length - k)) := by
    intro j hj
    unfold turned
    rw [List.take_append, List.map_append, List.sum_append, List.length_drop]
    by_cases hc : j ≤ l.length - k
    · rw [if_pos hc, hgt_drop, show j - (l.length - k) = 0 by omega, List.take_zero]
      show _ + 0 = _
      omega
    · rw [if_neg hc, List.take_of_length_le (by rw [List.length_drop]; omega), hgt_drop_all l hk, hgt_len, hs, List.take_take, show min (j - (l.length - k)) k = j - (l.length - k) by omega]
      rfl
  rw [stayB_iff]
  constructor
  · rintro ⟨_, _, h3⟩
    refine ⟨fun i hi => ?_, fun i h1 h2 => ?_⟩
    · by_cases hi0 : i = 0 ∧ k = l.length
      · rw [hi0.1, hi0.2, hgt_len, hs]
        show -1 < (0 : Int)
        decide
      · have := h3 (l.length - k + i) (by omega) (by rw [hlen]; omega)
        rw [hat _ (by omega)] at this
        by_cases hi1 : i = 0
        · subst hi1
          rw [if_pos (by omega), show k + (l.length - k + 0) = l.length by omega, hgt_len, hs] at this
          show hgt l k < 0
          omega
        · rw [if_neg (by omega), show l.length - k + i - (l.length - k) = i by omega] at this
          omega
    · by_cases hki : i = k
      · rw [hki]
        exact Int.le_refl _
      · have := h3 (i - k) (by omega) (by rw [hlen]; omega)
        rw [hat _ (by omega), if_pos (by omega), show k + (i - k) = i by omega] at this
        omega
  · rintro ⟨h1, h2⟩
    refine ⟨fun z => ?_, by rw [hsum]; decide, fun i hi0 hi1 => ?_⟩
    · rw [z] at hlen
      have : l.length = 0 := hlen.symm
      omega
    · rw [hlen] at hi1
      rw [hat _ (by omega)]
      by_cases hc : i ≤ l.length - k
      · rw [if_pos hc]
        have := h2 (k + i) (by omega) (by omega)
        omega
      · rw [if_neg hc]
        have := h1 (i - (l.length - k)) (by omega)
        omega
theorem lowest_one {l : List Bool} {k k' : Nat} (hk : k ≤ l.length) (hk' : k' ≤ l.length) (h : Lowest l k) (h' : Lowest l k') : k = k' := by
  rcases Nat.lt_trichotomy k k' with z | z | z
  · have h1 := h'.1 k z
    have h2 := h.2 k' (by omega) hk'
    omega
  · exact z
  · have h1 := h.1 k' z
    have h2 := h'.2 k (by omega) hk
    omega
theorem turned_zero (l : List Bool) : turned l 0 = l := by
  unfold turned
  rw [List.drop_zero, List.take_zero, List.append_nil]
theorem turned_len (l : List Bool) : turned l l.length = l := by
  unfold turned
  rw [List.drop_length, List.take_length, List.nil_append]
/-- the first place of the lowest height there is -/
theorem lowest_is {l : List Bool} (hs : (l.map sg).sum = -1) : ∃ k, 0 < k ∧ k ≤ l.length ∧ Lowest l k := by
  have step : ∀ m, m ≤ l.length → ∃ k, k ≤ m ∧ (∀ i, i < k → hgt l k < hgt l i) ∧ ∀ i, k ≤ i → i ≤ m → hgt l k ≤ hgt l i := by
    intro m
    induction m with
    | zero =>
      intro _
      refine ⟨0, Nat.le_refl _, fun i hi => absurd hi (by omega), fun i h1 h2 => ?_⟩
      rw [show i = 0 by omega]
      exact Int.le_refl _
    | succ m ih =>
      intro hm
      obtain ⟨k, hk, h1, h2⟩ := ih (by omega)
      by_cases hc : hgt l (m + 1) < hgt l k
      · refine ⟨m + 1, Nat.le_refl _, fun i hi => ?_, fun i h3 h4 => ?_⟩
        · by_cases hik : i < k
          · have := h1 i hik
            omega
          · have := h2 i (by omega) (by omega)
            omega
        · rw [show i = m + 1 by omega]
          exact Int.le_refl _
      · refine ⟨k, by omega, h1, fun i h3 h4 => ?_⟩
        by_cases hi : i = m + 1
        · rw [hi]
          omega
        · exact h2 i h3 (by omega)
  obtain ⟨k, hk, h1, h2⟩ := step l.length (Nat.le_refl _)
  refine ⟨k, ?_, hk, h1, h2⟩
  by_cases h0 : k = 0
  · have := h2 l.length (by omega) (Nat.le_refl _)
    rw [h0, hgt_len, hs] at this
    have : (0 : Int) ≤ -1 := this
    omega
  · omega
/-- of the turnings by k below the length just one stays up -/
theorem turned_one {l : List Bool} (hs : (l.map sg).sum = -1) : ∃ k, k < l.length ∧ ∀ j, j < l.length → (stayB 0 (turned l j) = true ↔ j = k) := by
  obtain ⟨k, h0, hk, hL⟩ := lowest_is hs
  have key : ∀ j, 0 < j → j ≤ l.length → (stayB 0 (turned l j) = true ↔ j = k) := fun j j0 jl => by
    rw [turned_iff hs j0 jl]
    exact ⟨fun z => lowest_one jl hk z hL, fun z => z ▸ hL⟩
  have hlast : stayB 0 (turned l 0) = stayB 0 (turned l l.length) := by rw [turned_zero, turned_len]
  by_cases hkl : k = l.length
  · refine ⟨0, by omega, fun j jl => ?_⟩
    by_cases j0 : j = 0
    · subst j0
      rw [hlast, key l.length (by omega) (Nat.le_refl _)]
      exact ⟨fun _ => rfl, fun _ => hkl.symm⟩
    · rw [key j (by omega) (by omega)]
      omega
  · refine ⟨k, by omega, fun j jl => ?_⟩
    by_cases j0 : j = 0
    · subst j0
      rw [hlast, key l.length (by omega) (Nat.le_refl _)]
      omega
    · exact key j (by omega) (by omega)
end Hr
/-! ### the hills of a row, by the places of height 0 -/
namespace Hr
def hillsOf : Gv → List (List Bool)
  | .no => []
  | .tree a b => (true :: (a.row ++ [false])) :: hillsOf b
theorem hills_flat : ∀ g : Gv, (hillsOf g).flatten = g.row
  | .no => rfl
  | .tree a b => by
    show (true :: (a.row ++ [false])) ++ (hillsOf b).flatten = true :: (a.row ++ false :: b.row)
    rw [hills_flat b, List.cons_append, List.append_assoc]
    rfl
theorem hills_ok : ∀ (g : Gv) (x : List Bool), x ∈ hillsOf g → okb none 0 x = true
  | .no, x, h => by cases h
  | .tree a b, x, h => by
    rcases List.mem_cons.mp h with rfl | h
    · exact hill_put a.row_hill (b := []) rfl
    · exact hills_ok b x h
theorem hills_ne : ∀ (g : Gv), g.row ≠ [] → hillsOf g ≠ []
  | .no, h => absurd rfl h
  | .tree _ _, _ => List.cons_ne_nil _ _
theorem hills_len : ∀ (g : Gv), 2 * (hillsOf g).length ≤ g.row.length
  | .no => Nat.le_refl _
  | .tree a b => by
    have := hills_len b
    show 2 * ((hillsOf b).length + 1) ≤ (true :: (a.row ++ false :: b.row)).length
    rw [List.length_cons, List.length_append, List.length_cons]
    omega
theorem hts_get : ∀ (l : List Bool) (h : Int) (i : Nat), i ≤ l.length → (hts h l)[i]? = some (h + hgt l i)
  | [], h, i, hi => by
    have : i = 0 := by
      have : i ≤ 0 := hi
      omega
    subst this
    show some h = some (h + 0)
    rw [Int.add_zero]
  | b :: l, h, 0, _ => by
    show some h = some (h + 0)
    rw [Int.add_zero]
  | b :: l, h, i + 1, hi => by
    rw [List.length_cons] at hi
    have := hts_get l (h + sg b) i (by omega)
    show (hts (h + sg b) l)[i]? = _
    rw [this]
    unfold hgt
    rw [List.take_succ_cons, List.map_cons, List.sum_cons, ← Int.add_assoc]
/-- the places of height 0 up to n -/
def zerosTo (l : List Bool) (n : Nat) : List Nat := (List.range (n + 1)).filter fun i => decide (hgt l i = 0)
def zeros (l : List Bool) : List Nat := zerosTo l l.length
theorem zerosTo_zero (l : List Bool) : zerosTo l 0 = [0] := by
  unfold zerosTo
  show [0].filter _ = _
  rw [List.filter_cons_of_pos (by simp [hgt])]
  rfl
theorem zerosTo_succ (l : List Bool) (n : Nat) : zerosTo l (n + 1) = zerosTo l n ++ (if hgt l (n + 1) = 0 then [n + 1] else []) := by
  unfold zerosTo
  rw [List.range_succ (n := n + 1), List.filter_append]
  congr 1
  by_cases h : hgt l (n + 1) = 0
  · rw [if_pos h, List.filter_cons_of_pos (by simpa using h)]
    rfl
  · rw [if_neg h, List.filter_cons_of_neg (by simpa using h)]
    rfl
theorem zerosTo_le {l : List Bool} {n i : Nat} (h : i ∈ zerosTo l n) : i ≤ n := by
  unfold zerosTo at h
  have := List.mem_range.mp (List.mem_filter.mp h).1
  omega
def segs (l : List Bool) : List Nat → List (List Bool)
  | a :: b :: r => (l.drop a).take (b - a) :: segs l (b :: r)
  | [_] => []
  | [] => []
theorem segs_snoc (l : List Bool) (b e : Nat) : ∀ pre : List Nat, segs l (pre ++ [b, e]) = segs l (pre ++ [b]) ++ [(l.drop b).take (e - b)]
  | [] => rfl
  | [x] => rfl
  | x :: y :: pre => by
    have ih := segs_snoc l b e (y :: pre)
    show (l.drop x).take (y - x) :: segs l ((y :: pre) ++ [b, e]) = (l.drop x).take (y - x) :: segs l ((y :: pre) ++ [b]) ++ _
    rw [ih]
    rfl
theorem segs_len (l : List Bool) : ∀ zs : List Nat, (segs l zs).length = zs.length - 1
  | [] => rfl
  | [_] => rfl
  | x :: y :: r => by
    have ih := segs_len l (y :: r)
    show (segs l (y :: r)).length + 1 = _
    rw [ih]
    rfl
theorem segs_get (l : List Bool) : ∀ (zs : List Nat) (i a b : Nat), zs[i]? = some a → zs[i + 1]? = some b → (segs l zs)[i]? = some ((l.drop a).take (b - a))
  | [], i, a, b, h, _ => by cases h
  | [_], i, a, b, _, h => by cases h
  | x :: y :: r, 0, a, b, h1, h2 => by
    cases h1
    cases h2
    rfl
  | x :: y :: r, i + 1, a, b, h1, h2 => segs_get l (y :: r) i a b h1 h2
theorem segs_shift (p l : List Bool) : ∀ zs : List Nat, segs (p ++ l) (zs.map (p.length + ·)) = segs l zs
  | [] => rfl
  | [_] => rfl
  | x :: y :: r => by
    have ih := segs_shift p l (y :: r)
    show ((p ++ l).drop (p.length + x)).take (p.length + y - (p.length + x)) :: segs (p ++ l) ((y :: r).map (p.length + ·)) = _
    rw [ih, List.drop_length_add_append, Nat.add_sub_add_left]
    rfl
theorem hgt_app (p l : List Bool) (j : Nat) : hgt (p ++ l) (p.length + j) = hgt p p.length + hgt l j := by
  unfold hgt
  rw [List.take_length_add_append, List.map_append, List.sum_append, List.take_length]
theorem hgt_nonneg {l : List Bool} (h : okb none 0 l = true) {i : Nat} : 0 ≤ hgt l i := by
  have key : ∀ (l : List Bool) (k : Nat) (i : Nat), okb none k l = true → 0 ≤ (k : Int) + ((l.take i).map sg).sum := by
    intro l
    induction l with
    | nil =>
      intro k i e
      rw [List.take_nil]
      show 0 ≤ (k : Int) + 0
      omega
    | cons b l ih =>
      intro k i e
      cases i with
      | zero =>
        show 0 ≤ (k : Int) + 0
        omega
      | succ i =>
        rw [List.take_succ_cons, List.map_cons, List.sum_cons]
        cases b with
        | true =>
          have := ih (k + 1) i (okb_up e).2
          have e1 : sg true = 1 := rfl
          omega
        | false =>
          obtain ⟨k0, e⟩ := okb_down e
          have := ih (k - 1) i e
          have e1 : sg false = -1 := rfl
          omega
  have := key l 0 i h
  unfold hgt
  omega
theorem okb_sum {l : List Bool} (h : okb none 0 l = true) : (l.map sg).sum = 0 := by
  have := ((okb_iff none l 0 (fun k z => by cases z)).mp h).1
  omega
theorem hgt_all {l : List Bool} (h : okb none 0 l = true) : hgt l l.length = 0 := (hgt_len l).trans (okb_sum h)
theorem zeros_tree (a b : Gv) : zeros (Gv.tree a b).row = 0 :: (zeros b.row).map ((true :: (a.row ++ [false])).length + ·) := by
  have e0 : (Gv.tree a b).row = (true :: (a.row ++ [false])) ++ b.row := by
    show true :: (a.row ++ false :: b.row) = _
    rw [List.cons_append, List.append_assoc]
    rfl
  have hm : hgt (true :: (a.row ++ [false])) (true :: (a.row ++ [false])).length = 0 := hgt_all (hill_put a.row_hill (b := []) rfl)
  unfold zeros zerosTo
  have el : (Gv.tree a b).row.length + 1 = (true :: (a.row ++ [false])).length + (b.row.length + 1) := by
    rw [e0, List.length_append]
    omega
  rw [el, List.range_add, List.filter_append, List.filter_map]
  have p1 : (List.range (true :: (a.row ++ [false])).length).filter (fun i => decide (hgt (Gv.tree a b).row i = 0)) = [0] := by
    have em : (true :: (a.row ++ [false])).length = (a.row.length + 1) + 1 := by simp
    rw [em, List.range_succ_eq_map, List.filter_cons_of_pos (by simp [hgt]), List.filter_map]
    have : (List.range (a.row.length + 1)).filter ((fun i => decide (hgt (Gv.tree a b).row i = 0)) ∘ Nat.succ) = [] := by
      rw [List.filter_eq_nil_iff]
      intro i hi
      have hi := List.mem_range.mp hi
      have e2 : hgt (Gv.tree a b).row (i + 1) = 1 + hgt a.row i := by
        show (((true :: (a.row ++ false :: b.row)).take (i + 1)).map sg).sum = _
        rw [List.take_succ_cons, List.map_cons, List.sum_cons, List.take_append_of_le_length (by omega)]
        rfl
      have := hgt_nonneg a.row_hill (i := i)
      show ¬ (decide (hgt (Gv.tree a b).row (i + 1) = 0)) = true
      rw [e2]
      simp
      omega
    rw [this]
    rfl
  have p2 : (List.range (b.row.length + 1)).filter ((fun i => decide (hgt (Gv.tree a b).row i = 0)) ∘ ((true :: (a.row ++ [false])).length + ·)) = (List.range (b.row.length + 1)).filter (fun i => decide (hgt b.row i = 0)) := by
    refine List.filter_congr fun i _ => ?_
    show decide (hgt (Gv.tree a b).row ((true :: (a.row ++ [false])).length + i) = 0) = _
    rw [e0, hgt_app, hm, Int.zero_add]
  rw [p1, p2]
  rfl
theorem zeros_head : ∀ g : Gv, ∃ r, zeros g.row = 0 :: r
  | .no => ⟨[], rfl⟩
  | .tree a b => ⟨_, zeros_tree a b⟩
theorem segs_zeros : ∀ g : Gv, segs g.row (zeros g.row) = hillsOf g
  | .no => rfl
  | .tree a b => by
    obtain ⟨r, hr⟩ := zeros_head b
    have e0 : (Gv.tree a b).row = (true :: (a.row ++ [false])) ++ b.row := by
      show true :: (a.row ++ false :: b.row) = _
      rw [List.cons_append, List.append_assoc]
      rfl
    have ih := segs_zeros b
    rw [zeros_tree, hr, List.map_cons]
    show (((Gv.tree a b).row.drop 0).take ((true :: (a.row ++ [false])).length + 0 - 0)) :: segs (Gv.tree a b).row ((0 :: r).map ((true :: (a.row ++ [false])).length + ·)) = _
    rw [← hr, e0, segs_shift, ih, List.drop_zero, Nat.sub_zero, Nat.add_zero, List.take_left']
    · rfl
    · rfl
end Hr
namespace Hr
/-- a hill row of n ups under the ceiling c -/
def Hill (c : Option Nat) (n : Nat) (l : List Bool) : Prop := okb c 0 l = true ∧ l.length = 2 * n
end Hr
/-! ### defs of the text, by what they promise -/
namespace Hr
open PySem PySem.Spec PyProof.Rows L2
theorem same_upd {H : Hp} {p : Addr} {o : HO} (h : H p = none) : Same H (upd H p o) := fun b x e => by
  rw [upd_ne (ne_of_none e h)]
  exact e
/-- what was new may change -/
theorem same_updN {H0 H : Hp} {p : Addr} {o : HO} (s : Same H0 H) (n : H0 p = none) : Same H0 (upd H p o) := fun b x e => by
  rw [upd_ne (ne_of_none e n)]
  exact s b x e
theorem sz {n : Nat} (h : n ≤ 1000000) : n ≤ sizeLine := Nat.le_trans h (by decide)
theorem szl {n : Nat} (h : n < 1000000) : n < sizeLine := Nat.lt_of_lt_of_le h (by decide)
section
variable (K : PySem.W.Frag) (mg : Str → Option Value)
structure Def (x : Str) (st : Stmt) (ps : List Str) : Prop where
  ex : ∃ (f : Addr) (fd : FuncData), Fun K x x st f fd ∧ mg x = some (.ref f) ∧ Binds K fd ps []
/-- a def whose last parameter is None where it is left out -/
structure DefD (x : Str) (st : Stmt) (ps : List Str) : Prop where
  ex : ∃ (f : Addr) (fd : FuncData), FunD K x x (defArgs st) (defBody st) (defScope st) [V.non] [] f fd ∧ mg x = some (.ref f) ∧ Binds K fd ps [] ∧ ∃ ds, Vals [V.non] ds ∧ Binds K fd ps ds
/-- a def whose last parameter is dv where it is left out -/
structure DefV (x : Str) (st : Stmt) (ps : List Str) (dv : V) : Prop where
  ex : ∃ (f : Addr) (fd : FuncData), FunD K x x (defArgs st) (defBody st) (defScope st) [dv] [] f fd ∧ mg x = some (.ref f) ∧ Binds K fd ps [] ∧ ∃ ds, Vals [dv] ds ∧ Binds K fd ps ds
structure Cal (CX : CXT) (P : Program) (w : World) (base : Heap) (k : Nat) (x : Str) (dvs : List V) (sp : Sp) : Prop where
  ex : ∃ (f : Addr) (fd : FuncData) (ps : List Str) (ds : List Value), FnOk P w K mg base CX k f fd ps sp ∧ mg x = some (.ref f) ∧ PySem.W.keepIn K (.ref f) = true ∧ Binds K fd ps ds ∧ Vals dvs ds
end
section
variable {P : Program} {w : World} {K : PySem.W.Frag} {mg : Str → Option Value} {base : Heap}
theorem Def.cal {x : Str} {st : Stmt} {N ps : List Str} {k : Nat} {sp : Sp} (D : Def K mg x st ps) (S : FnScope N ps (defScope st)) (len : ∀ vs H Q E, sp vs H Q E → vs.length = ps.length)
    (hbody : ∀ (f : Addr) (cdv : Value) (A : Around) (outer : List Env) (s : Shared) (H : Hp) (vs : List V) (Q : VK) (E : XK), Room k (A.deeper (envOfC x (defScope st) s.heap.objs.size f cdv)) → sp vs H Q E →
      ∃ t, PSs (cxOf CX0 P w K mg base N x (defScope st) f cdv A outer s H E).nox (defBody st) t ∧ t { nx := fun _ H' => Q .non H', rt := Q } (start N vs) H) : Cal K mg CX0 P w base (k + 1) x [] sp := by
  obtain ⟨f, fd, F, hm, b⟩ := D.ex
  exact ⟨f, fd, ps, [], F.ok S len (hbody f), hm, F.kp, b, .nil⟩
theorem DefD.ok {x : Str} {st : Stmt} {N ps : List Str} {k : Nat} {sp : Sp} (D : DefD K mg x st ps) (S : FnScope N ps (defScope st)) (len : ∀ vs H Q E, sp vs H Q E → vs.length = ps.length)
    (hbody : ∀ (f : Addr) (cdv : Value) (A : Around) (outer : List Env) (s : Shared) (H : Hp) (vs : List V) (Q : VK) (E : XK), Room k (A.deeper (envOfC x (defScope st) s.heap.objs.size f cdv)) → sp vs H Q E →
      ∃ t, PSs (cxOf CX0 P w K mg base N x (defScope st) f cdv A outer s H E).nox (defBody st) t ∧ t { nx := fun _ H' => Q .non H', rt := Q } (start N vs) H) :
    Cal K mg CX0 P w base (k + 1) x [] sp ∧ Cal K mg CX0 P w base (k + 1) x [.non] sp := by
  obtain ⟨f, fd, F, hm, b, ds, vd, b2⟩ := D.ex
  have G : FnOk P w K mg base CX0 (k + 1) f fd ps sp := F.ok S len fun cdv A outer s H vs Q E hr hsp => by
    obtain ⟨t, h, q⟩ := hbody f cdv A outer s H vs Q E hr hsp
    exact ⟨t, h.nox, q⟩
  exact ⟨⟨f, fd, ps, [], G, hm, F.kp, b, .nil⟩, ⟨f, fd, ps, ds, G, hm, F.kp, b2, vd⟩⟩
theorem DefV.ok {x : Str} {st : Stmt} {N ps : List Str} {dv : V} {k : Nat} {sp : Sp} (D : DefV K mg x st ps dv) (S : FnScope N ps (defScope st)) (len : ∀ vs H Q E, sp vs H Q E → vs.length = ps.length)
    (hbody : ∀ (f : Addr) (cdv : Value) (A : Around) (outer : List Env) (s : Shared) (H : Hp) (vs : List V) (Q : VK) (E : XK), Room k (A.deeper (envOfC x (defScope st) s.heap.objs.size f cdv)) → sp vs H Q E →
      ∃ t, PSs (cxOf CX0 P w K mg base N x (defScope st) f cdv A outer s H E).nox (defBody st) t ∧ t { nx := fun _ H' => Q .non H', rt := Q } (start N vs) H) :
    Cal K mg CX0 P w base (k + 1) x [] sp ∧ Cal K mg CX0 P w base (k + 1) x [dv] sp := by
  obtain ⟨f, fd, F, hm, b, ds, vd, b2⟩ := D.ex
  have G : FnOk P w K mg base CX0 (k + 1) f fd ps sp := F.ok S len fun cdv A outer s H vs Q E hr hsp => by
    obtain ⟨t, h, q⟩ := hbody f cdv A outer s H vs Q E hr hsp
    exact ⟨t, h.nox, q⟩
  exact ⟨⟨f, fd, ps, [], G, hm, F.kp, b, .nil⟩, ⟨f, fd, ps, ds, G, hm, F.kp, b2, vd⟩⟩
/-- a weaker promise -/
theorem Cal.imp {CX : CXT} {x : Str} {dvs : List V} {k : Nat} {sp sp' : Sp} (C : Cal K mg CX P w base k x dvs sp) (h : ∀ vs H Q E, sp' vs H Q E → sp vs H Q E) : Cal K mg CX P w base k x dvs sp' := by
  obtain ⟨f, fd, ps, ds, G, hm, kp, b, d⟩ := C.ex
  exact ⟨f, fd, ps, ds, G.imp h, hm, kp, b, d⟩
end
section
variable {X : Cx}
theorem pe_c {k j : Nat} {x : Str} {dvs : List V} {sp : Sp} {e : Expr} {es : List Expr} {t : TA} {p pos : Pos} (c : Cal X.K X.mg CX0 X.prog X.w X.base k x dvs sp) (hr : Room j X.A) (ha : PA X (e :: es) t) (hk : k ≤ j := by decide) (hg : Gl X x := by rfl)
    (hdb : (x == ("__debug__" : Str)) = false := by decide) (he : starEach (e :: es) X.env = (false, eval e X.env) :: starEach es X.env := by rfl) (hpl : (backTo pos (starEach es X.env)).any (·.1) = false := by rfl) :
    PE X (.Call (.Name x p) (e :: es) [] pos) (tCall sp dvs E0 t) := by
  obtain ⟨f, fd, ps, ds, F, hm, kp, b, d⟩ := c.ex
  exact pe_call F (hr.mono hk) hg hm kp b d pass0 ha hdb he hpl
end
/-- from what the top has left -/
theorem def_mk {K : PySem.W.Frag} {mg : Str → Option Value} {h : Heap} {x : Str} {st : Stmt} {ps : List Str} {f : Addr} {oc : Value} {od an : Option Addr} {osl : Array (Option Value)} {kV doc pm cdv ct : Value} (X : K.In h) (G : h.Ns mainGlobals mg)
    (hb : ∀ (kV doc pm : Value) (an : Option Addr) (cdv ct : Value) (us : List Value), us.length = ps.length → bindArgs (PySem.W.fnOf x x (defArgs st) (defBody st) (defScope st) .none kV doc pm an cdv ct) ⟨us, []⟩ = pure (ps.zip us))
    (a : PySem.W.nsIn K mainGlobals x = some (some (.ref f))) (l : K.lookup f = some ⟨oc, od, .func (PySem.W.fnOf x x (defArgs st) (defBody st) (defScope st) .none kV doc pm an cdv ct), osl⟩)
    (c : PySem.W.codeIn K cdv x = true) (k : PySem.W.keepIn K (.ref f) = true) : Def K mg x st ps :=
  have F := fun_mk (st := st) l c k
  ⟨f, _, F, PySem.W.mg_of X G a, F.binds hb⟩
theorem defD_mk {K : PySem.W.Frag} {mg : Str → Option Value} {h : Heap} {x : Str} {st : Stmt} {ps : List Str} {f T : Addr} {oc tc : Value} {od an td : Option Addr} {osl tsl : Array (Option Value)} {kV doc pm cdv ct : Value} {n m : Nat} (X : K.In h) (G : h.Ns mainGlobals mg)
    (hn : ps.length = m + 1)
    (hb2 : ∀ (T : Addr) (kV doc pm : Value) (an : Option Addr) (cdv ct : Value) (us its : List Value), us.length = m + 1 → its.length = 1 →
      ∃ k, bindArgs (PySem.W.fnOf x x (defArgs st) (defBody st) (defScope st) (.ref T) kV doc pm an cdv ct) ⟨us, []⟩ = seqItems? (.ref T) >>= k ∧ k (some its.toArray) = pure (ps.zip (us ++ its.drop 1)))
    (hb1 : ∀ (T : Addr) (kV doc pm : Value) (an : Option Addr) (cdv ct : Value) (us its : List Value), us.length = m → its.length = 1 →
      ∃ k, bindArgs (PySem.W.fnOf x x (defArgs st) (defBody st) (defScope st) (.ref T) kV doc pm an cdv ct) ⟨us, []⟩ = seqItems? (.ref T) >>= k ∧ k (some its.toArray) = pure (ps.zip (us ++ its.drop 0)))
    (a : PySem.W.nsIn K mainGlobals x = some (some (.ref f))) (l : K.lookup f = some ⟨oc, od, .func (PySem.W.fnOf x x (defArgs st) (defBody st) (defScope st) (.ref T) kV doc pm an cdv ct), osl⟩)
    (c : PySem.W.codeIn K cdv x = true) (k : PySem.W.keepIn K (.ref f) = true) (lT : K.lookup T = some ⟨tc, td, .seq #[.none] n, tsl⟩) : DefD K mg x st ps := by
  have F : FunD K x x (defArgs st) (defBody st) (defScope st) [V.non] [] f (PySem.W.fnOf x x (defArgs st) (defBody st) (defScope st) (.ref T) kV doc pm an cdv ct) :=
    ⟨⟨oc, od, .ref T, kV, doc, pm, an, cdv, ct, osl, rfl, l, c, .inr ⟨List.cons_ne_nil _ _, T, _, [.none], n, rfl, lT, rfl, .cons rfl .nil⟩, .inl rfl⟩, k⟩
  obtain ⟨d2, v2, b2⟩ := F.binds1 (m + 1) 1 (List.cons_ne_nil _ _) (by rw [hn]; rfl) (fun T kV doc pm an cdv ct us its h1 h2 => hb2 T kV doc pm an cdv ct us its h1 h2)
  obtain ⟨d1, v1, b1⟩ := F.binds1 m 0 (List.cons_ne_nil _ _) (by rw [hn]; rfl) (fun T kV doc pm an cdv ct us its h1 h2 => hb1 T kV doc pm an cdv ct us its h1 h2)
  have e2 : d2 = [] := by
    cases v2
    rfl
  subst e2
  exact ⟨f, _, F, PySem.W.mg_of X G a, b2, d1, v1, b1⟩
theorem defV_mk {K : PySem.W.Frag} {mg : Str → Option Value} {h : Heap} {x : Str} {st : Stmt} {ps : List Str} {dv : V} {u : Value} {f T : Addr} {oc tc : Value} {od an td : Option Addr} {osl tsl : Array (Option Value)} {kV doc pm cdv ct : Value} {n m : Nat} (X : K.In h) (G : h.Ns mainGlobals mg)
    (hn : ps.length = m + 1)
    (hb2 : ∀ (T : Addr) (kV doc pm : Value) (an : Option Addr) (cdv ct : Value) (us its : List Value), us.length = m + 1 → its.length = 1 →
      ∃ k, bindArgs (PySem.W.fnOf x x (defArgs st) (defBody st) (defScope st) (.ref T) kV doc pm an cdv ct) ⟨us, []⟩ = seqItems? (.ref T) >>= k ∧ k (some its.toArray) = pure (ps.zip (us ++ its.drop 1)))
    (hb1 : ∀ (T : Addr) (kV doc pm : Value) (an : Option Addr) (cdv ct : Value) (us its : List Value), us.length = m → its.length = 1 →
      ∃ k, bindArgs (PySem.W.fnOf x x (defArgs st) (defBody st) (defScope st) (.ref T) kV doc pm an cdv ct) ⟨us, []⟩ = seqItems? (.ref T) >>= k ∧ k (some its.toArray) = pure (ps.zip (us ++ its.drop 0)))
    (a : PySem.W.nsIn K mainGlobals x = some (some (.ref f))) (l : K.lookup f = some ⟨oc, od, .func (PySem.W.fnOf x x (defArgs st) (defBody st) (defScope st) (.ref T) kV doc pm an cdv ct), osl⟩)
    (c : PySem.W.codeIn K cdv x = true) (k : PySem.W.keepIn K (.ref f) = true) (hu : RelV dv u) (lT : K.lookup T = some ⟨tc, td, .seq #[u] n, tsl⟩) : DefV K mg x st ps dv := by
  have F : FunD K x x (defArgs st) (defBody st) (defScope st) [dv] [] f (PySem.W.fnOf x x (defArgs st) (defBody st) (defScope st) (.ref T) kV doc pm an cdv ct) :=
    ⟨⟨oc, od, .ref T, kV, doc, pm, an, cdv, ct, osl, rfl, l, c, .inr ⟨List.cons_ne_nil _ _, T, _, [u], n, rfl, lT, rfl, .cons hu .nil⟩, .inl rfl⟩, k⟩
  obtain ⟨d2, v2, b2⟩ := F.binds1 (m + 1) 1 (List.cons_ne_nil _ _) (by rw [hn]; rfl) (fun T kV doc pm an cdv ct us its h1 h2 => hb2 T kV doc pm an cdv ct us its h1 h2)
  obtain ⟨d1, v1, b1⟩ := F.binds1 m 0 (List.cons_ne_nil _ _) (by rw [hn]; rfl) (fun T kV doc pm an cdv ct us its h1 h2 => hb1 T kV doc pm an cdv ct us its h1 h2)
  have e2 : d2 = [] := by
    cases v2
    rfl
  subst e2
  exact ⟨f, _, F, PySem.W.mg_of X G a, b2, d1, v1, b1⟩
end Hr
/-! ### the text of this law -/
namespace Hr
open PySem PySem.Spec PyProof.Rows L2
def topS (i : Nat) : Stmt := PySem.Challenge.pw_hillrows_k12_whole_told_by_parts.main.body.getD i (.Pass ⟨0, 0, 0, 0⟩)
abbrev sCounted : Stmt := topS 13
abbrev sHill : Stmt := topS 14
abbrev sTable : Stmt := topS 15
abbrev sStep : Stmt := topS 16
abbrev sLow : Stmt := topS 17
abbrev sIsNum : Stmt := topS 18
abbrev sChNum : Stmt := topS 19
abbrev sChCei : Stmt := topS 20
abbrev sHeights : Stmt := topS 24
abbrev sIsHill : Stmt := topS 25
abbrev sIsRow : Stmt := topS 26
abbrev sChHill : Stmt := topS 27
abbrev sRank : Stmt := topS 29
abbrev sRowAt : Stmt := topS 30
abbrev sNumOf : Stmt := topS 31
abbrev sOfNum : Stmt := topS 32
abbrev sDown : Stmt := topS 33
abbrev sCount : Stmt := topS 34
abbrev s_cut : Stmt := topS 36
abbrev s_parts : Stmt := topS 37
abbrev s_lifted : Stmt := topS 40
abbrev s_rank_told : Stmt := topS 41
abbrev s_row_told : Stmt := topS 42
abbrev sMixed : Stmt := topS 44
abbrev sNumber : Stmt := topS 45
abbrev sLRow : Stmt := topS 46
abbrev sWord : Stmt := topS 47
abbrev sAsked : Stmt := topS 48
abbrev sEmpty : Stmt := topS 49
abbrev sEnd : Stmt := topS 50
abbrev sLaw : Stmt := topS 51
end Hr
/-! ### a text walked with its places -/
namespace Hr
open PySem PySem.Spec PyProof.Rows L2
/-- the signs of a text, each in a new pair behind its place -/
def ItEs (x : Str) : It :=
  { go := fun i _ => i < x.cps.size
    yld := fun i H v H' => ∃ T c, v = .ref T ∧ H T = none ∧ H' = upd H T (.tup [.int (i : Nat), .str ⟨#[c]⟩]) ∧ x.cps[i]? = some c
    stop := fun i _ => i = x.cps.size }
theorem two_mem {b e it : Addr} (h : b ∈ [e, it]) : b = e ∨ b = it := by simpa using h
theorem turn_es {P : Program} {w : World} {K : PySem.W.Frag} {elts : List Expr} {kk : Nat} {tpos : Pos} (x : Str) (t : Tok) (e it : Addr) :
    Turn P w K (.Tuple elts kk tpos) (ItEs x) [e, it] e (fun i h => (∃ old, IsEnum h e it ((i : Nat) : Int) old) ∧ h.IsStrIter it (strIterType x) x t i ∧ e ≠ it) := by
  refine { mem := List.mem_cons_self .., obj := ?_, keep := ?_, item := ?_, done := ?_, self := ?_ }
  · rintro i h ⟨⟨old, he⟩, ⟨o, ho, _, hd⟩, _⟩ b hb
    rcases two_mem hb with rfl | rfl
    · exact ⟨_, he, fun v q => (nomatch q)⟩
    · exact ⟨o, ho, fun v q => by rw [hd] at q; exact (nomatch q)⟩
  · rintro i h h' ⟨⟨old, he⟩, ⟨o, ho, r⟩, hne⟩ k
    exact ⟨⟨old, k e (by simp) _ he⟩, ⟨o, k it (by simp) o ho, r⟩, hne⟩
  · rintro X rfl rfl rfl hc i pins s σ H E I hf ⟨⟨old, he⟩, hit, hne⟩ hg
    have le : e < s.heap.objs.size := Heap.lt_size he
    have li : it < s.heap.objs.size := hit.elim fun _ q => Heap.lt_size q.1
    have D : Draws X.prog X.w X.A.in1 it [it] x.cps.size (fun i v => ∃ c u, x.cps[i]? = some c ∧ v = .str ⟨#[c]⟩ u) (fun i h => h.IsStrIter it (strIterType x) x t i) := Draws.text (A := X.A.in1) (show X.A.in1.handled = none from I.ok.hd hc) it x t
    refine wpAny_pyNext_enum_itemD D he hit hg hne (by simpa using hne) fun y h1 tk hy he1 hit1 hT hsz hk => ?_
    obtain ⟨c, u, hcx, rfl⟩ := hy
    refine ⟨_, rfl, wpAny_letOwnedTupleGo_enum (s := { s with heap := h1, toks := tk + 1 }) he1 fun h2 he2 sb => ?_⟩
    have hT2 := (sb.2 _ (Nat.ne_of_gt le)).trans hT
    have ok : ObjOk X.prog X.w (upd H s.heap.objs.size (.tup [.int (i : Nat), .str ⟨#[c]⟩])) h2 s.heap.objs.size (.tup [.int (i : Nat), .str ⟨#[c]⟩]) :=
      ⟨sz (show 2 ≤ 1000000 by decide), [.int i tk, .str ⟨#[c]⟩ u], .cons ⟨_, rfl⟩ (.cons ⟨_, rfl⟩ .nil), ⟨_, hT2, rfl, _, rfl⟩⟩
    have I2 := I.turnedNew (t' := tk + 1) (ch := [e, it]) (fun b ob hb q => (sb.2 b (fun z => hb (by simp [z]))).trans (hk b ob (fun z => hb (by simp [z])) (fun z => hb (by simp [z])) q)) hf (Nat.le_refl _) ok
    refine ⟨.ref s.heap.objs.size, _, I2, rfl, ⟨_, c, rfl, I.hok.fresh (Nat.le_refl _), rfl, hcx⟩, ⟨⟨.str ⟨#[c]⟩ u, ?_⟩, ?_, hne⟩, fun b hb => ?_⟩
    · rw [Int.natCast_add]
      exact he2
    · obtain ⟨o, ho, r⟩ := hit1
      exact ⟨o, (sb.2 it (Ne.symm hne)).trans ho, r⟩
    · have lb : b < s.heap.objs.size := by
        rcases two_mem hb with z | z
        · exact z ▸ le
        · exact z ▸ li
      rw [upd_ne (Nat.ne_of_lt lb)]
      exact (hf b hb).1
  · rintro X rfl rfl rfl hc i pins s σ H E I hf ⟨⟨old, he⟩, hit, hne⟩ hg
    have D : Draws X.prog X.w X.A.in1 it [it] x.cps.size (fun i v => ∃ c u, x.cps[i]? = some c ∧ v = .str ⟨#[c]⟩ u) (fun i h => h.IsStrIter it (strIterType x) x t i) := Draws.text (A := X.A.in1) (show X.A.in1.handled = none from I.ok.hd hc) it x t
    obtain ⟨f0, f1, f2, f3, f4, f5⟩ := hf it (by simp)
    have hit : s.heap.IsStrIter it (strIterType x) x t x.cps.size := (show i = x.cps.size from hg) ▸ hit
    exact wpAny_pyNext_enum_endD D he hit fun h1 eb => ⟨rfl, I.turned (t' := s.toks) (fun b o hb q => eb b o hb q) f0 f1 f3 f4 f5⟩
  · rintro A i s Q E ⟨⟨old, he⟩, _⟩ h
    exact wpAny_pyIter_enum he h
def iEs (ta : TA) : TI := fun σ H R => ta σ H fun vs H1 => ∃ x, vs = [.str x] ∧ R (ItEs x) H1
theorem pi_es {X : Cx} {e : Expr} {ta : TA} {p pos tpos : Pos} {elts : List Expr} {kk : Nat} (hg : Gl X "enumerate") (hm : X.mg "enumerate" = none) (ha : PA X [e] ta) (hs : starEach [e] X.env = [(false, eval e X.env)] := by rfl) :
    PI X (.Tuple elts kk tpos) (.Call (.Name "enumerate" p) [e] [] pos) (iEs ta) := by
  refine ⟨fun pins s σ H R I h => Call_ (ld_blt I hg hm boot_enumerate (PyProof.Rows.callWith_type1 (thn (ha.run pos pins s σ H _ I h) fun us s1 ⟨vs, H1, I1, r1, x, ex, q⟩ => ?_) hs rfl))⟩
  subst ex
  obtain ⟨u, rest, rfl⟩ : ∃ u rest, us = u :: rest := by
    cases r1
    exact ⟨_, _, rfl⟩
  cases r1 with
  | cons r rr =>
    cases rr
    obtain ⟨t, rfl⟩ := r
    refine call_enumerate_str fun h' he hit hsz hk => wpAny_pyIter_enum he ?_
    refine ⟨s1.heap.objs.size + 1, [s1.heap.objs.size + 1, s1.heap.objs.size], _, _, H1, rfl, I1.kept (t' := s1.toks) hk, turn_es x t (s1.heap.objs.size + 1) s1.heap.objs.size, ⟨⟨.none, he⟩, hit, Nat.succ_ne_self _⟩, fun b hb => ?_, q⟩
    have lb : s1.heap.objs.size ≤ b := by
      rcases two_mem hb with z | z
      · rw [z]
        exact Nat.le_succ _
      · rw [z]
        exact Nat.le_refl _
    exact I1.fpOk lb (I1.hok.fresh lb)
theorem walk_es {x : Str} : Walk (ItEs x) x.cps.size (fun _ => True) (YPair (fun i => some (.int (i : Nat))) (fun i => (x.cps[i]?).map fun c => V.str ⟨#[c]⟩)) := by
  refine ⟨fun _ _ hi _ => hi, fun _ _ => rfl, fun i H v H' _ _ y => ?_⟩
  obtain ⟨T, c, h1, h2, h3, h4⟩ := y
  exact ⟨T, .int (i : Nat), .str ⟨#[c]⟩, h1, h2, h3, rfl, by show (x.cps[i]?).map _ = _; rw [h4]; rfl⟩
end Hr
/-! ### errors that are caught and kept -/
namespace Hr
open PySem PySem.Spec PyProof.Rows L2
/-- an exception's object at a: its class, its own dict -/
def ExT (cls : Value) (d : Option Addr) (a : Addr) : HO := .ext fun h => ∃ (oe : Obj) (vs : Array Value), h.get? a = some oe ∧ Zc cls d oe ∧ oe.data = .fields vs
theorem exT_ok {P : Program} {w : World} {H : Hp} {h : Heap} {a : Addr} {cls : Value} {d : Option Addr} {oe : Obj} {vs : Array Value} (e : h.get? a = some oe) (z : Zc cls d oe) (dd : oe.data = .fields vs) : ObjOk P w H h a (ExT cls d a) :=
  ⟨⟨oe, vs, e, z, dd⟩, ⟨oe, e⟩, fun _ _ ⟨o, v, q, r⟩ k => ⟨o, v, k o q, r⟩⟩
/-- the wish of a try whose clause takes every error of its body and keeps it -/
def wKept (K : PySem.W.Frag) (c : Value) (i : Nat) (ts : Addr → TS) (D : Ends) : WX := fun cls d σ H =>
  PySem.W.exmOne K cls c = some true ∧ ∀ a, H a = none →
    ts a ⟨fun σ1 H1 => D.nx (σ1.set i none) (upd H1 a (ExT cls d a)), fun _ _ => False, fun _ _ => False, fun _ _ => False⟩ (σ.set i (some (.ref a))) H
section
variable {X : Cx} {x n : Str} {c : Value} {i : Nat} {body suite : List Stmt} {b₀ : Stmt} {np pos pos' : Pos} {tb : WX → TS} {ts : Addr → TS}
theorem unsuite2 {pins : List (Addr × Obj)} {σ : L2.St} {H : Hp} {s : Shared} {a : Addr} {oe : Obj} (I : Inv (X.suite a ((a, oe) :: (X.pn ++ pins))) [] σ H s) (ok : X.Ok) : Inv X ((a, oe) :: pins) σ H s :=
  ⟨ok, I.os, I.bare, I.base, I.loc, I.cell, I.free, I.freeC, fun p hp => I.pin p (List.mem_append_left _ (by
    rcases List.mem_append.mp hp with z | z
    · exact List.mem_cons_of_mem _ (List.mem_append_left _ z)
    · rcases List.mem_cons.mp z with z | z
      · rw [z]
        exact List.mem_cons_self
      · exact List.mem_cons_of_mem _ (List.mem_append_right _ z))), I.hok, I.len⟩
theorem track {pins : List (Addr × Obj)} {σ : L2.St} {H : Hp} {s : Shared} {a : Addr} {oe : Obj} {vs : Array Value} {cls : Value} {d : Option Addr} (I : Inv X ((a, oe) :: pins) σ H s) (hz : Zc cls d oe) (hd : oe.data = .fields vs) (n0 : X.s_0.heap.get? a = none)
    (np : ∀ p ∈ X.pn ++ pins, p.1 ≠ a) : Inv X pins σ (upd H a (ExT cls d a)) s := by
  obtain ⟨ha, na, nL, nF, _⟩ := I.pin (a, oe) (List.mem_append_right _ List.mem_cons_self)
  have ha : s.heap.get? a = some oe := ha
  have na : H a = none := na
  have nb0 : ∀ b o, X.s_0.heap.get? b = some o → b ≠ a := fun b o e z => by
    rw [z, n0] at e
    cases e
  refine ⟨I.ok, I.os, I.bare, ⟨I.base.keep, I.base.slot, fun b o e n hx => ?_, I.base.there, fun b xs e => ?_, fun b o u e => ?_, fun b ps e => ?_⟩, I.loc, I.cell, ?_, fun y cc e => ?_, fun p hp => ?_, ?_, I.len⟩
  · rw [upd_ne (nb0 b o e)]
    exact I.base.free b o e n hx
  · have q := I.base.tups b xs e
    rw [upd_ne (ne_of_none q na)]
    exact q
  · have q := I.base.frzs b o u e
    rw [upd_ne (ne_of_none q na)]
    exact q
  · obtain ⟨m, q⟩ := I.base.tbls b ps e
    exact ⟨m, by rw [upd_ne (ne_of_none q na)]; exact q⟩
  · rw [upd_ne (Ne.symm nL)]
    exact I.free
  · obtain ⟨v, o, q1, q2⟩ := I.cell y cc e
    have nc : cc ≠ a := fun z => by
      rw [z, ha] at q1
      cases q1
      rw [hd] at q2
      cases q2
    rw [upd_ne nc]
    exact I.freeC y cc e
  · obtain ⟨q1, q2, q3, q4, q5⟩ := I.pin p (by
      rcases List.mem_append.mp hp with z | z
      · exact List.mem_append_left _ z
      · exact List.mem_append_right _ (List.mem_cons_of_mem _ z))
    exact ⟨q1, by rw [upd_ne (np p hp)]; exact q2, q3, q4, q5⟩
  · exact I.hok.laidN (fun _ _ z => z) na (exT_ok ha hz hd)
/-- what is caught is new since the def began -/
theorem caught_new {pins : List (Addr × Obj)} {σ : L2.St} {H : Hp} {g : Shared} {G : Heap} {a : Addr} (J : Inv X pins σ H g)
    (kp : ∀ b o, g.heap.get? b = some o → b ∉ frs X.stack → G.get? b = some o) (out : G.get? a = none) (nf : a ∉ frs X.stack) (hex : X.ex = []) :
    X.s_0.heap.get? a = none ∧ ∀ p ∈ X.pn ++ pins, p.1 ≠ a := by
  have g0 : g.heap.get? a = none := by
    cases e : g.heap.get? a with
    | none => rfl
    | some o => exact absurd ((kp a o e nf).symm.trans out) (fun z => nomatch z)
  refine ⟨?_, fun p hp z => ?_⟩
  · cases e : X.s_0.heap.get? a with
    | none => rfl
    | some o =>
      obtain ⟨u, hu⟩ := J.base.there a o e (hex ▸ fun z => nomatch z)
      exact absurd (hu.symm.trans g0) (fun z => nomatch z)
  · have hp1 := (J.pin p hp).1
    rw [z, g0] at hp1
    exact nomatch hp1
theorem kept_try (hs : X.stack = X.env :: X.outer) (hf : X.env.frame = some X.env.locals)
    (hex : X.ex = []) (hN : X.N.Nodup) (hi : X.N[i]? = some n)
    (hln : X.env.kindOf n = some .local) (hc : Names X x c)
    (inner : ∀ W pn xe, Takes (X.tr pn xe) W → PassesOwn (model X.prog X.w) X.A X.env xe → PSs (X.tr pn xe) body (tb W))
    (clause : ∀ a q, PSs (X.suite a q) (b₀ :: suite) (ts a)) :
    PS X (.Try body [.ExceptHandler (some (.Name x np)) (some n) (b₀ :: suite) pos'] [] [] pos)
      (fun D σ H => tb (wKept X.K c i ts D) D σ H) := by
  constructor
  intro pins s σ H D I h
  have frames : X.A.frames = some (X.env :: X.outer) := by
    rw [← hs]
    exact I.ok.frames
  apply wpAny_Try_except
  refine wpAny_mono ((inner (wKept X.K c i ts D) (X.pn ++ pins) _ ?later PassesOwn.looking).run
    [] s σ H D (I.toTry _) h) ?done fun _ _ z => z
  case later =>
    rintro u t ⟨a, G, g, pq, σ1, H1, cls, d, rfl, J0, kp, up, sky, na, os, ag, hb, go⟩
    have J := J0.ofTry I.ok
    rw [hs] at sky
    refine Sky.land Zc.steady frames hf sky fun h3 f3 u3 => ?_
    obtain ⟨e3, v3, at3, z3, d3⟩ := f3.there
    -- it is none of the frames
    have away : a ∉ frs (X.env :: X.outer) := by
      intro z
      obtain ⟨_, o, ho, no⟩ := f3.2.2.1.mem z
      rw [at3] at ho
      injection ho with ho
      subst ho
      exact no _ d3
    have a1 : a ≠ X.env.locals := fun z =>
      away (List.mem_filterMap.mpr ⟨X.env, .head _, z ▸ hf⟩)
    have a2 : a ∉ X.fs := by
      intro z
      obtain ⟨e, he, q⟩ := List.mem_filterMap.mp z
      exact away (List.mem_filterMap.mpr ⟨e, .tail _ he, q⟩)
    obtain ⟨n0, apart⟩ := caught_new J kp f3.2.1 (hs ▸ away) hex
    have J3 := J.landed (s' := { t with heap := h3 }) kp f3.1 (up.trans u3) os ag
    have S3 := J3.suite at3 d3 na a1 a2
    refine wpAny_handleBy_cons (codeAny_handlers_test ?_) (fun z => nomatch z)
    have ty : PySem.W.Looks (model X.prog X.w) h3 (typeOf (.ref a)) cls := fun _ _ _ _ k q =>
      wpAny_typeOf_ref (k _ _ at3) (z3.1 ▸ q)
    have hit := PySem.W.exm_one J3.kIn ty hb
    have named : ∀ {Q E : Value → Shared → Prop}, Q c { t with heap := h3 } →
        wpAny (model X.prog X.w) (X.A.mark (some (.ref a))) (eval (.Name x np) X.env) Q E { t with heap := h3 } := by
      intro Q E q
      obtain ⟨gl, dbg, mine | ⟨none', boot, other⟩⟩ := hc
      · exact ld_glob S3 gl mine q dbg
      · exact ld_blt S3 gl none' boot q other dbg
    refine named (hit.here (codeAny_handlers_suite_as ?_))
    refine HandSPX.lands_againZ f3 fun h4 f4 u4 => ?_
    obtain ⟨e4, v4, at4, z4, d4⟩ := f4.there
    have J4 := J.landed (s' := { t with heap := h4 }) kp f4.1 ((up.trans u3).trans u4) os ag
    refine store_ok (X := X.suite a ((a, e4) :: (X.pn ++ pins)))
      (J4.suite at4 d4 na a1 a2) (v := .ref a) hN hi (.inl hln) rfl (fun s5 S5 => ?_) (.inr hln)
    have fin := (clause a ((a, e4) :: (X.pn ++ pins))).run [] s5 _ H1 _ S5 (go a na)
    refine wpAny_mono fin (fun fl s6 done => ?_) fun _ _ z => z.elim
    cases fl with
    | next =>
      obtain ⟨σ6, H6, S6, q6⟩ := done
      refine gone_ok (unsuite2 S6 I.ok) hN hi hln fun s7 J7 => ?_
      exact ⟨_, _, track J7 z4 d4 n0 apart, q6⟩
    | brk => exact (let ⟨_, _, _, z⟩ := done; z.elim)
    | cont => exact (let ⟨_, _, _, z⟩ := done; z.elim)
    | ret u => exact (let ⟨_, _, _, _, _, z⟩ := done; z.elim)
  intro fl s1 done
  cases fl with
  | next => exact (let ⟨_, _, J, z⟩ := done; wpAny_execs_nil ⟨_, _, J.ofTry I.ok, z⟩)
  | brk => exact (let ⟨_, _, J, z⟩ := done; ⟨_, _, J.ofTry I.ok, z⟩)
  | cont => exact (let ⟨_, _, J, z⟩ := done; ⟨_, _, J.ofTry I.ok, z⟩)
  | ret u => exact (let ⟨_, _, _, J, r, z⟩ := done; ⟨_, _, _, J.ofTry I.ok, r, z⟩)
/-- isinstance(e, c), e an error that was kept -/
def rIsT (K : PySem.W.Frag) : List V → Hp → VK → Prop := fun xs H Q => ∃ (a D : Addr) (cc : V) (cv : Value) (b : Bool), xs = [.ref a, cc] ∧ H a = some (ExT (.ref D) none a) ∧ ExcC K D ∧ (∀ u, RelV cc u → u = cv) ∧ PySem.W.kitOne K (.ref D) cv = some b ∧ Q (.bl b) H
theorem call_isT : CallR X (.builtin "isinstance") (rIsT X.K) := by
  intro pins s σ H xs us Q I r h
  obtain ⟨a, D, cc, cv, b, rfl, ea, C, hcv, e, q⟩ := h
  cases r with
  | cons rx rr =>
    cases rr with
    | cons rt rr =>
      cases rr
      cases rx
      have ec := hcv _ rt
      subst ec
      obtain ⟨⟨oe, vs, hget, hz, hv⟩, _⟩ := I.hok a _ ea
      have J : PySem.W.InstAt s.heap a oe D none := by
        obtain ⟨oc, od, oda, osl⟩ := oe
        obtain ⟨h1, h2⟩ := hz
        dsimp only at h1 h2 hv
        subst h1 h2 hv
        exact ⟨hget, rfl, rfl, trivial⟩
      exact PySem.W.kia_one (PySem.W.handS_kitx_exc C.hg C.hk C.hs C.hd C.ha C.hn C.ht C.hm) I.kIn J e (fun z => nomatch z) fun tk => ⟨.bl b, H, I.kept (t' := tk) fun _ _ z => z, rfl, q⟩
end
section
variable {X : Cx}
/-- a def that may raise, called where it does not -/
theorem pe_cL {k j : Nat} {x : Str} {dvs : List V} {sp : Sp} {e : Expr} {es : List Expr} {t : TA} {p pos : Pos} (c : Cal X.K X.mg (L2.CX X.prog X.w) X.prog X.w X.base k x dvs sp) (hr : Room j X.A) (ha : PA X (e :: es) t) (hk : k ≤ j := by decide) (hg : Gl X x := by rfl)
    (hdb : (x == ("__debug__" : Str)) = false := by decide) (he : starEach (e :: es) X.env = (false, eval e X.env) :: starEach es X.env := by rfl) (hpl : (backTo pos (starEach es X.env)).any (·.1) = false := by rfl) :
    PE X (.Call (.Name x p) (e :: es) [] pos) (tCall sp dvs E0 t) := by
  obtain ⟨f, fd, ps, ds, F, hm, kp, b, d⟩ := c.ex
  exact pe_call F (hr.mono hk) hg hm kp b d passL ha hdb he hpl
/-- .. in a def that lets it out -/
theorem pe_cX {k j : Nat} {x : Str} {dvs : List V} {sp : Sp} {E : XK} {e : Expr} {es : List Expr} {t : TA} {p pos : Pos} (c : Cal X.K X.mg (L2.CX X.prog X.w) X.prog X.w X.base k x dvs sp) (hr : Room j X.A) (tk : Takes X fun cls d _ H => E cls d H) (ha : PA X (e :: es) t) (hk : k ≤ j := by decide) (hg : Gl X x := by rfl)
    (hdb : (x == ("__debug__" : Str)) = false := by decide) (he : starEach (e :: es) X.env = (false, eval e X.env) :: starEach es X.env := by rfl) (hpl : (backTo pos (starEach es X.env)).any (·.1) = false := by rfl) :
    PE X (.Call (.Name x p) (e :: es) [] pos) (tCall sp dvs E t) := by
  obtain ⟨f, fd, ps, ds, F, hm, kp, b, d⟩ := c.ex
  exact pe_call F (hr.mono hk) hg hm kp b d (passes_call tk fun _ _ _ _ h => h) ha hdb he hpl
/-- .. in a try's body, at the slots -/
def tCallT (sp : Sp) (dvs : List V) (E : L2.St → XK) (t : TA) : TE := fun σ H Q => t σ H fun vs H1 => sp (vs ++ dvs) H1 Q (E σ)
end
end Hr
/-! ### errors of the text, defs that raise them -/
namespace Hr
open PySem PySem.Spec PyProof.Rows L2
/-- the class x of errors at C -/
structure Err (K : PySem.W.Frag) (mg : Str → Option Value) (x : Str) (C : Addr) : Prop where
  g : mg x = some (.ref C)
  x : PySem.W.excIn K C [.type "ValueError", .type "Exception", .type "BaseException", .type "object"] "ValueError.__new__" = true
  k : PySem.W.keepIn K (.ref C) = true
  b : PySem.W.subIn K (.ref C) (.type "BaseException") = some true
  t : PySem.W.typeIn K (.ref C) = some (.type "type")
section
variable {P : Program} {w : World} {K : PySem.W.Frag} {mg : Str → Option Value} {base : Heap}
theorem Def.calX {x : Str} {st : Stmt} {N ps : List Str} {k : Nat} {sp : Sp} (D : Def K mg x st ps) (S : FnScope N ps (defScope st)) (len : ∀ vs H Q E, sp vs H Q E → vs.length = ps.length)
    (hbody : ∀ (f : Addr) (cdv : Value) (A : Around) (outer : List Env) (s : Shared) (H : Hp) (vs : List V) (Q : VK) (E : XK), Room k (A.deeper (envOfC x (defScope st) s.heap.objs.size f cdv)) → sp vs H Q E →
      ∃ t, PSs (cxOf (L2.CX P w) P w K mg base N x (defScope st) f cdv A outer s H E) (defBody st) t ∧ t { nx := fun _ H' => Q .non H', rt := Q } (start N vs) H) : Cal K mg (L2.CX P w) P w base (k + 1) x [] sp := by
  obtain ⟨f, fd, F, hm, b⟩ := D.ex
  exact ⟨f, fd, ps, [], F.okX S len (hbody f), hm, F.kp, b, .nil⟩
theorem DefD.okX {x : Str} {st : Stmt} {N ps : List Str} {k : Nat} {sp : Sp} (D : DefD K mg x st ps) (S : FnScope N ps (defScope st)) (len : ∀ vs H Q E, sp vs H Q E → vs.length = ps.length)
    (hbody : ∀ (f : Addr) (cdv : Value) (A : Around) (outer : List Env) (s : Shared) (H : Hp) (vs : List V) (Q : VK) (E : XK), Room k (A.deeper (envOfC x (defScope st) s.heap.objs.size f cdv)) → sp vs H Q E →
      ∃ t, PSs (cxOf (L2.CX P w) P w K mg base N x (defScope st) f cdv A outer s H E) (defBody st) t ∧ t { nx := fun _ H' => Q .non H', rt := Q } (start N vs) H) :
    Cal K mg (L2.CX P w) P w base (k + 1) x [] sp ∧ Cal K mg (L2.CX P w) P w base (k + 1) x [.non] sp := by
  obtain ⟨f, fd, F, hm, b, ds, vd, b2⟩ := D.ex
  have G : FnOk P w K mg base (L2.CX P w) (k + 1) f fd ps sp := F.ok S len (hbody f)
  exact ⟨⟨f, fd, ps, [], G, hm, F.kp, b, .nil⟩, ⟨f, fd, ps, ds, G, hm, F.kp, b2, vd⟩⟩
theorem DefV.okX {x : Str} {st : Stmt} {N ps : List Str} {k : Nat} {sp : Sp} {dv : V} (D : DefV K mg x st ps dv) (S : FnScope N ps (defScope st)) (len : ∀ vs H Q E, sp vs H Q E → vs.length = ps.length)
    (hbody : ∀ (f : Addr) (cdv : Value) (A : Around) (outer : List Env) (s : Shared) (H : Hp) (vs : List V) (Q : VK) (E : XK), Room k (A.deeper (envOfC x (defScope st) s.heap.objs.size f cdv)) → sp vs H Q E →
      ∃ t, PSs (cxOf (L2.CX P w) P w K mg base N x (defScope st) f cdv A outer s H E) (defBody st) t ∧ t { nx := fun _ H' => Q .non H', rt := Q } (start N vs) H) :
    Cal K mg (L2.CX P w) P w base (k + 1) x [] sp ∧ Cal K mg (L2.CX P w) P w base (k + 1) x [dv] sp := by
  obtain ⟨f, fd, F, hm, b, ds, vd, b2⟩ := D.ex
  have G : FnOk P w K mg base (L2.CX P w) (k + 1) f fd ps sp := F.ok S len (hbody f)
  exact ⟨⟨f, fd, ps, [], G, hm, F.kp, b, .nil⟩, ⟨f, fd, ps, ds, G, hm, F.kp, b2, vd⟩⟩
end
end Hr
/-! ### the law's own numbers -/
namespace Hr
open PySem PySem.Spec PyProof.Rows L2
/-- what _law_mixed makes of a cell at its place -/
def mixed (z k : Int) : Int :=
  let m := (z % 2147483629 + 104729 * (k + 1)) * 16807 % 2147483647
  m * m % 2147483629 * 48271 % 2147483647
theorem mixed_nonneg (z k : Int) : 0 ≤ mixed z k := Int.emod_nonneg _ (by decide)
theorem mixed_lt (z k : Int) : mixed z k < 2147483647 := Int.emod_lt_of_pos _ (by decide)
theorem scMixed : FnScope ["_law_cell", "_law_k", "_law_mark"] ["_law_cell", "_law_k"] (defScope sMixed) := ⟨rfl, rfl, rfl, by decide +kernel, rfl, by decide +kernel, by decide +kernel⟩
section
variable {P : Program} {w : World} {K : PySem.W.Frag} {mg : Str → Option Value} {base : Heap}
def spMixed : Sp := fun vs H Q _ => ∃ (z k : Int), vs = [.int z, .int k] ∧ Q (.int (mixed z k)) H
theorem cal_mixed (D : Def K mg "_law_mixed" sMixed ["_law_cell", "_law_k"]) : Cal K mg CX0 P w base 1 "_law_mixed" [] spMixed := by
  refine D.cal scMixed (fun vs H Q E h => ?_) (fun f cdv A outer s H vs Q E hr h => ?_)
  · obtain ⟨z, k, rfl, _⟩ := h
    rfl
  · obtain ⟨z, k, rfl, q⟩ := h
    refine ⟨_, pss_cons (ps_set (i := 2) scMixed.nd rfl (.inl rfl) (pe_op op_mod (pe_op op_mul (pe_op op_add (pe_op op_mod (pv 0) pe_int) (pe_op op_mul pe_int (pe_op op_add (pv 1) pe_int))) pe_int) pe_int))
      (pss_one (ps_ret (pe_op op_mod (pe_op op_mul (pe_op op_mod (pe_op op_mul (pv 2) (pv 2)) pe_int) pe_int) pe_int))), ?_⟩
    refine ⟨.int z, rfl, z, 2147483629, rfl, rfl, (by show (0 : Int) < 2147483629; decide), .int k, rfl, k, 1, rfl, rfl, 104729, k + 1, rfl, rfl, .inl ⟨by decide, by decide⟩, z % 2147483629, 104729 * (k + 1), rfl, rfl, _, 16807, rfl, rfl, .inr ⟨by decide, by decide⟩,
      _, 2147483647, rfl, rfl, (by show (0 : Int) < 2147483647; decide), ?_⟩
    have h0 : 0 ≤ (z % 2147483629 + 104729 * (k + 1)) * 16807 % 2147483647 := Int.emod_nonneg _ (by decide)
    have h1 : (z % 2147483629 + 104729 * (k + 1)) * 16807 % 2147483647 < 2147483647 := Int.emod_lt_of_pos _ (by decide)
    refine ⟨_, rfl, _, rfl, _, _, rfl, rfl, .inl ⟨by omega, by omega⟩, _, 2147483629, rfl, rfl, (by show (0 : Int) < 2147483629; decide), _, 48271, rfl, rfl, .inr ⟨by decide, by decide⟩, _, 2147483647, rfl, rfl, (by show (0 : Int) < 2147483647; decide), ?_⟩
    exact q
end
end Hr
namespace Hr
open PySem PySem.Spec PyProof.Rows L2
/-- a ceiling as a value -/
def cV : Option Nat → V
  | none => .non
  | some k => .int (k : Int)
/-- a ceiling in its bounds -/
def cOk (m : Nat) : Option Nat → Prop
  | none => True
  | some k => k ≤ m
end Hr
/-! ### counts and ranks, with what they refuse -/
namespace Hr
open PySem PySem.Spec PyProof.Rows L2
/-- a whole number from 0 to m -/
def numL : V → Int → Int → Bool
  | .int i, l, m => decide (l ≤ i ∧ i ≤ m)
  | _, _, _ => false
def numB (v : V) (m : Int) : Bool := numL v 0 m
def ceilB : V → Bool
  | .non => true
  | v => numB v 200
theorem numB_of {v : V} {m : Int} (h : numB v m = true) : ∃ n : Nat, v = .int (n : Int) ∧ (n : Int) ≤ m := by
  cases v with
  | int i =>
    have := of_decide_eq_true h
    exact ⟨i.toNat, by rw [Int.toNat_of_nonneg this.1], by omega⟩
  | _ => cases h
theorem numB_nat {n : Nat} {m : Int} (h : (n : Int) ≤ m) : numB (.int (n : Int)) m = true := decide_eq_true ⟨by omega, h⟩
theorem ceilB_of {v : V} (h : ceilB v = true) : ∃ c : Option Nat, v = cV c ∧ cOk 200 c := by
  cases v with
  | non => exact ⟨none, rfl, trivial⟩
  | int i =>
    obtain ⟨n, e, hn⟩ := numB_of (v := .int i) (m := 200) h
    exact ⟨some n, e, by show n ≤ 200; omega⟩
  | _ => cases h
theorem ceilB_cV {c : Option Nat} (h : cOk 200 c) : ceilB (cV c) = true := by
  cases c with
  | none => rfl
  | some k =>
    have h : k ≤ 200 := h
    exact numB_nat (by omega)
theorem flat_cV (c : Option Nat) : flatV (cV c) = true := by cases c <;> rfl
theorem scIsNum : FnScope ["value", "most", "least"] ["value", "most", "least"] (defScope sIsNum) := ⟨rfl, rfl, rfl, by decide +kernel, rfl, by decide +kernel, by decide +kernel⟩
theorem scChNum : FnScope ["value", "most", "least"] ["value", "most", "least"] (defScope sChNum) := ⟨rfl, rfl, rfl, by decide +kernel, rfl, by decide +kernel, by decide +kernel⟩
section
variable {P : Program} {w : World} {K : PySem.W.Frag} {mg : Str → Option Value} {base : Heap} {CC CN CR CP : Addr}
def spIsNumV : Sp := fun vs H Q _ => ∃ (v : V) (m : Int), vs = [v, .int m, .int 0] ∧ flatV v = true ∧ Q (.bl (numB v m)) H
def spIsNumL : Sp := fun vs H Q _ => ∃ (v : V) (m l : Int), vs = [v, .int m, .int l] ∧ flatV v = true ∧ Q (.bl (numL v l m)) H
theorem cal_isNumL (D : DefV K mg "is_number" sIsNum ["value", "most", "least"] (.int 0)) (misi : mg "isinstance" = none) (mint : mg "int" = none) (mbool : mg "bool" = none) : Cal K mg CX0 P w base 1 "is_number" [] spIsNumL ∧ Cal K mg CX0 P w base 1 "is_number" [.int 0] spIsNumL := by
  refine D.ok scIsNum (fun vs H Q E h => ?_) (fun f cdv A outer s H vs Q E hr h => ?_)
  · obtain ⟨i, m, l, rfl, _⟩ := h
    rfl
  · obtain ⟨v, m, l, rfl, hv, q⟩ := h
    refine ⟨_, pss_one (ps_ret (pe_and (pe_callB call_isi (by rfl) misi (by decide +kernel) (pa_cons (pv 0) (pa_cons (pe_bltn (v := .ty "int") (u := .type "int") (by rfl) mint (by decide +kernel) rfl) pa_nil)))
      (pe_and (pe_not (pe_callB call_isi (by rfl) misi (by decide +kernel) (pa_cons (pv 0) (pa_cons (pe_bltn (v := .ty "bool") (u := .type "bool") (by rfl) mbool (by decide +kernel) rfl) pa_nil))))
      (pe_one (pe_chain op_le op_le (pv 2) (pv 0) (pv 1)))))), ?_⟩
    cases v with
    | int i =>
      refine ⟨.int i, rfl, .int i, .ty "int", _, _, true, rfl, .ty "int", .base (.int i), kit_ty (by decide +kernel), true, rfl, iteT ?_⟩
      refine ⟨.int i, rfl, .int i, .ty "bool", _, _, false, rfl, .ty "bool", .base (.int i), kit_ty (by decide +kernel), false, rfl, true, rfl, iteT ?_⟩
      refine ⟨.int l, rfl, .int i, rfl, l, i, rfl, rfl, decide (l ≤ i), rfl, ite2 (fun e => ?_) (fun e => ?_)⟩
      · refine ⟨.int m, rfl, i, m, rfl, rfl, ?_⟩
        have e0 : l ≤ i := of_decide_eq_true e
        show Q (.bl (decide (i ≤ m))) H
        rw [show decide (i ≤ m) = decide (l ≤ i ∧ i ≤ m) from decide_eq_decide.mpr ⟨fun z => ⟨e0, z⟩, fun z => z.2⟩]
        exact q
      · have e0 : ¬ l ≤ i := fun z => e (decide_eq_true z)
        have en : numL (.int i) l m = false := decide_eq_false (fun z => e0 z.1)
        rw [en] at q
        exact q
    | bl b =>
      refine ⟨.bl b, rfl, .bl b, .ty "int", _, _, true, rfl, .ty "int", .base (.bl b), kit_ty (by decide +kernel), true, rfl, iteT ?_⟩
      refine ⟨.bl b, rfl, .bl b, .ty "bool", _, _, true, rfl, .ty "bool", .base (.bl b), kit_ty (by decide +kernel), true, rfl, false, rfl, iteF ?_⟩
      exact q
    | non =>
      refine ⟨.non, rfl, .non, .ty "int", _, _, false, rfl, .ty "int", .base .non, kit_ty (by decide +kernel), false, rfl, iteF ?_⟩
      exact q
    | str z =>
      refine ⟨.str z, rfl, .str z, .ty "int", _, _, false, rfl, .ty "int", .base (.str z), kit_ty (by decide +kernel), false, rfl, iteF ?_⟩
      exact q
    | byt _ => cases hv
    | flt _ => cases hv
    | ref _ => cases hv
    | ty _ => cases hv
theorem cal_isNumV (D : DefV K mg "is_number" sIsNum ["value", "most", "least"] (.int 0)) (misi : mg "isinstance" = none) (mint : mg "int" = none) (mbool : mg "bool" = none) : Cal K mg CX0 P w base 1 "is_number" [] spIsNumL ∧ Cal K mg CX0 P w base 1 "is_number" [.int 0] spIsNumV := by
  obtain ⟨C1, C2⟩ := cal_isNumL (P := P) (w := w) (base := base) D misi mint mbool
  exact ⟨C1, C2.imp fun vs H Q E ⟨v, m, e, hv, q⟩ => ⟨v, m, 0, e, hv, q⟩⟩
def spChNumX (CC : Addr) : Sp := fun vs H Q E => ∃ (v : V) (m : Int), vs = [v, .int m, .int 0] ∧ flatV v = true ∧ (m = 200 ∨ m = 400) ∧ (numB v m = true → Q .non H) ∧ (numB v m = false → E (.ref CC) none H)
def spChNumL (CC : Addr) : Sp := fun vs H Q E => ∃ (v : V) (m l : Int), vs = [v, .int m, .int l] ∧ flatV v = true ∧ (0 ≤ m ∧ m ≤ 400) ∧ (0 ≤ l ∧ l ≤ 400) ∧ (numL v l m = true → Q .non H) ∧ (numL v l m = false → E (.ref CC) none H)
theorem num_fits : ∀ k : Fin 401, (Str.ofString (toString ((k.val : Nat) : Int))).length ≤ 1000 ∧ ((k.val : Nat) : Int).natAbs.log2 < 1920 := by decide +kernel
theorem num_fit {m : Int} (h : 0 ≤ m ∧ m ≤ 400) : (Str.ofString (toString m)).length ≤ 1000 ∧ m.natAbs.log2 < 1920 := by
  have := num_fits ⟨m.toNat, by omega⟩
  have e : ((m.toNat : Nat) : Int) = m := Int.toNat_of_nonneg h.1
  dsimp only at this
  rw [e] at this
  exact this
theorem cal_chNumL (er : Err K mg "NoCount" CC) (D : DefV K mg "check_number" sChNum ["value", "most", "least"] (.int 0)) (C : Cal K mg CX0 P w base 1 "is_number" [] spIsNumL) : Cal K mg (L2.CX P w) P w base 2 "check_number" [] (spChNumL CC) ∧ Cal K mg (L2.CX P w) P w base 2 "check_number" [.int 0] (spChNumL CC) := by
  refine D.okX scChNum (fun vs H Q E h => ?_) (fun f cdv A outer s H vs Q E hr h => ?_)
  · obtain ⟨i, m, l, rfl, _⟩ := h
    rfl
  · obtain ⟨v, m, l, rfl, hv, hm, hl, q, qe⟩ := h
    refine ⟨_, pss_one (ps_if (pt_not (pt_val (pe_c C hr (pa_cons (pv 0) (pa_cons (pv 1) (pa_cons (pv 2) pa_nil)))))) (pss_one (ps_raise rfl (takes_of rfl rfl rfl rfl) (SkE.pmk_own1 PySem.F.excBase_ValueError er.x er.g er.k (raises_own er.b er.t) rfl (pe_joined (.cons pe_str (.cons (pe_fmt (pv 2)) (.cons pe_str (.cons (pe_fmt (pv 1)) .nil)))))))) pss_nil), ?_⟩
    refine ⟨v, rfl, .int m, rfl, .int l, rfl, v, m, l, rfl, hv, numL v l m, rfl, ?_⟩
    cases hn : numL v l m with
    | true =>
      refine iteF ?_
      exact q hn
    | false =>
      refine iteT ?_
      have f1 := num_fit hm
      have f2 := num_fit hl
      have h1 : (Str.empty ++ ("no whole number from " : Str)).length ≤ 100 := by decide +kernel
      have h2 : ((" to " : Str)).length ≤ 100 := by decide +kernel
      refine ⟨_, rfl, by decide +kernel, _, rfl, .inr ⟨l, rfl, f2.2, _, rfl, ?_, _, rfl, ?_, _, rfl, .inr ⟨m, rfl, f1.2, _, rfl, ?_, qe hn⟩⟩⟩
      · rw [PySem.Str.length_append]
        refine sz ?_
        have := f2.1
        omega
      · rw [PySem.Str.length_append, PySem.Str.length_append]
        refine sz ?_
        have := f2.1
        omega
      · rw [PySem.Str.length_append, PySem.Str.length_append, PySem.Str.length_append]
        refine sz ?_
        have := f2.1
        have := f1.1
        omega
theorem cal_chNumX (er : Err K mg "NoCount" CC) (D : DefV K mg "check_number" sChNum ["value", "most", "least"] (.int 0)) (C : Cal K mg CX0 P w base 1 "is_number" [] spIsNumL) : Cal K mg (L2.CX P w) P w base 2 "check_number" [] (spChNumL CC) ∧ Cal K mg (L2.CX P w) P w base 2 "check_number" [.int 0] (spChNumX CC) := by
  obtain ⟨C1, C2⟩ := cal_chNumL (P := P) (w := w) (base := base) er D C
  refine ⟨C1, C2.imp fun vs H Q E ⟨v, m, e, hv, hm, q, qe⟩ => ⟨v, m, 0, e, hv, ?_, by omega, q, qe⟩⟩
  omega
end
end Hr
/-! ### the table of ways -/
namespace Hr
open PySem PySem.Spec PyProof.Rows L2
theorem scLow : FnScope ["height", "ceiling"] ["height", "ceiling"] (defScope sLow) := ⟨rfl, rfl, rfl, by decide +kernel, rfl, by decide +kernel, by decide +kernel⟩
theorem scChCei : FnScope ["ceiling"] ["ceiling"] (defScope sChCei) := ⟨rfl, rfl, rfl, by decide +kernel, rfl, by decide +kernel, by decide +kernel⟩
theorem scStep : FnScope ["found", "padded", "height"] ["found"] (defScope sStep) := ⟨rfl, rfl, rfl, by decide +kernel, rfl, by decide +kernel, by decide +kernel⟩
theorem scTable : FnScope ["left", "top", "table", "_"] ["left", "top"] (defScope sTable) := ⟨rfl, rfl, rfl, by decide +kernel, rfl, by decide +kernel, by decide +kernel⟩
theorem scHill : FnScope ["n", "ceiling"] ["n", "ceiling"] (defScope sHill) := ⟨rfl, rfl, rfl, by decide +kernel, rfl, by decide +kernel, by decide +kernel⟩
theorem scCounted : FnScope ["n", "ceiling"] ["n", "ceiling"] (defScope sCounted) := ⟨rfl, rfl, rfl, by decide +kernel, rfl, by decide +kernel, by decide +kernel⟩
section
variable {P : Program} {w : World} {K : PySem.W.Frag} {mg : Str → Option Value} {base : Heap}
def spLow : Sp := fun vs H Q _ => ∃ (h : Nat) (c : Option Nat), vs = [.int (h : Int), cV c] ∧ Q (.int ((low h c : Nat) : Int)) H
theorem cal_low (D : Def K mg "lower_of" sLow ["height", "ceiling"]) (mmin : mg "min" = none) : Cal K mg CX0 P w base 1 "lower_of" [] spLow := by
  refine D.cal scLow (fun vs H Q E h => ?_) (fun f cdv A outer s H vs Q E hr h => ?_)
  · obtain ⟨h, c, rfl, _⟩ := h
    rfl
  · obtain ⟨h, c, rfl, q⟩ := h
    refine ⟨_, pss_one (ps_ret (pe_ifExp (pt_cmp (pc_isN (pv 1))) (pv 0) (pe_callB (call_min2 rfl) (by rfl) mmin boot_min (pa_cons (pv 0) (pa_cons (pv 1) pa_nil))))), ?_⟩
    cases c with
    | none => exact ⟨.non, rfl, true, rfl, iteT ⟨_, rfl, q⟩⟩
    | some k =>
      refine ⟨.int (k : Int), rfl, false, rfl, iteF ⟨_, rfl, _, rfl, _, _, rfl, ?_⟩⟩
      have e : (if (k : Int) < (h : Int) then (k : Int) else (h : Int)) = ((low h (some k) : Nat) : Int) := by
        show _ = ((min h k : Nat) : Int)
        split <;> omega
      rw [e]
      exact q
/-- one sign more -/
def spStep : Sp := fun vs H Q _ => ∃ (a : Addr) (T k : Nat), vs = [.ref a] ∧ H a = some (.lst ((rowW T k).map V.int)) ∧ T ≤ 1000 ∧
  ∀ H' p, Same H H' → H p = none → H' p = some (.lst ((rowW T (k + 1)).map V.int)) → Q (.ref p) H'
theorem cal_step (D : Def K mg "with_one_more_sign" sStep ["found"]) (mlen : mg "len" = none) (mrange : mg "range" = none) : Cal K mg CX0 P w base 1 "with_one_more_sign" [] spStep := by
  refine D.cal scStep (fun vs H Q E h => ?_) (fun f cdv A outer s H vs Q E hr h => ?_)
  · obtain ⟨a, T, k, rfl, _⟩ := h
    rfl
  · obtain ⟨a, T, k, rfl, ha, hT, q⟩ := h
    refine ⟨_, pss_cons (ps_set (i := 1) scStep.nd rfl (.inr rfl) (pe_op op_cat (pe_op op_cat (pe_lst (pa_cons pe_int pa_nil)) (pv 0)) (pe_lst (pa_cons pe_int pa_nil))))
      (pss_one (ps_ret (pe_lc (own := [("height", 2)]) (g := gName 2) (tt := tYes) rfl scStep.nd (pi_range1 (by rfl) mrange (pa_cons (pe_callB call_len_seq (by rfl) mlen PySem.boot_len (pa_cons (pv 0) pa_nil)) pa_nil))
        (blkOk_by (N := ["found", "padded", "height"]) (sc := defScope sStep) (by decide +kernel)) (fun _ _ _ _ _ => pg_name (i := 2) scStep.nd rfl (Or.inl rfl)) (fun _ _ _ _ _ => pts_nil)
        (fun _ _ _ _ _ => pe_op op_add (pe_ix (r := rIxL K) ix_list (pv 1) (pv 2) (fun _ _ => rfl)) (pe_ix (r := rIxL K) ix_list (pv 1) (pe_op op_add (pv 2) pe_int) (fun _ _ => rfl)))))), ?_⟩
    have hl : ((rowW T k).map V.int).length = T + 1 := by rw [List.length_map, rowW_len]
    refine ⟨sz (by decide), fun p1 n1 => ?_⟩
    have s1 := same_upd (o := .lst [.int 0]) n1
    refine ⟨.ref a, rfl, p1, a, _, _, rfl, rfl, upd_same, s1 _ _ ha, sz (by rw [hl]; show 1 + (T + 1) ≤ _; omega), fun p2 n2 => ?_⟩
    have s2 := s1.trans (same_upd (o := .lst ([.int 0] ++ (rowW T k).map V.int)) n2)
    refine ⟨sz (by decide), fun p3 n3 => ?_⟩
    have n23 : p2 ≠ p3 := ne_of_none upd_same n3
    have s3 := s2.trans (same_upd (o := .lst [.int 0]) n3)
    refine ⟨p2, p3, _, _, rfl, rfl, by rw [upd_ne n23]; exact upd_same, upd_same, sz (by rw [List.length_append, hl]; show 1 + (T + 1) + 1 ≤ _; omega), fun p4 n4 => ?_⟩
    have s4 := s3.trans (same_upd (o := .lst ([.int 0] ++ (rowW T k).map V.int ++ [.int 0])) n4)
    have ep : ([V.int 0] ++ (rowW T k).map V.int ++ [V.int 0]) = (padW (rowW T k)).map V.int := by
      unfold padW
      rw [List.map_cons, List.map_append]
      rfl
    -- the comprehension
    refine ⟨.ref a, rfl, a, _, rfl, .inl (.inl (.inl (s4 _ _ ha))), ((T + 1 : Nat) : Int), by rw [hl], by omega, by omega, fun D nD => ?_⟩
    have hp4 := s4
    have np4 : p4 ≠ D := ne_of_none (upd_same : (upd _ p4 (.lst ([.int 0] ++ (rowW T k).map V.int ++ [.int 0]))) p4 = some _) nD
    refine lc_range (lo := 0) (n := T + 1) (fun i H' => Same H H' ∧ H' p4 = some (.lst ((padW (rowW T k)).map V.int)) ∧ H' D = some (.lst (((rowW T (k + 1)).take i).map V.int))) ?_ ?_ ?_
    · refine ⟨same_updN s4 (s4.free nD), ?_, upd_same⟩
      rw [upd_ne np4, upd_same, ep]
    · intro i H' hi ⟨sm, e4, eD⟩
      obtain ⟨x, y, e1, e2, e3⟩ := row_step (T := T) (k := k) (h := i) (by omega)
      have g1 : ((padW (rowW T k)).map V.int)[i]? = some (.int x) := by rw [List.getElem?_map, e1]; rfl
      have g2 : ((padW (rowW T k)).map V.int)[i + 2]? = some (.int y) := by rw [List.getElem?_map, e2]; rfl
      refine ⟨rfl, ?_⟩
      unfold tYes
      refine iteT ?_
      refine ⟨.ref p4, rfl, .int (0 + (i : Int)), rfl, p4, _, _, .int x, rfl, rfl, .inl (.inl e4), at_of (by omega) g1, ?_⟩
      refine ⟨.ref p4, rfl, .int (0 + (i : Int)), rfl, _, _, rfl, rfl, p4, _, _, .int y, rfl, rfl, .inl (.inl e4), at_of (j := i + 2) (by omega) g2, ?_⟩
      refine ⟨x, y, rfl, rfl, _, eD, szl ?_, same_updN sm (s4.free nD), ?_, ?_⟩
      · rw [List.length_map, List.length_take]
        omega
      · rw [upd_ne np4]
        exact e4
      · rw [upd_same, List.take_add_one, e3, List.map_append]
        rfl
    · intro H' ⟨sm, e4, eD⟩
      rw [List.take_of_length_le (by rw [rowW_len]; omega)] at eD
      exact q H' D sm (s4.free nD) eD
end
end Hr
namespace Hr
open PySem PySem.Spec PyProof.Rows L2
/-- the table of ways at p: for each number of signs to n a list by heights to T -/
def Tbl (H : Hp) (p : Addr) (n T : Nat) : Prop := ∃ q : Nat → Addr, H p = some (.lst ((List.range (n + 1)).map fun k => V.ref (q k))) ∧ ∀ k, k ≤ n → H (q k) = some (.lst ((rowW T k).map V.int))
theorem Tbl.same {H H' : Hp} {p : Addr} {n T : Nat} (s : Same H H') (t : Tbl H p n T) : Tbl H' p n T := by
  obtain ⟨q, h1, h2⟩ := t
  exact ⟨q, s _ _ h1, fun k hk => s _ _ (h2 k hk)⟩
theorem range_get {n k : Nat} (q : Nat → Addr) (h : k ≤ n) : ((List.range (n + 1)).map fun k => V.ref (q k))[k]? = some (V.ref (q k)) := by
  rw [List.getElem?_map, List.getElem?_range (by omega)]
  rfl
theorem row0_lst (T : Nat) : [V.int 1] ++ (List.replicate T [V.int 0]).flatten = (rowW T 0).map V.int := by
  rw [rowW_zero, List.map_cons, List.map_replicate]
  have e : ∀ n : Nat, (List.replicate n [V.int 0]).flatten = List.replicate n (V.int 0) := by
    intro n
    induction n with
    | zero => rfl
    | succ n ih => rw [List.replicate_succ, List.replicate_succ, List.flatten_cons, ih]; rfl
  rw [e]
  rfl
section
variable {P : Program} {w : World} {K : PySem.W.Frag} {mg : Str → Option Value} {base : Heap}
def spTable : Sp := fun vs H Q _ => ∃ (n T : Nat), vs = [.int (n : Int), .int (T : Int)] ∧ n ≤ 1000 ∧ T ≤ 1000 ∧ ∀ H' p, Same H H' → H p = none → Tbl H' p n T → Q (.ref p) H'
theorem cal_table (D : Def K mg "ways_table" sTable ["left", "top"]) (C : Cal K mg CX0 P w base 1 "with_one_more_sign" [] spStep) (mrange : mg "range" = none) : Cal K mg CX0 P w base 2 "ways_table" [] spTable := by
  refine D.cal scTable (fun vs H Q E h => ?_) (fun f cdv A outer s H vs Q E hr h => ?_)
  · obtain ⟨n, T, rfl, _⟩ := h
    rfl
  · obtain ⟨n, T, rfl, hn, hT, q⟩ := h
    refine ⟨_, pss_cons (ps_set (i := 2) scTable.nd rfl (.inl rfl) (pe_lst (pa_cons (pe_op op_cat (pe_lst (pa_cons pe_int pa_nil)) (pe_op op_rep (pe_lst (pa_cons pe_int pa_nil)) (pv 1))) pa_nil)))
      (pss_cons (ps_for PassesOwn.never rfl (pi_range1 (by rfl) mrange (pa_cons (pv 0) pa_nil)) (pg_name (i := 3) scTable.nd rfl (.inl rfl))
        (pss_one (ps_expr (pe_bm PySem.F.plainAttrs_list PySem.F.slot_list_append PySem.F.type_list_append mt_append (pv 2) (pa_cons (pe_c C hr (pa_cons (pe_ix ix_list (pv 2) (pe_un un_neg pe_int) (fun _ _ => rfl)) pa_nil)) pa_nil)))))
      (pss_one (ps_ret (pv 2)))), ?_⟩
    refine ⟨sz (by decide), fun p1 n1 => ⟨sz (by decide), fun p2 n2 => ?_⟩⟩
    have s1 := same_upd (o := .lst [.int 1]) n1
    have s2 := s1.trans (same_upd (o := .lst [.int 0]) n2)
    refine ⟨.int (T : Int), rfl, p2, (T : Int), _, rfl, rfl, upd_same, by omega, by omega, sz (by show 1 * T ≤ _; omega), fun p3 n3 => ?_⟩
    have s3 := s2.trans (same_upd (o := .lst (List.replicate (T : Int).toNat [V.int 0]).flatten) n3)
    have n13 : p1 ≠ p3 := ne_of_none (by rw [upd_ne (ne_of_none upd_same n2)]; exact upd_same) n3
    have n12 : p1 ≠ p2 := ne_of_none upd_same n2
    have lz : (List.replicate (T : Int).toNat [V.int 0]).flatten.length = T := by
      have := congrArg List.length (row0_lst T)
      rw [List.length_append, List.length_map, rowW_len] at this
      have e : ([V.int 1] : List V).length = 1 := rfl
      rw [Int.toNat_natCast]
      omega
    refine ⟨p1, p3, _, _, rfl, rfl, by rw [upd_ne n13, upd_ne n12]; exact upd_same, upd_same, sz (by rw [lz]; show 1 + T ≤ _; omega), fun p4 n4 => ?_⟩
    rw [Int.toNat_natCast, row0_lst]
    rw [Int.toNat_natCast] at n4 s3
    have s4 := s3.trans (same_upd (o := .lst ((rowW T 0).map V.int)) n4)
    refine ⟨sz (show 1 ≤ 1000000 by decide), fun o no => ?_⟩
    have n4o : p4 ≠ o := ne_of_none upd_same no
    have s5 := same_updN (o := .lst [V.ref p4]) s4 (s4.free no)
    refine ⟨.int (n : Int), rfl, (n : Int), rfl, by omega, by omega, ?_⟩
    refine for_range (lo := 0) (n := n) (fun i σ H' => ∃ (y : Option V) (q : Nat → Addr), σ = [some (.int (n : Int)), some (.int (T : Int)), some (.ref o), y] ∧ Same H H' ∧
      H' o = some (.lst ((List.range (i + 1)).map fun k => V.ref (q k))) ∧ ∀ k, k ≤ i → H' (q k) = some (.lst ((rowW T k).map V.int)) ∧ q k ≠ o) ?_ ?_ ?_
    · refine ⟨none, fun _ => p4, rfl, s5, upd_same, fun k hk => ?_⟩
      have : k = 0 := by omega
      subst this
      refine ⟨?_, n4o⟩
      rw [upd_ne n4o]
      exact upd_same
    · rintro i σ H1 hi ⟨y, qa, rfl, sm, eo, er⟩
      have eL : ((List.range (i + 1)).map fun k => V.ref (qa k)) = ((List.range i).map fun k => V.ref (qa k)) ++ [V.ref (qa i)] := by
        rw [List.range_succ, List.map_append]
        rfl
      refine ⟨.ref o, rfl, .inl ⟨rfl, _, .inl (.inl eo)⟩, .ref o, rfl, 1, rfl, o, _, -1, .ref (qa i), rfl, rfl, .inl (.inl eo), by rw [eL]; exact atI_last _ _, ?_⟩
      refine ⟨qa i, T, i, rfl, (er i (Nat.le_refl _)).1, hT, fun H2 p sm2 np ep => ?_⟩
      have eo2 : H2 o = some (.lst ((List.range (i + 1)).map fun k => V.ref (qa k))) := sm2 _ _ eo
      have npo : p ≠ o := fun z => by
        rw [z, eo] at np
        cases np
      refine ⟨o, _, .ref p, rfl, rfl, eo2, szl (by rw [List.length_map, List.length_range]; omega), ?_⟩
      refine ⟨_, fun k => if k = i + 1 then p else qa k, rfl, same_updN (sm.trans sm2) (s4.free no), ?_, fun k hk => ?_⟩
      · rw [upd_same, List.range_succ (n := i + 1), List.map_append]
        congr 2
        congr 1
        · refine List.map_congr_left fun k hk => ?_
          have := List.mem_range.mp hk
          dsimp only
          rw [if_neg (by omega)]
        · show [V.ref p] = [V.ref (if i + 1 = i + 1 then p else qa (i + 1))]
          rw [if_pos rfl]
      · dsimp only
        by_cases e : k = i + 1
        · rw [if_pos e]
          refine ⟨?_, npo⟩
          rw [upd_ne npo, e]
          exact ep
        · rw [if_neg e]
          obtain ⟨h1, h2⟩ := er k (by omega)
          refine ⟨?_, h2⟩
          rw [upd_ne h2]
          exact sm2 _ _ h1
    · rintro σ H1 ⟨y, qa, rfl, sm, eo, er⟩
      exact ⟨.ref o, rfl, q H1 o sm (s4.free no) ⟨qa, eo, fun k hk => (er k hk).1⟩⟩
def spHill : Sp := fun vs H Q _ => ∃ (n : Nat) (c : Option Nat), vs = [.int (n : Int), cV c] ∧ n ≤ 400 ∧ ∀ H' p, Same H H' → H p = none → Tbl H' p (2 * n) (low n c) → Q (.ref p) H'
theorem low_le (n : Nat) (c : Option Nat) : low n c ≤ n := by
  cases c with
  | none => exact Nat.le_refl _
  | some k => exact Nat.min_le_left _ _
theorem cal_hill (D : Def K mg "hill_table" sHill ["n", "ceiling"]) (C : Cal K mg CX0 P w base 2 "ways_table" [] spTable) (C2 : Cal K mg CX0 P w base 1 "lower_of" [] spLow) : Cal K mg CX0 P w base 3 "hill_table" [] spHill := by
  refine D.cal scHill (fun vs H Q E h => ?_) (fun f cdv A outer s H vs Q E hr h => ?_)
  · obtain ⟨n, c, rfl, _⟩ := h
    rfl
  · obtain ⟨n, c, rfl, hn, q⟩ := h
    refine ⟨_, pss_one (ps_ret (pe_c C hr (pa_cons (pe_op op_mul pe_int (pv 0)) (pa_cons (pe_c C2 hr (pa_cons (pv 0) (pa_cons (pv 1) pa_nil))) pa_nil)))), ?_⟩
    have hl := low_le n c
    refine ⟨.int (n : Int), rfl, 2, _, rfl, rfl, .inl ⟨by decide, by decide⟩, .int (n : Int), rfl, cV c, rfl, n, c, rfl, 2 * n, low n c, ?_, by omega, by omega, q⟩
    rw [Int.natCast_mul]
    rfl
/-- as many as the hill rows of n under the ceiling -/
def spCounted : Sp := fun vs H Q _ => ∃ (n : Nat) (c : Option Nat), vs = [.int (n : Int), cV c] ∧ n ≤ 200 ∧ cOk 200 c ∧ ∀ H', Same H H' → Q (.int ((W (low n c) (2 * n) 0 : Nat) : Int)) H'
end
end Hr
namespace Hr
open PySem PySem.Spec PyProof.Rows L2
section
variable {P : Program} {w : World} {K : PySem.W.Frag} {mg : Str → Option Value} {base : Heap} {CC CN CR CP : Addr}
def spChCeiX (CC : Addr) : Sp := fun vs H Q E => ∃ (v : V), vs = [v] ∧ flatV v = true ∧ (ceilB v = true → Q .non H) ∧ (ceilB v = false → E (.ref CC) none H)
theorem cal_chCeiX (D : Def K mg "check_ceiling" sChCei ["ceiling"]) (C : Cal K mg (L2.CX P w) P w base 2 "check_number" [.int 0] (spChNumX CC)) {tk : Tok} (gM : mg "MOST_HEIGHT" = some (.int 200 tk)) : Cal K mg (L2.CX P w) P w base 3 "check_ceiling" [] (spChCeiX CC) := by
  refine D.calX scChCei (fun vs H Q E h => ?_) (fun f cdv A outer s H vs Q E hr h => ?_)
  · obtain ⟨c, rfl, _⟩ := h
    rfl
  · obtain ⟨v, rfl, hv, q, qe⟩ := h
    refine ⟨_, pss_one (ps_if (pt_cmp (pc_notN (pv 0))) (pss_one (ps_expr (pe_cX C hr (takes_of rfl rfl rfl rfl) (pa_cons (pv 0) (pa_cons (pe_glob (v := .int 200) (by rfl) gM ⟨_, rfl⟩) pa_nil))))) pss_nil), ?_⟩
    cases v with
    | non => exact ⟨.non, rfl, false, rfl, iteF (q rfl)⟩
    | int i => exact ⟨_, rfl, true, rfl, iteT ⟨_, rfl, _, 200, rfl, hv, .inl rfl, q, qe⟩⟩
    | bl b => exact ⟨_, rfl, true, rfl, iteT ⟨_, rfl, _, 200, rfl, hv, .inl rfl, q, qe⟩⟩
    | str z => exact ⟨_, rfl, true, rfl, iteT ⟨_, rfl, _, 200, rfl, hv, .inl rfl, q, qe⟩⟩
    | byt _ => cases hv
    | flt _ => cases hv
    | ref _ => cases hv
    | ty _ => cases hv
end
end Hr
namespace Hr
open PySem PySem.Spec PyProof.Rows L2
section
variable {P : Program} {w : World} {K : PySem.W.Frag} {mg : Str → Option Value} {base : Heap} {CC CN CR CP : Addr}
def spCountedX (CC : Addr) : Sp := fun vs H Q E => ∃ (v cv : V), vs = [v, cv] ∧ flatV v = true ∧ flatV cv = true ∧ (numB v 200 = true → ceilB cv = true → spCounted [v, cv] H Q E0) ∧ (numB v 200 = false ∨ ceilB cv = false → E (.ref CC) none H)
theorem cal_countedX (D : DefD K mg "counted" sCounted ["n", "ceiling"]) (C : Cal K mg CX0 P w base 3 "hill_table" [] spHill) (C2 : Cal K mg (L2.CX P w) P w base 2 "check_number" [.int 0] (spChNumX CC)) (C3 : Cal K mg (L2.CX P w) P w base 3 "check_ceiling" [] (spChCeiX CC))
    {tk : Tok} (gM : mg "MOST_UPS" = some (.int 200 tk)) : Cal K mg (L2.CX P w) P w base 4 "counted" [] (spCountedX CC) ∧ Cal K mg (L2.CX P w) P w base 4 "counted" [.non] (spCountedX CC) := by
  refine D.okX scCounted (fun vs H Q E h => ?_) (fun f cdv A outer s H vs Q E hr h => ?_)
  · obtain ⟨v, cv, rfl, _⟩ := h
    rfl
  · obtain ⟨v, cv, rfl, hv, hcv, q, qe⟩ := h
    refine ⟨_, pss_cons (ps_expr (pe_cX C2 hr (takes_of rfl rfl rfl rfl) (pa_cons (pv 0) (pa_cons (pe_glob (v := .int 200) (by rfl) gM ⟨_, rfl⟩) pa_nil))))
      (pss_cons (ps_expr (pe_cX C3 hr (takes_of rfl rfl rfl rfl) (pa_cons (pv 1) pa_nil)))
      (pss_one (ps_ret (pe_ix ix_list (pe_ix ix_list (pe_c C hr (pa_cons (pv 0) (pa_cons (pv 1) pa_nil))) (pe_op op_mul pe_int (pv 0)) (fun _ _ => rfl)) pe_int (fun _ _ => rfl))))), ?_⟩
    refine ⟨v, rfl, v, 200, rfl, hv, .inl rfl, fun hn => ?_, fun hn => qe (.inl hn)⟩
    refine ⟨cv, rfl, cv, rfl, hcv, fun hk => ?_, fun hk => qe (.inr hk)⟩
    obtain ⟨n, c, e, hn, hc, q2⟩ := q hn hk
    obtain ⟨rfl, rfl⟩ : v = .int (n : Int) ∧ cv = cV c := by simpa using e
    refine ⟨.int (n : Int), rfl, cV c, rfl, n, c, rfl, by omega, fun H' p sm np ⟨qa, e1, e2⟩ => ?_⟩
    have e3 := e2 (2 * n) (Nat.le_refl _)
    refine ⟨.int (n : Int), rfl, 2, _, rfl, rfl, .inl ⟨by decide, by decide⟩, p, _, _, .ref (qa (2 * n)), rfl, rfl, .inl (.inl e1), at_of (j := 2 * n) (by rw [Int.natCast_mul]; rfl) (range_get qa (Nat.le_refl _)), ?_⟩
    refine ⟨qa (2 * n), _, 0, .int ((W (low n c) (2 * n) 0 : Nat) : Int), rfl, rfl, .inl (.inl e3), at_of (j := 0) rfl ?_, q2 H' sm⟩
    rw [List.getElem?_map, rowW_get (Nat.zero_le _)]
    rfl
end
end Hr
/-! ### rows as texts -/
namespace Hr
open PySem PySem.Spec PyProof.Rows L2
def code (b : Bool) : Nat := if b = true then 117 else 100
def txt (l : List Bool) : Str := ⟨(l.map code).toArray⟩
def sgn (b : Bool) : Str := ⟨#[code b]⟩
theorem txt_len (l : List Bool) : (txt l).length = l.length := by
  show ((l.map code).toArray).size = _
  rw [List.size_toArray, List.length_map]
theorem txt_size (l : List Bool) : (txt l).cps.size = l.length := txt_len l
theorem txt_at (l : List Bool) (i : Nat) : (txt l).cps[i]? = (l[i]?).map code := by
  show ((l.map code).toArray)[i]? = _
  rw [List.getElem?_toArray, List.getElem?_map]
theorem code_inj {a b : Bool} (h : code a = code b) : a = b := by
  cases a <;> cases b <;> first | rfl | (exact absurd h (by decide))
theorem map_code_inj : ∀ {a b : List Bool}, a.map code = b.map code → a = b
  | [], [], _ => rfl
  | [], _ :: _, e => by cases e
  | _ :: _, [], e => by cases e
  | x :: a, y :: b, e => by
    rw [List.map_cons, List.map_cons] at e
    injection e with e1 e2
    rw [code_inj e1, map_code_inj e2]
theorem txt_inj {a b : List Bool} (h : txt a = txt b) : a = b := by
  have := congrArg (fun z : Str => z.cps.toList) h
  exact map_code_inj (by simpa [txt] using this)
theorem txt_append (a b : List Bool) : txt a ++ txt b = txt (a ++ b) := by
  have := SX.S_cat (a.map code) (b.map code)
  rw [← List.map_append] at this
  exact this
theorem eU : ("u" : Str) = ⟨#[117]⟩ := by decide +kernel
theorem eD : ("d" : Str) = ⟨#[100]⟩ := by decide +kernel
theorem eE : ("" : Str) = ⟨#[]⟩ := by decide +kernel
theorem sgn_u : sgn true = ("u" : Str) := eU.symm
theorem sgn_d : sgn false = ("d" : Str) := eD.symm
theorem one_inj {a b : Nat} : ((⟨#[a]⟩ : Str) = ⟨#[b]⟩) ↔ a = b := by
  constructor
  · intro h
    have := congrArg (fun z : Str => z.cps.toList) h
    simpa using this
  · intro h
    rw [h]
theorem is_u (c : Nat) : decide (V.str ⟨#[c]⟩ = V.str ("u" : Str)) = decide (c = 117) := by
  refine decide_eq_decide.mpr ?_
  rw [eU]
  exact ⟨fun z => one_inj.mp (V.str.inj z), fun z => by rw [z]⟩
theorem code_u (b : Bool) : decide (code b = 117) = b := by cases b <;> rfl
/-- a text of ups and downs alone -/
def isS (c : Nat) : Bool := decide (c = 117) || decide (c = 100)
def isRowB (z : Str) : Bool := z.cps.toList.all isS
theorem isRowB_txt (l : List Bool) : isRowB (txt l) = true := by
  show (l.map code).toArray.toList.all isS = true
  rw [List.all_eq_true]
  intro c hc
  have hc : c ∈ l.map code := hc
  obtain ⟨b, _, rfl⟩ := List.mem_map.mp hc
  cases b <;> rfl
/-- the signs of a text -/
def signs (z : Str) : List Bool := z.cps.toList.map fun c => decide (c = 117)
theorem signs_txt (l : List Bool) : signs (txt l) = l := by
  show (l.map code).map _ = l
  rw [List.map_map]
  refine (List.map_congr_left fun b _ => ?_).trans (List.map_id l)
  exact code_u b
theorem txt_signs {z : Str} (h : isRowB z = true) : txt (signs z) = z := by
  obtain ⟨⟨l⟩⟩ := z
  have h : l.all isS = true := h
  show (⟨((l.map fun c => decide (c = 117)).map code).toArray⟩ : Str) = ⟨l.toArray⟩
  congr 2
  rw [List.map_map]
  refine (List.map_congr_left fun c hc => ?_).trans (List.map_id l)
  have := List.all_eq_true.mp h c hc
  unfold isS at this
  show code (decide (c = 117)) = c
  by_cases e : c = 117
  · rw [e]
    rfl
  · have e2 : c = 100 := by simpa [e] using this
    rw [e2]
    rfl
theorem signs_len (z : Str) : (signs z).length = z.length := by
  unfold signs
  rw [List.length_map, Array.length_toList]
  rfl
/-- whether a text is a hill row under a ceiling -/
def hillB (c : Option Nat) (z : Str) : Bool := isRowB z && okb c 0 (signs z)
theorem hillB_txt (c : Option Nat) (l : List Bool) : hillB c (txt l) = okb c 0 l := by
  unfold hillB
  rw [isRowB_txt, signs_txt, Bool.true_and]
theorem in_signs (c : Nat) : inV (.str ⟨#[c]⟩) [.str "u", .str "d"] = isS c := by
  have e : ∀ (k : Nat), ((⟨#[k]⟩ : Str) == ⟨#[c]⟩) = decide (c = k) := fun k => by
    by_cases h : c = k
    · rw [h]
      simp
    · rw [decide_eq_false h]
      refine beq_eq_false_iff_ne.mpr fun z => h (one_inj.mp z).symm
  show (("u" : Str) == ⟨#[c]⟩ || (("d" : Str) == ⟨#[c]⟩ || false)) = _
  rw [eU, eD, e, e, Bool.or_false]
  rfl
theorem take_snoc {α : Type} {l : List α} {i : Nat} {x : α} (h : l[i]? = some x) : l.take (i + 1) = l.take i ++ [x] := by
  rw [List.take_add_one, h]
  rfl
theorem scIsRow : FnScope ["text", "sign"] ["text"] (defScope sIsRow) := ⟨rfl, rfl, rfl, by decide +kernel, rfl, by decide +kernel, by decide +kernel⟩
theorem scHeights : FnScope ["row", "height", "found", "sign"] ["row"] (defScope sHeights) := ⟨rfl, rfl, rfl, by decide +kernel, rfl, by decide +kernel, by decide +kernel⟩
theorem scIsHill : FnScope ["row", "ceiling", "found"] ["row", "ceiling"] (defScope sIsHill) := ⟨rfl, rfl, rfl, by decide +kernel, rfl, by decide +kernel, by decide +kernel⟩
section
variable {P : Program} {w : World} {K : PySem.W.Frag} {mg : Str → Option Value} {base : Heap}
def spIsRow : Sp := fun vs H Q _ => ∃ (z : Str), vs = [.str z] ∧ z.length ≤ 1000 ∧ ∀ H', Same H H' → Q (.bl (isRowB z)) H'
theorem cal_isRow (D : Def K mg "is_row" sIsRow ["text"]) (misi : mg "isinstance" = none) (mstr : mg "str" = none) (mall : mg "all" = none) {t1 t2 : Tok} (gU : mg "UP" = some (.str "u" t1)) (gD : mg "DOWN" = some (.str "d" t2)) : Cal K mg CX0 P w base 1 "is_row" [] spIsRow := by
  refine D.cal scIsRow (fun vs H Q E h => ?_) (fun f cdv A outer s H vs Q E hr h => ?_)
  · obtain ⟨z, rfl, _⟩ := h
    rfl
  · obtain ⟨z, rfl, hz, q⟩ := h
    refine ⟨_, pss_one (ps_ret (pe_and (pe_callB call_isi (by rfl) misi (by decide +kernel) (pa_cons (pv 0) (pa_cons (pe_bltn (v := .ty "str") (u := .type "str") (by rfl) mstr (by decide +kernel) rfl) pa_nil)))
      (pe_one (pe_callB (cr_all rfl) (by rfl) mall (by decide +kernel) (pa_cons (pe_lc (own := [("sign", 1)]) (g := gName 1) (tt := tYes) rfl scIsRow.nd (pi_str (pv 0))
        (blkOk_by (N := ["text", "sign"]) (sc := defScope sIsRow) (by decide +kernel)) (fun _ _ _ _ _ => pg_name (i := 1) scIsRow.nd rfl (Or.inl rfl)) (fun _ _ _ _ _ => pts_nil)
        (fun _ _ _ _ _ => pe_cmpR (r := rIn K false) op_in_seq (pv 1) (pe_tup (pa_cons (pe_glob (v := .str "u") (by rfl) gU ⟨_, rfl⟩) (pa_cons (pe_glob (v := .str "d") (by rfl) gD ⟨_, rfl⟩) pa_nil))) (by rfl))) pa_nil))))), ?_⟩
    refine ⟨.str z, rfl, .str z, .ty "str", _, _, true, rfl, .ty "str", .base (.str z), kit_ty (by decide +kernel), true, rfl, iteT ?_⟩
    refine ⟨.str z, rfl, z, rfl, fun D nD => ?_⟩
    refine lc_it walk_str (fun i H' => Same H H' ∧ H' D = some (.lst (((z.cps.toList.take i).map isS).map V.bl))) ⟨same_upd nD, upd_same⟩ (fun _ _ _ _ => trivial) ?_ ?_
    · rintro i x H1 H2 hi ⟨sm, eD⟩ ⟨rfl, c, hc, rfl⟩
      have hc' : z.cps.toList[i]? = some c := by rw [Array.getElem?_toList]; exact hc
      refine ⟨rfl, ?_⟩
      unfold tYes
      refine iteT ?_
      refine ⟨_, rfl, sz (show 2 ≤ 1000000 by decide), fun t nt => ?_⟩
      have nDt : D ≠ t := ne_of_none eD nt
      refine ⟨t, _, rfl, .inr (.inl (.inl upd_same)), rfl, rfl, _, by rw [upd_ne nDt]; exact eD, szl ?_, same_updN (sm.trans (same_upd nt)) nD, ?_⟩
      · rw [List.length_map, List.length_map, List.length_take]
        have : z.cps.toList.length = z.length := rfl
        omega
      · rw [upd_same, take_snoc hc', List.map_append, List.map_append]
        show some (HO.lst (_ ++ [V.bl (inV (.str ⟨#[c]⟩) [.str "u", .str "d"])])) = _
        rw [in_signs]
        rfl
    · rintro H1 ⟨sm, eD⟩
      refine ⟨D, _, rfl, .inl (.inl eD), ?_⟩
      have e : (((z.cps.toList.take z.cps.size).map isS).all id) = isRowB z := by
        rw [List.take_of_length_le (by rw [Array.length_toList]; exact Nat.le_refl _), List.all_map]
        rfl
      rw [e]
      exact q H1 sm
end
end Hr
namespace Hr
open PySem PySem.Spec PyProof.Rows L2
section
variable {P : Program} {w : World} {K : PySem.W.Frag} {mg : Str → Option Value} {base : Heap}
def spHeightsX (CN : Addr) : Sp := fun vs H Q E => ∃ (z : Str), vs = [.str z] ∧ z.length ≤ 1000 ∧ (isRowB z = true → ∀ H' p, Same H H' → H p = none → H' p = some (.lst ((hts 0 (signs z)).map V.int)) → Q (.ref p) H') ∧ (isRowB z = false → ∀ H', Same H H' → E (.ref CN) none H')
theorem cal_heightsX {CN : Addr} (er : Err K mg "NoRow" CN) (D : Def K mg "heights" sHeights ["row"]) (C : Cal K mg CX0 P w base 1 "is_row" [] spIsRow) {t1 : Tok} (gU : mg "UP" = some (.str "u" t1)) : Cal K mg (L2.CX P w) P w base 2 "heights" [] (spHeightsX CN) := by
  refine D.calX scHeights (fun vs H Q E h => ?_) (fun f cdv A outer s H vs Q E hr h => ?_)
  · obtain ⟨z, rfl, _⟩ := h
    rfl
  · obtain ⟨z, rfl, hz, q, qe⟩ := h
    have nd := scHeights.nd
    refine ⟨_, pss_cons (ps_if (pt_not (pt_val (pe_c C hr (pa_cons (pv 0) pa_nil)))) (pss_one (ps_raise rfl (takes_of rfl rfl rfl rfl) (pmk_own PySem.F.excBase_ValueError er.x er.g er.k (raises_own er.b er.t) rfl))) pss_nil)
      (pss_cons (ps_set (i := 1) nd rfl (.inl rfl) pe_int)
      (pss_cons (ps_set (i := 2) nd rfl (.inl rfl) (pe_lst (pa_cons (pv 1) pa_nil)))
      (pss_cons (ps_for PassesOwn.leaving rfl (pi_str (pv 0)) (pg_name (i := 3) nd rfl (.inl rfl))
        (pss_cons (ps_aug (i := 1) nd rfl (.inl rfl) (pe_ifExp (pt_cmpR op_eq (pv 3) (pe_glob (v := .str "u") (by rfl) gU ⟨_, rfl⟩) (nomark _)) pe_int (pe_un un_neg pe_int)) ip_add)
        (pss_one (ps_expr (pe_bm PySem.F.plainAttrs_list PySem.F.slot_list_append PySem.F.type_list_append mt_append (pv 2) (pa_cons (pv 1) pa_nil))))))
      (pss_one (ps_ret (pv 2)))))), ?_⟩
    refine ⟨.str z, rfl, z, rfl, hz, fun H1 s1 => ⟨isRowB z, rfl, ?_⟩⟩
    by_cases hrow : isRowB z = true
    rotate_left
    · have hrow : isRowB z = false := by simpa using hrow
      rw [hrow]
      refine iteT ?_
      exact qe hrow H1 s1
    rw [hrow]
    refine iteF ?_
    obtain ⟨l, rfl⟩ : ∃ l, z = txt l := ⟨signs z, (txt_signs hrow).symm⟩
    rw [txt_len] at hz
    have hl := hz
    have q := q hrow
    rw [signs_txt] at q
    refine ⟨.int 0, rfl, sz (show 1 ≤ 1000000 by decide), fun o no => ?_⟩
    have n0 : H o = none := s1.free no
    refine ⟨.str (txt l), rfl, txt l, rfl, ?_⟩
    refine for_it walk_str (fun i σ H' => ∃ y, σ = [some (.str (txt l)), some (.int ((l.take i).map sg).sum), some (.ref o), y] ∧ Same H H' ∧ H' o = some (.lst ((hts 0 (l.take i)).map V.int))) ?_ (fun _ _ _ _ _ => trivial) ?_ ?_
    · exact ⟨none, rfl, same_updN s1 n0, upd_same⟩
    · rintro i x σ H2 H3 hi ⟨y, rfl, sm, eo⟩ ⟨rfl, c, hc, rfl⟩
      rw [txt_at] at hc
      obtain ⟨b, hb, rfl⟩ := Option.map_eq_some_iff.mp hc
      have e1 : ((l.take (i + 1)).map sg).sum = ((l.take i).map sg).sum + sg b := by
        rw [take_snoc hb, List.map_append, List.sum_append]
        show _ + (sg b + 0) = _
        omega
      have e2 : hts 0 (l.take (i + 1)) = hts 0 (l.take i) ++ [((l.take (i + 1)).map sg).sum] := by
        rw [e1, take_snoc hb, hts_snoc, Int.zero_add]
      have hlen : ((hts 0 (l.take i)).map V.int).length < sizeLine := szl (by rw [List.length_map, hts_len, List.length_take]; omega)
      refine ⟨_, rfl, .str ⟨#[code b]⟩, rfl, rfl, decide (code b = 117), congrArg V.bl (is_u _), ?_⟩
      rw [code_u]
      cases b with
      | true =>
        refine iteT ?_
        refine ⟨_, 1, rfl, rfl, .ref o, rfl, .inl ⟨rfl, _, .inl (.inl eo)⟩, _, rfl, o, _, _, rfl, rfl, eo, hlen, some (.str ⟨#[code true]⟩), ?_, same_updN sm n0, ?_⟩
        · rw [e1]
          rfl
        · rw [upd_same, e2, e1, List.map_append]
          rfl
      | false =>
        refine iteF ?_
        refine ⟨1, rfl, _, -1, rfl, rfl, .ref o, rfl, .inl ⟨rfl, _, .inl (.inl eo)⟩, _, rfl, o, _, _, rfl, rfl, eo, hlen, some (.str ⟨#[code false]⟩), ?_, same_updN sm n0, ?_⟩
        · rw [e1]
          rfl
        · rw [upd_same, e2, e1, List.map_append]
          rfl
    · rintro σ H2 ⟨y, rfl, sm, eo⟩
      rw [txt_size, List.take_length] at eo
      exact ⟨.ref o, rfl, q H2 o sm n0 eo⟩
def spIsHill : Sp := fun vs H Q _ => ∃ (z : Str) (c : Option Nat), vs = [.str z, cV c] ∧ z.length ≤ 1000 ∧ ∀ H', Same H H' → Q (.bl (hillB c z)) H'
theorem cal_isHill {CN : Addr} (D : DefD K mg "is_hill" sIsHill ["row", "ceiling"]) (C : Cal K mg CX0 P w base 1 "is_row" [] spIsRow) (C2 : Cal K mg (L2.CX P w) P w base 2 "heights" [] (spHeightsX CN)) (mmin : mg "min" = none) (mmax : mg "max" = none) :
    Cal K mg CX0 P w base 3 "is_hill" [] spIsHill ∧ Cal K mg CX0 P w base 3 "is_hill" [.non] spIsHill := by
  refine D.ok scIsHill (fun vs H Q E h => ?_) (fun f cdv A outer s H vs Q E hr h => ?_)
  · obtain ⟨z, c, rfl, _⟩ := h
    rfl
  · obtain ⟨z, c, rfl, hz, q⟩ := h
    have nd := scIsHill.nd
    refine ⟨_, pss_cons (ps_if (pt_not (pt_val (pe_c C hr (pa_cons (pv 0) pa_nil)))) (pss_one (ps_ret pe_bl)) pss_nil)
      (pss_cons (ps_set (i := 2) nd rfl (.inl rfl) (pe_cL C2 hr (pa_cons (pv 0) pa_nil)))
      (pss_cons (ps_if (PW.pt (pw_or (pt_cmpR op_ne (pe_ix ix_list (pv 2) (pe_un un_neg pe_int) (fun _ _ => rfl)) pe_int (nomark _)) (pw_or1 (pt_cmpR op_lt (pe_callB (cr_min rfl) (by rfl) mmin boot_min (pa_cons (pv 2) pa_nil)) pe_int (nomark _))))) (pss_one (ps_ret pe_bl)) pss_nil)
      (pss_one (ps_ret (pe_or (pe_cmp (pc_isN (pv 1))) (pe_one (pe_cmpR op_le (pe_callB (cr_max rfl) (by rfl) mmax boot_max (pa_cons (pv 2) pa_nil)) (pv 1) (nomark _)))))))), ?_⟩
    refine ⟨.str z, rfl, z, rfl, hz, fun H1 s1 => ⟨isRowB z, rfl, ?_⟩⟩
    by_cases hrow : isRowB z = true
    · rw [hrow]
      refine iteF ?_
      obtain ⟨l, rfl⟩ : ∃ l, z = txt l := ⟨signs z, (txt_signs hrow).symm⟩
      rw [txt_len] at hz
      refine ⟨.str (txt l), rfl, txt l, rfl, by rw [txt_len]; exact hz, fun _ H2 p s2 np ep => ?_, fun z => absurd (z.symm.trans (isRowB_txt l)) (by decide)⟩
      rw [signs_txt] at ep
      have hS : SqL K H2 p ((hts 0 l).map V.int) := .inl (.inl ep)
      have hne : 0 < (hts 0 l).length := by rw [hts_len]; omega
      have hlast : (hts 0 l).map V.int = ((hts 0 l).dropLast).map V.int ++ [.int (l.map sg).sum] := by
        conv => lhs; rw [hts_last l 0]
        rw [List.map_append, Int.zero_add]
        rfl
      have iff := okb_iff c l 0 (fun k _ => Nat.zero_le _)
      have qq : ∀ b : Bool, (b = true ↔ okb c 0 l = true) → ∀ H', Same H H' → Q (.bl b) H' := fun b hb H' sm => by
        have := q H' sm
        rw [hillB_txt] at this
        have e : b = okb c 0 l := Bool.eq_iff_iff.mpr hb
        rw [e]
        exact this
      have sm := s1.trans s2
      refine ⟨.ref p, rfl, 1, rfl, p, _, -1, .int (l.map sg).sum, rfl, rfl, hS, by rw [hlast]; exact atI_last _ _, rfl, _, rfl, ite2 (fun e => ?_) (fun e => ?_)⟩
      · refine iteT ?_
        refine qq false ⟨fun z => (nomatch z), fun z => ?_⟩ H2 sm
        have := (iff.mp z).1
        have e' : ¬ (V.int (l.map sg).sum = V.int 0) := by simpa using e
        exact absurd (congrArg V.int (by have : ((0 : Nat) : Int) + (l.map sg).sum = 0 := this; omega)) e'
      · have e0 : (l.map sg).sum = 0 := by
          have : V.int (l.map sg).sum = V.int 0 := by simpa using e
          exact V.int.inj this
        refine ⟨.ref p, rfl, p, hts 0 l, rfl, hS, hne, fun m hm hmin => ⟨_, _, rfl, rfl, _, rfl, ite2 (fun g => ?_) (fun g => ?_)⟩⟩
        · have g0 : m < 0 := of_decide_eq_true g
          refine qq false ⟨fun z => (nomatch z), fun z => ?_⟩ H2 sm
          have := (iff.mp z).2.1 m hm
          omega
        · have g0 : ¬ m < 0 := fun z => g (decide_eq_true z)
          have hpos : ∀ x ∈ hts 0 l, 0 ≤ x := fun x hx => by
            have := hmin x hx
            omega
          cases c with
          | none =>
            refine ⟨.non, rfl, true, rfl, iteT ?_⟩
            refine qq true ⟨fun _ => iff.mpr ⟨by show ((0 : Nat) : Int) + _ = 0; omega, hpos, fun k z => by cases z⟩, fun _ => rfl⟩ H2 sm
          | some k =>
            refine ⟨.int (k : Int), rfl, false, rfl, iteF ?_⟩
            refine ⟨.ref p, rfl, p, hts 0 l, rfl, hS, hne, fun M hM hmax => ⟨.int (k : Int), rfl, M, (k : Int), rfl, rfl, ?_⟩⟩
            refine qq (decide (M ≤ (k : Int))) ⟨fun z => ?_, fun z => ?_⟩ H2 sm
            · have hk := of_decide_eq_true z
              refine iff.mpr ⟨by show ((0 : Nat) : Int) + _ = 0; omega, hpos, fun k' z' x hx => ?_⟩
              cases z'
              have := hmax x hx
              omega
            · exact decide_eq_true ((iff.mp z).2.2 k rfl M hM)
    · have hrow' : isRowB z = false := by simpa using hrow
      rw [hrow']
      refine iteT ?_
      have e : hillB c z = false := by
        unfold hillB
        rw [hrow', Bool.false_and]
      have := q H1 s1
      rw [e] at this
      exact this
end
end Hr
namespace Hr
open PySem PySem.Spec PyProof.Rows L2
theorem scChHill : FnScope ["row", "ceiling"] ["row", "ceiling"] (defScope sChHill) := ⟨rfl, rfl, rfl, by decide +kernel, rfl, by decide +kernel, by decide +kernel⟩
section
variable {P : Program} {w : World} {K : PySem.W.Frag} {mg : Str → Option Value} {base : Heap} {CC CN CR CP : Addr}
def spChHillX (CN : Addr) : Sp := fun vs H Q E => ∃ (z : Str) (c : Option Nat), vs = [.str z, cV c] ∧ z.length ≤ 1000 ∧ (hillB c z = true → ∀ H', Same H H' → Q .non H') ∧ (hillB c z = false → ∀ H', Same H H' → E (.ref CN) none H')
theorem cal_chHillX (er : Err K mg "NoRow" CN) (D : DefD K mg "check_hill" sChHill ["row", "ceiling"]) (C : Cal K mg CX0 P w base 3 "is_hill" [] spIsHill) : Cal K mg (L2.CX P w) P w base 4 "check_hill" [] (spChHillX CN) ∧ Cal K mg (L2.CX P w) P w base 4 "check_hill" [.non] (spChHillX CN) := by
  refine D.okX scChHill (fun vs H Q E h => ?_) (fun f cdv A outer s H vs Q E hr h => ?_)
  · obtain ⟨l, c, rfl, _⟩ := h
    rfl
  · obtain ⟨z, c, rfl, hz, q, qe⟩ := h
    refine ⟨_, pss_one (ps_if (pt_not (pt_val (pe_c C hr (pa_cons (pv 0) (pa_cons (pv 1) pa_nil))))) (pss_one (ps_raise rfl (takes_of rfl rfl rfl rfl) (pmk_own PySem.F.excBase_ValueError er.x er.g er.k (raises_own er.b er.t) rfl))) pss_nil), ?_⟩
    refine ⟨.str z, rfl, cV c, rfl, z, c, rfl, hz, fun H' sm => ⟨hillB c z, rfl, ?_⟩⟩
    cases hh : hillB c z with
    | true =>
      refine iteF ?_
      exact q hh H' sm
    | false =>
      refine iteT ?_
      exact qe hh H' sm
end
end Hr
/-! ### cut texts -/
namespace Hr
open PySem PySem.Spec PyProof.Rows L2
theorem cutS_from {l : List Bool} {k : Nat} (h : k ≤ l.length) : cutS (txt l) (some (k : Int)) none = txt (l.drop k) := by
  unfold cutS
  rw [txt_len, HT.sIx_nat, Nat.min_eq_left h]
  show (⟨(((l.map code).drop k).take (l.length - k)).toArray⟩ : Str) = _
  rw [List.take_of_length_le (by rw [List.length_drop, List.length_map]; exact Nat.le_refl _), ← List.map_drop]
  rfl
theorem cutS_to {l : List Bool} {k : Nat} (h : k ≤ l.length) : cutS (txt l) none (some (k : Int)) = txt (l.take k) := by
  unfold cutS
  rw [txt_len, HT.sIx_nat, Nat.min_eq_left h]
  show (⟨(((l.map code).drop 0).take (k - 0)).toArray⟩ : Str) = _
  rw [List.drop_zero, Nat.sub_zero, ← List.map_take]
  rfl
theorem is_d (b : Bool) : decide (V.str ⟨#[code b]⟩ = V.str ("d" : Str)) = !b := by
  cases b
  · exact decide_eq_true (by rw [eD]; rfl)
  · refine decide_eq_false fun z => ?_
    rw [eD] at z
    exact absurd (one_inj.mp (V.str.inj z)) (by decide)
theorem cutS_mid {l : List Bool} {a b : Nat} (ha : a ≤ b) (hb : b ≤ l.length) : cutS (txt l) (some (a : Int)) (some (b : Int)) = txt ((l.drop a).take (b - a)) := by
  unfold cutS
  rw [txt_len, HT.sIx_nat, HT.sIx_nat, Nat.min_eq_left hb, Nat.min_eq_left (Nat.le_trans ha hb)]
  show (⟨(((l.map code).drop a).take (b - a)).toArray⟩ : Str) = _
  rw [← List.map_drop, ← List.map_take]
  rfl
/-- text[1:-1] -/
theorem cutS_in (x y : Bool) (l : List Bool) : cutS (txt (x :: (l ++ [y]))) (some 1) (some (-1)) = txt l := by
  unfold cutS
  have e1 : (txt (x :: (l ++ [y]))).length = l.length + 2 := by
    rw [txt_len, List.length_cons, List.length_append]
    rfl
  have e2 : HT.sIx (l.length + 2) 0 (some 1) = 1 := by
    rw [show (1 : Int) = ((1 : Nat) : Int) from rfl, HT.sIx_nat]
    omega
  have e3 : HT.sIx (l.length + 2) (l.length + 2) (some (-1)) = l.length + 1 := by
    show (if (-1 : Int) < 0 then ((-1 : Int) + ((l.length + 2 : Nat) : Int)).toNat else min (-1 : Int).toNat (l.length + 2)) = _
    rw [if_pos (by decide)]
    omega
  rw [e1, e2, e3]
  show (⟨((((x :: (l ++ [y])).map code).drop 1).take (l.length + 1 - 1)).toArray⟩ : Str) = _
  rw [← List.map_drop, ← List.map_take, List.drop_succ_cons, List.drop_zero, Nat.add_sub_cancel, List.take_left']
  · rfl
  · rfl
end Hr
namespace Hr
open PySem PySem.Spec PyProof.Rows L2
theorem sgn_sum : ∀ l : List Bool, ((l.map sgn).map (·.length)).sum = l.length
  | [] => rfl
  | b :: r => by
    rw [List.map_cons, List.map_cons, List.sum_cons, sgn_sum r, List.length_cons]
    show 1 + _ = _
    omega
theorem join_signs (l : List Bool) : Txt.join ("" : Str) (l.map sgn) = txt l := by
  have h := SX.join_S [] (l.map fun b => [code b])
  have e1 : (l.map fun b => [code b]).map SX.S = l.map sgn := by
    rw [List.map_map]
    rfl
  rw [e1] at h
  have e2 : ∀ l : List Bool, TL.joinL [] (l.map fun b => [code b]) = l.map code := by
    intro l
    induction l with
    | nil => rfl
    | cons b l ih =>
      cases l with
      | nil => rfl
      | cons b2 l =>
        show [code b] ++ ([] ++ TL.joinL [] ((b2 :: l).map fun b => [code b])) = _
        rw [ih]
        rfl
  rw [e2] at h
  rw [eE]
  exact h
end Hr
/-! ### ranks -/
namespace Hr
open PySem PySem.Spec PyProof.Rows L2
theorem scRank : FnScope ["row", "ceiling"] ["row", "ceiling"] (defScope sRank) := ⟨rfl, rfl, rfl, by decide +kernel, rfl, by decide +kernel, by decide +kernel⟩
theorem scRowAt : FnScope ["n", "r", "ceiling", "table"] ["n", "r", "ceiling"] (defScope sRowAt) := ⟨rfl, rfl, rfl, by decide +kernel, rfl, by decide +kernel, by decide +kernel⟩
theorem scNumOf : FnScope ["row", "table", "r", "height", "left", "sign"] ["row", "table"] (defScope sNumOf) := ⟨rfl, rfl, rfl, by decide +kernel, rfl, by decide +kernel, by decide +kernel⟩
theorem scOfNum : FnScope ["r", "table", "signs", "height", "ahead", "left", "down"] ["r", "table"] (defScope sOfNum) := ⟨rfl, rfl, rfl, by decide +kernel, rfl, by decide +kernel, by decide +kernel⟩
theorem scDown : FnScope ["table", "height", "left"] ["table", "height", "left"] (defScope sDown) := ⟨rfl, rfl, rfl, by decide +kernel, rfl, by decide +kernel, by decide +kernel⟩
theorem scCount : FnScope ["table"] ["table"] (defScope sCount) := ⟨rfl, rfl, rfl, by decide +kernel, rfl, by decide +kernel, by decide +kernel⟩
theorem args_pik {p : Addr} {x y : Int} {h k : Nat} (hx : x = (h : Int)) (hy : y = (k : Int)) : [V.ref p, V.int x, V.int y] = [V.ref p, V.int (h : Int), V.int (k : Int)] := by
  rw [hx, hy]
section
variable {P : Program} {w : World} {K : PySem.W.Frag} {mg : Str → Option Value} {base : Heap}
def spDown : Sp := fun vs H Q _ => ∃ (p : Addr) (n T h k : Nat), vs = [.ref p, .int (h : Int), .int (k : Int)] ∧ Tbl H p n T ∧ k ≤ n ∧ h ≤ T + 1 ∧ Q (.int ((dn T k h : Nat) : Int)) H
theorem cal_down (D : Def K mg "ways_down" sDown ["table", "height", "left"]) : Cal K mg CX0 P w base 1 "ways_down" [] spDown := by
  refine D.cal scDown (fun vs H Q E h => ?_) (fun f cdv A outer s H vs Q E hr h => ?_)
  · obtain ⟨p, n, T, h, k, rfl, _⟩ := h
    rfl
  · obtain ⟨p, n, T, h, k, rfl, ⟨qa, e1, e2⟩, hk, hh, q⟩ := h
    refine ⟨_, pss_one (ps_ret (pe_ifExp (pt_cmpR op_gt (pv 1) pe_int (nomark _)) (pe_ix ix_list (pe_ix ix_list (pv 0) (pv 2) (fun _ _ => rfl)) (pe_op op_sub (pv 1) pe_int) (fun _ _ => rfl)) pe_int)), ?_⟩
    refine ⟨.int (h : Int), rfl, (h : Int), 0, rfl, rfl, _, rfl, ite2 (fun e => ?_) (fun e => ?_)⟩
    · have e0 : 0 < h := by
        have := of_decide_eq_true e
        omega
      refine ⟨.ref p, rfl, .int (k : Int), rfl, p, _, _, .ref (qa k), rfl, rfl, .inl (.inl e1), at_of rfl (range_get qa hk), ?_⟩
      refine ⟨.int (h : Int), rfl, (h : Int), 1, rfl, rfl, qa k, _, _, .int ((W T k (h - 1) : Nat) : Int), rfl, rfl, .inl (.inl (e2 k hk)), at_of (j := h - 1) (by omega) ?_, ?_⟩
      · rw [List.getElem?_map, rowW_get (by omega)]
        rfl
      · unfold dn at q
        rw [if_neg (by omega)] at q
        exact q
    · have e0 : h = 0 := by
        have : ¬ (0 : Int) < (h : Int) := fun z => e (decide_eq_true z)
        omega
      unfold dn at q
      rw [if_pos e0] at q
      exact q
def spCount : Sp := fun vs H Q _ => ∃ (p : Addr) (n T : Nat), vs = [.ref p] ∧ Tbl H p n T ∧ Q (.int ((W T n 0 : Nat) : Int)) H
theorem cal_count (D : Def K mg "row_count" sCount ["table"]) : Cal K mg CX0 P w base 1 "row_count" [] spCount := by
  refine D.cal scCount (fun vs H Q E h => ?_) (fun f cdv A outer s H vs Q E hr h => ?_)
  · obtain ⟨p, n, T, rfl, _⟩ := h
    rfl
  · obtain ⟨p, n, T, rfl, ⟨qa, e1, e2⟩, q⟩ := h
    refine ⟨_, pss_one (ps_ret (pe_ix ix_list (pe_ix ix_list (pv 0) (pe_un un_neg pe_int) (fun _ _ => rfl)) pe_int (fun _ _ => rfl))), ?_⟩
    have eL : ((List.range (n + 1)).map fun k => V.ref (qa k)) = ((List.range n).map fun k => V.ref (qa k)) ++ [V.ref (qa n)] := by
      rw [List.range_succ, List.map_append]
      rfl
    refine ⟨.ref p, rfl, 1, rfl, p, _, -1, .ref (qa n), rfl, rfl, .inl (.inl e1), by rw [eL]; exact atI_last _ _, ?_⟩
    refine ⟨qa n, _, 0, .int ((W T n 0 : Nat) : Int), rfl, rfl, .inl (.inl (e2 n (Nat.le_refl _))), at_of (j := 0) rfl ?_, q⟩
    rw [List.getElem?_map, rowW_get (Nat.zero_le _)]
    rfl
def spNumOf : Sp := fun vs H Q _ => ∃ (l : List Bool) (p : Addr) (T : Nat), vs = [.str (txt l), .ref p] ∧ Tbl H p l.length T ∧ okb (some T) 0 l = true ∧ l.length ≤ 1000 ∧ Q (.int ((rankOf T 0 l : Nat) : Int)) H
theorem cal_numOf (D : Def K mg "number_of" sNumOf ["row", "table"]) (C : Cal K mg CX0 P w base 1 "ways_down" [] spDown) (mlen : mg "len" = none) {t1 : Tok} (gU : mg "UP" = some (.str "u" t1)) : Cal K mg CX0 P w base 2 "number_of" [] spNumOf := by
  refine D.cal scNumOf (fun vs H Q E h => ?_) (fun f cdv A outer s H vs Q E hr h => ?_)
  · obtain ⟨l, p, T, rfl, _⟩ := h
    rfl
  · obtain ⟨l, p, T, rfl, tb, ok, hl, q⟩ := h
    have nd := scNumOf.nd
    refine ⟨_, pss_cons (ps_set (i := 2) nd rfl (.inl rfl) pe_int) (pss_cons (ps_set (i := 3) nd rfl (.inl rfl) pe_int)
      (pss_cons (ps_set (i := 4) nd rfl (.inl rfl) (pe_callB call_len_str (by rfl) mlen PySem.boot_len (pa_cons (pv 0) pa_nil)))
      (pss_cons (ps_for PassesOwn.never rfl (pi_str (pv 0)) (pg_name (i := 5) nd rfl (.inl rfl))
        (pss_cons (ps_aug (i := 4) nd rfl (.inl rfl) pe_int ip_sub)
        (pss_one (ps_if (pt_cmpR op_eq (pv 5) (pe_glob (v := .str "u") (by rfl) gU ⟨_, rfl⟩) (nomark _))
          (pss_cons (ps_aug (i := 2) nd rfl (.inl rfl) (pe_c C hr (pa_cons (pv 1) (pa_cons (pv 3) (pa_cons (pv 4) pa_nil)))) ip_add)
            (pss_one (ps_aug (i := 3) nd rfl (.inl rfl) pe_int ip_add)))
          (pss_one (ps_aug (i := 3) nd rfl (.inl rfl) pe_int ip_sub))))))
      (pss_one (ps_ret (pv 2)))))), ?_⟩
    refine ⟨.str (txt l), rfl, txt l, rfl, sz (by rw [txt_len]; omega), ?_⟩
    refine ⟨.str (txt l), rfl, txt l, rfl, ?_⟩
    refine for_it walk_str (fun i σ H' => ∃ (ri hi li : Int) (r h : Nat) (y : Option V), σ = [some (.str (txt l)), some (.ref p), some (.int ri), some (.int hi), some (.int li), y] ∧ H' = H ∧
      r + rankOf T h (l.drop i) = rankOf T 0 l ∧ okb (some T) h (l.drop i) = true ∧ h ≤ T ∧ ri = (r : Int) ∧ hi = (h : Int) ∧ li = ((l.drop i).length : Int)) ?_ (fun _ _ _ _ _ => trivial) ?_ ?_
    · refine ⟨_, _, _, 0, 0, none, rfl, rfl, Nat.zero_add _, ok, Nat.zero_le _, rfl, rfl, ?_⟩
      rw [txt_len]
      rfl
    · rintro i x σ H2 H3 hi ⟨ri, hh, li, r, h, y, rfl, rfl, e1, e2, hT, er, eh, el⟩ ⟨rfl, c, hc, rfl⟩
      rw [txt_at] at hc
      obtain ⟨b, hb, rfl⟩ := Option.map_eq_some_iff.mp hc
      have hil : i < l.length := (List.getElem?_eq_some_iff.mp hb).1
      have ed : l.drop i = b :: l.drop (i + 1) := by
        rw [List.drop_eq_getElem_cons hil]
        congr 1
        exact (List.getElem?_eq_some_iff.mp hb).2
      rw [ed] at e1 e2 el
      rw [List.length_cons] at el
      refine ⟨_, rfl, _, 1, rfl, rfl, ?_⟩
      refine ⟨_, rfl, rfl, decide (code b = 117), congrArg V.bl (is_u _), ?_⟩
      rw [code_u]
      have hlen : (l.drop (i + 1)).length ≤ l.length := by rw [List.length_drop]; omega
      cases b with
      | true =>
        obtain ⟨a1, a2⟩ := okb_up e2
        have a1 : h < T := of_decide_eq_true a1
        refine iteT ?_
        refine ⟨_, rfl, .ref p, rfl, _, rfl, _, rfl, p, l.length, T, h, (l.drop (i + 1)).length, args_pik eh (by show li - 1 = _; omega), tb, hlen, by omega, _, _, rfl, rfl, _, rfl, _, 1, rfl, rfl, _, _, _, r + dn T (l.drop (i + 1)).length h, h + 1, _, rfl, rfl, ?_, a2, a1, ?_, ?_, ?_⟩
        · rw [← e1]
          show _ = r + (dn T (l.drop (i + 1)).length h + rankOf T (h + 1) (l.drop (i + 1)))
          omega
        · show ri + ((dn T (l.drop (i + 1)).length h : Nat) : Int) = _
          omega
        · show hh + 1 = _
          omega
        · show li - 1 = _
          omega
      | false =>
        obtain ⟨a1, a2⟩ := okb_down e2
        refine iteF ?_
        refine ⟨_, rfl, _, 1, rfl, rfl, _, _, _, r, h - 1, _, rfl, rfl, e1, a2, by omega, er, ?_, ?_⟩
        · show hh - 1 = _
          omega
        · show li - 1 = _
          omega
    · rintro σ H2 ⟨ri, hh, li, r, h, y, rfl, rfl, e1, e2, hT, er, eh, el⟩
      refine ⟨_, rfl, ?_⟩
      have e : l.drop (txt l).cps.size = [] := List.drop_eq_nil_of_le (by rw [txt_size]; exact Nat.le_refl _)
      rw [e] at e1
      have e1 : r = rankOf T 0 l := e1
      rw [er, e1]
      exact q
def spOfNum : Sp := fun vs H Q _ => ∃ (r n T : Nat) (p : Addr), vs = [.int (r : Int), .ref p] ∧ Tbl H p n T ∧ r < W T n 0 ∧ n ≤ 1000 ∧ ∀ H', Same H H' → Q (.str (txt (unrank T n 0 r))) H'
theorem cal_ofNum (D : Def K mg "row_of_number" sOfNum ["r", "table"]) (C : Cal K mg CX0 P w base 1 "ways_down" [] spDown) (mlen : mg "len" = none) (mrange : mg "range" = none) (mrev : mg "reversed" = none) {t1 t2 : Tok} (gU : mg "UP" = some (.str "u" t1)) (gD : mg "DOWN" = some (.str "d" t2)) :
    Cal K mg CX0 P w base 2 "row_of_number" [] spOfNum := by
  refine D.cal scOfNum (fun vs H Q E h => ?_) (fun f cdv A outer s H vs Q E hr h => ?_)
  · obtain ⟨r, n, T, p, rfl, _⟩ := h
    rfl
  · obtain ⟨r, n, T, p, rfl, tb, hr0, hn, q⟩ := h
    have nd := scOfNum.nd
    refine ⟨_, pss_cons (ps_set (i := 2) nd rfl (.inl rfl) (pe_lst pa_nil)) (pss_cons (ps_set (i := 3) nd rfl (.inl rfl) pe_int) (pss_cons (ps_set (i := 4) nd rfl (.inl rfl) (pv 0))
      (pss_cons (ps_for PassesOwn.never rfl (pi_revR (by rfl) mrev (prg_1 (by rfl) mrange (pe_op op_sub (pe_callB call_len_seq (by rfl) mlen PySem.boot_len (pa_cons (pv 1) pa_nil)) pe_int))) (pg_name (i := 5) nd rfl (.inl rfl))
        (pss_cons (ps_set (i := 6) nd rfl (.inl rfl) (pe_c C hr (pa_cons (pv 1) (pa_cons (pv 3) (pa_cons (pv 5) pa_nil)))))
        (pss_one (ps_if (pt_cmpR op_lt (pv 4) (pv 6) (nomark _))
          (pss_cons (ps_expr (pe_bm PySem.F.plainAttrs_list PySem.F.slot_list_append PySem.F.type_list_append mt_append (pv 2) (pa_cons (pe_glob (v := .str "d") (by rfl) gD ⟨_, rfl⟩) pa_nil)))
            (pss_one (ps_aug (i := 3) nd rfl (.inl rfl) pe_int ip_sub)))
          (pss_cons (ps_aug (i := 4) nd rfl (.inl rfl) (pv 6) ip_sub)
            (pss_cons (ps_expr (pe_bm PySem.F.plainAttrs_list PySem.F.slot_list_append PySem.F.type_list_append mt_append (pv 2) (pa_cons (pe_glob (v := .str "u") (by rfl) gU ⟨_, rfl⟩) pa_nil)))
            (pss_one (ps_aug (i := 3) nd rfl (.inl rfl) pe_int ip_add))))))))
      (pss_one (ps_ret (pe_join pe_str (pv 2))))))), ?_⟩
    refine ⟨Nat.zero_le _, fun o no => ?_⟩
    have s1 := same_upd (o := .lst []) no
    refine ⟨_, rfl, ?_⟩
    have tb1 := tb.same s1
    obtain ⟨qa, e1, e2⟩ := tb1
    have hlen : ((List.range (n + 1)).map fun k => V.ref (qa k)).length = n + 1 := by rw [List.length_map, List.length_range]
    refine ⟨.ref p, rfl, p, _, rfl, .inl (.inl (.inl e1)), _, 1, rfl, rfl, _, rfl, ?_⟩
    rw [hlen]
    have e0 : ((((n + 1 : Nat) : Int) - 1 - 0).toNat) = n := by omega
    refine ⟨by decide, by decide, by omega, by omega, ?_⟩
    rw [e0]
    refine for_it walk_rangeC (fun i σ H' => ∃ (hh ai : Int) (pre : List Bool) (h a : Nat) (y5 y6 : Option V), σ = [some (.int (r : Int)), some (.ref p), some (.ref o), some (.int hh), some (.int ai), y5, y6] ∧ Same H H' ∧
      H' o = some (.lst (pre.map fun b => V.str (sgn b))) ∧ pre.length = i ∧ pre ++ unrank T (n - i) h a = unrank T n 0 r ∧ a < W T (n - i) h ∧ h ≤ T ∧ hh = (h : Int) ∧ ai = (a : Int)) ?_ (fun _ _ _ _ _ => trivial) ?_ ?_
    · exact ⟨0, _, [], 0, r, none, none, rfl, s1, upd_same, rfl, rfl, hr0, Nat.zero_le _, rfl, rfl⟩
    · rintro i x σ H2 H3 hi ⟨hh, ai, pre, h, a, y5, y6, rfl, sm, eo, el, eu, ha, hT, eh, ea⟩ ⟨rfl, rfl⟩
      have en : n - i = (n - (i + 1)) + 1 := by omega
      rw [en] at eu ha
      rw [unrank_succ] at eu
      rw [W_succ] at ha
      have hpl : (pre.map fun b => V.str (sgn b)).length < sizeLine := szl (by rw [List.length_map]; omega)
      refine ⟨.ref p, rfl, .int hh, rfl, _, rfl, p, n, T, h, n - (i + 1), args_pik eh (by omega), tb.same sm, by omega, by omega, ?_⟩
      refine ⟨.int ai, rfl, _, rfl, _, _, rfl, rfl, _, rfl, ite2 (fun e => ?_) (fun e => ?_)⟩
      · have e0 : a < dn T (n - (i + 1)) h := by
          have := of_decide_eq_true e
          omega
        have h0 : h ≠ 0 := fun z => by
          unfold dn at e0
          rw [if_pos z] at e0
          omega
        rw [if_pos e0] at eu
        have ha' : a < W T (n - (i + 1)) (h - 1) := by
          unfold dn at e0
          rw [if_neg h0] at e0
          exact e0
        refine ⟨.ref o, rfl, .inl ⟨rfl, _, .inl (.inl eo)⟩, o, _, _, rfl, rfl, eo, hpl, ?_⟩
        refine ⟨_, rfl, _, 1, rfl, rfl, _, _, pre ++ [false], h - 1, a, _, _, rfl, same_updN sm no, ?_, ?_, ?_, ha', by omega, ?_, ea⟩
        · rw [upd_same, List.map_append, ← sgn_d]
          rfl
        · rw [List.length_append, el]
          rfl
        · rw [List.append_assoc]
          exact eu
        · show hh - 1 = _
          omega
      · have e0 : ¬ a < dn T (n - (i + 1)) h := fun z => e (decide_eq_true (by omega))
        rw [if_neg e0] at eu
        have hT' : h < T := by
          by_cases z : h < T
          · exact z
          · rw [if_neg z] at ha
            omega
        rw [if_pos hT'] at ha
        refine ⟨_, rfl, _, rfl, _, _, rfl, rfl, ?_⟩
        refine ⟨.ref o, rfl, .inl ⟨rfl, _, .inl (.inl eo)⟩, o, _, _, rfl, rfl, eo, hpl, ?_⟩
        refine ⟨_, rfl, _, 1, rfl, rfl, _, _, pre ++ [true], h + 1, a - dn T (n - (i + 1)) h, _, _, rfl, same_updN sm no, ?_, ?_, ?_, by omega, by omega, ?_, ?_⟩
        · rw [upd_same, List.map_append, ← sgn_u]
          rfl
        · rw [List.length_append, el]
          rfl
        · rw [List.append_assoc]
          exact eu
        · show hh + 1 = _
          omega
        · show ai - ((dn T (n - (i + 1)) h : Nat) : Int) = _
          omega
    · rintro σ H2 ⟨hh, ai, pre, h, a, y5, y6, rfl, sm, eo, el, eu, ha, hT, eh, ea⟩
      rw [Nat.sub_self] at eu
      have eu : pre = unrank T n 0 r := by
        rw [← eu]
        show pre = pre ++ []
        rw [List.append_nil]
      have em : (pre.map fun b => V.str (sgn b)) = (pre.map sgn).map V.str := by rw [List.map_map]; rfl
      rw [em] at eo
      refine ⟨⟨_, rfl⟩, .ref o, rfl, _, o, pre.map sgn, rfl, rfl, .inl (.inl (.inl eo)), ?_, ?_⟩
      · have := sgn_sum pre
        rw [this]
        show pre.length + _ * 0 ≤ 16777216
        omega
      · rw [join_signs, eu]
        exact q H2 sm
end
end Hr
namespace Hr
open PySem PySem.Spec PyProof.Rows L2
/-- a row's rank, how many there are, the row of a rank: of n ups under the ceiling c -/
def rk (c : Option Nat) (n : Nat) (l : List Bool) : Nat := rankOf (low n c) 0 l
def cntc (c : Option Nat) (n : Nat) : Nat := W (low n c) (2 * n) 0
def rowOf (c : Option Nat) (n r : Nat) : List Bool := unrank (low n c) (2 * n) 0 r
theorem Hill.low {c : Option Nat} {n : Nat} {l : List Bool} (h : Hill c n l) : okb (some (low n c)) 0 l = true := okb_low (by rw [h.2]; omega) h.1
theorem Hill.rk_lt {c : Option Nat} {n : Nat} {l : List Bool} (h : Hill c n l) : rk c n l < cntc c n := by
  have := rank_lt h.low
  rw [h.2] at this
  exact this
theorem Hill.back {c : Option Nat} {n : Nat} {l : List Bool} (h : Hill c n l) : rowOf c n (rk c n l) = l := by
  have := unrank_rank h.low
  rw [h.2] at this
  exact this
theorem rowOf_hill {c : Option Nat} {n r : Nat} (h : r < cntc c n) : Hill c n (rowOf c n r) := by
  obtain ⟨a, b, _⟩ := unrank_ok h
  exact ⟨okb_up_of a, b⟩
theorem rowOf_rk {c : Option Nat} {n r : Nat} (h : r < cntc c n) : rk c n (rowOf c n r) = r := (unrank_ok h).2.2
theorem rowOf_len {c : Option Nat} {n r : Nat} (h : r < cntc c n) : (rowOf c n r).length = 2 * n := (rowOf_hill h).2
def nextV (c : Option Nat) (n : Nat) (l : List Bool) : V := if rk c n l + 1 < cntc c n then .str (txt (rowOf c n (rk c n l + 1))) else .non
def aheadV (c : Option Nat) (n : Nat) (l : List Bool) : V := if 0 < rk c n l then .str (txt (rowOf c n (rk c n l - 1))) else .non
theorem half_len (n : Nat) {z : Str} (h : z.length = 2 * n) : (z.length : Int) / 2 = (n : Int) := by
  rw [h]
  omega
def spRank : Sp := fun vs H Q _ => ∃ (l : List Bool) (c : Option Nat) (n : Nat), vs = [.str (txt l), cV c] ∧ cOk 200 c ∧ Hill c n l ∧ n ≤ 200 ∧ ∀ H', Same H H' → Q (.int ((rk c n l : Nat) : Int)) H'
theorem args_ic {x : Int} {c : Option Nat} {n : Nat} (h : x = (n : Int)) : [V.int x, cV c] = [V.int (n : Int), cV c] := by rw [h]
end Hr
namespace Hr
open PySem PySem.Spec PyProof.Rows L2
section
variable {P : Program} {w : World} {K : PySem.W.Frag} {mg : Str → Option Value} {base : Heap} {CC CN CR CP : Addr}
/-- what rank, next_row and ahead_row refuse -/
def Refuse (CC CN : Addr) (z : Str) (cv : V) (H : Hp) (E : XK) : Prop := (ceilB cv = false → E (.ref CC) none H) ∧ ∀ c, cv = cV c → cOk 200 c → hillB c z = false → ∀ H', Same H H' → E (.ref CN) none H'
def spRankX (CC CN : Addr) : Sp := fun vs H Q E => ∃ (z : Str) (cv : V), vs = [.str z, cv] ∧ flatV cv = true ∧ z.length ≤ 1000 ∧ Refuse CC CN z cv H E ∧ (∀ c, cv = cV c → cOk 200 c → hillB c z = true → spRank [.str z, cv] H Q E0)
theorem cal_rankX (D : DefD K mg "rank" sRank ["row", "ceiling"]) (C1 : Cal K mg (L2.CX P w) P w base 3 "check_ceiling" [] (spChCeiX CC)) (C2 : Cal K mg (L2.CX P w) P w base 4 "check_hill" [] (spChHillX CN)) (C3 : Cal K mg CX0 P w base 3 "hill_table" [] spHill) (C4 : Cal K mg CX0 P w base 2 "number_of" [] spNumOf) (mlen : mg "len" = none) :
    Cal K mg (L2.CX P w) P w base 5 "rank" [] (spRankX CC CN) ∧ Cal K mg (L2.CX P w) P w base 5 "rank" [.non] (spRankX CC CN) := by
  refine D.okX scRank (fun vs H Q E h => ?_) (fun f cdv A outer s H vs Q E hr h => ?_)
  · obtain ⟨z, cv, rfl, _⟩ := h
    rfl
  · obtain ⟨z, cv, rfl, hcv, hz, ⟨re, rn⟩, q⟩ := h
    refine ⟨_, pss_cons (ps_expr (pe_cX C1 hr (takes_of rfl rfl rfl rfl) (pa_cons (pv 1) pa_nil))) (pss_cons (ps_expr (pe_cX C2 hr (takes_of rfl rfl rfl rfl) (pa_cons (pv 0) (pa_cons (pv 1) pa_nil))))
      (pss_one (ps_ret (pe_c C4 hr (pa_cons (pv 0) (pa_cons (pe_c C3 hr (pa_cons (pe_op op_fdiv (pe_callB call_len_str (by rfl) mlen PySem.boot_len (pa_cons (pv 0) pa_nil)) pe_int) (pa_cons (pv 1) pa_nil))) pa_nil)))))), ?_⟩
    refine ⟨cv, rfl, cv, rfl, hcv, fun hk => ?_, re⟩
    obtain ⟨c, rfl, hc⟩ := ceilB_of hk
    refine ⟨.str z, rfl, cV c, rfl, z, c, rfl, hz, fun hh H1 s1 => ?_, fun hh => rn c rfl hc hh⟩
    obtain ⟨l, c', n, e, hc', hh', hn, q2⟩ := q c rfl hc hh
    obtain ⟨rfl, e2⟩ : z = txt l ∧ cV c = cV c' := by simpa using e
    have hz : (txt l).length = 2 * n := by rw [txt_len, hh'.2]
    refine ⟨.str (txt l), rfl, .str (txt l), rfl, txt l, rfl, sz (by rw [hz]; omega), _, 2, rfl, rfl, ⟨by decide, by decide⟩, cV c, rfl, n, c', by rw [e2]; exact args_ic (half_len n hz), by omega, fun H2 p s2 np tb => ?_⟩
    rw [← hh'.2] at tb
    exact ⟨l, p, low n c', rfl, tb, hh'.low, by rw [hh'.2]; omega, q2 H2 (s1.trans s2)⟩
/-- row_at: refused for its numbers, for its rank; else the row -/
def RefuseAt (CC CR : Addr) (v r cv : V) (H : Hp) (E : XK) : Prop := (numB v 200 = false ∨ ceilB cv = false → E (.ref CC) none H) ∧
  ∀ (n : Nat) c, v = .int (n : Int) → cv = cV c → n ≤ 200 → cOk 200 c → numB r (((cntc c n : Nat) : Int) - 1) = false → ∀ H', Same H H' → E (.ref CR) none H'
def spRowAtX (CC CR : Addr) : Sp := fun vs H Q E => ∃ (v r cv : V), vs = [v, r, cv] ∧ flatV v = true ∧ flatV r = true ∧ flatV cv = true ∧ RefuseAt CC CR v r cv H E ∧
  ∀ (n k : Nat) c, v = .int (n : Int) → r = .int (k : Int) → cv = cV c → n ≤ 200 → cOk 200 c → k < cntc c n → ∀ H', Same H H' → Q (.str (txt (rowOf c n k))) H'
theorem cal_rowAtX (er : Err K mg "NoRank" CR) (D : DefD K mg "row_at" sRowAt ["n", "r", "ceiling"]) (C0 : Cal K mg (L2.CX P w) P w base 2 "check_number" [.int 0] (spChNumX CC)) (C1 : Cal K mg (L2.CX P w) P w base 3 "check_ceiling" [] (spChCeiX CC)) (C2 : Cal K mg CX0 P w base 1 "is_number" [.int 0] spIsNumV) (C3 : Cal K mg CX0 P w base 3 "hill_table" [] spHill)
    (C4 : Cal K mg CX0 P w base 2 "row_of_number" [] spOfNum) (C5 : Cal K mg CX0 P w base 1 "row_count" [] spCount) {t1 : Tok} (gM : mg "MOST_UPS" = some (.int 200 t1)) : Cal K mg (L2.CX P w) P w base 4 "row_at" [] (spRowAtX CC CR) ∧ Cal K mg (L2.CX P w) P w base 4 "row_at" [.non] (spRowAtX CC CR) := by
  refine D.okX scRowAt (fun vs H Q E h => ?_) (fun f cdv A outer s H vs Q E hr h => ?_)
  · obtain ⟨v, r, cv, rfl, _⟩ := h
    rfl
  · obtain ⟨v, r, cv, rfl, hv, hrv, hcv, ⟨re, rr⟩, q⟩ := h
    have nd := scRowAt.nd
    refine ⟨_, pss_cons (ps_expr (pe_cX C0 hr (takes_of rfl rfl rfl rfl) (pa_cons (pv 0) (pa_cons (pe_glob (v := .int 200) (by rfl) gM ⟨_, rfl⟩) pa_nil)))) (pss_cons (ps_expr (pe_cX C1 hr (takes_of rfl rfl rfl rfl) (pa_cons (pv 2) pa_nil)))
      (pss_cons (ps_set (i := 3) nd rfl (.inl rfl) (pe_c C3 hr (pa_cons (pv 0) (pa_cons (pv 2) pa_nil))))
      (pss_cons (ps_if (pt_not (pt_val (pe_c C2 hr (pa_cons (pv 1) (pa_cons (pe_op op_sub (pe_c C5 hr (pa_cons (pv 3) pa_nil)) pe_int) pa_nil))))) (pss_one (ps_raise rfl (takes_of rfl rfl rfl rfl) (pmk_own PySem.F.excBase_ValueError er.x er.g er.k (raises_own er.b er.t) rfl))) pss_nil)
      (pss_one (ps_ret (pe_c C4 hr (pa_cons (pv 1) (pa_cons (pv 3) pa_nil)))))))), ?_⟩
    refine ⟨v, rfl, v, 200, rfl, hv, .inl rfl, fun hn => ?_, fun hn => re (.inl hn)⟩
    refine ⟨cv, rfl, cv, rfl, hcv, fun hk => ?_, fun hk => re (.inr hk)⟩
    obtain ⟨n, rfl, hn⟩ := numB_of hn
    obtain ⟨c, rfl, hc⟩ := ceilB_of hk
    refine ⟨.int (n : Int), rfl, cV c, rfl, n, c, rfl, by omega, fun H1 p s1 np tb => ?_⟩
    refine ⟨r, rfl, .ref p, rfl, p, 2 * n, low n c, rfl, tb, _, 1, rfl, rfl, r, _, rfl, hrv, _, rfl, ?_⟩
    cases hb : numB r (((W (low n c) (2 * n) 0 : Nat) : Int) - 1) with
    | true =>
      refine iteF ?_
      obtain ⟨x, rfl, hx⟩ := numB_of hb
      have hx' : x < cntc c n := by
        show x < W (low n c) (2 * n) 0
        omega
      exact ⟨_, rfl, .ref p, rfl, x, 2 * n, low n c, p, rfl, tb, hx', by omega, fun H2 s2 => q n x c rfl rfl rfl (by omega) hc hx' H2 (s1.trans s2)⟩
    | false =>
      refine iteT ?_
      exact rr n c rfl rfl (by omega) hc hb H1 s1
end
end Hr
/-! ### rows that are none; lists and tuples as data -/
namespace Hr
open PySem PySem.Spec PyProof.Rows L2
theorem isRowB_append (a b : Str) : isRowB (a ++ b) = (isRowB a && isRowB b) := by
  show (a ++ b).cps.toList.all isS = _
  rw [show (a ++ b).cps.toList = a.cps.toList ++ b.cps.toList from TL.tl_append a b, List.all_append]
  rfl
theorem okb_any {c : Option Nat} : ∀ {l : List Bool} {h : Nat}, okb c h l = true → okb none h l = true
  | [], _, e => e
  | true :: l, h, e => by
    show (true && okb none (h + 1) l) = true
    rw [Bool.true_and]
    exact okb_any (okb_up e).2
  | false :: l, h, e => by
    obtain ⟨a, b⟩ := okb_down e
    show ((h != 0) && okb none (h - 1) l) = true
    rw [okb_any b, Bool.and_true]
    simpa using a
theorem hill_ext {l : List Bool} (h : okb none 0 l = true) (r : List Bool) : okb none 0 (l ++ r) = okb none 0 r := by
  have := okb_app (r := r) (h := 0) h
  rw [Nat.add_zero] at this
  exact this
theorem eu1 : ("u" : Str) = txt [true] := by decide +kernel
theorem ed1 : ("d" : Str) = txt [false] := by decide +kernel
theorem edu : ("du" : Str) = txt [false, true] := by decide +kernel
theorem eud : ("ud" : Str) = txt [true, false] := by decide +kernel
theorem enil : ("" : Str) = txt [] := by decide +kernel
theorem wrong_u {l : List Bool} (h : okb none 0 l = true) : hillB none (txt l ++ "u") = false := by
  rw [eu1, txt_append, hillB_txt, hill_ext h]
  rfl
theorem wrong_d (l : List Bool) : hillB none ("d" ++ txt l) = false := by
  rw [ed1, txt_append, hillB_txt]
  rfl
theorem wrong_ux (l : List Bool) : hillB none (txt l ++ "ux") = false := by
  unfold hillB
  rw [isRowB_append, show isRowB "ux" = false by decide +kernel, Bool.and_false, Bool.false_and]
theorem wrong_x (l : List Bool) : hillB none (txt l ++ "x") = false := by
  unfold hillB
  rw [isRowB_append, show isRowB "x" = false by decide +kernel, Bool.and_false, Bool.false_and]
theorem wrong_du {l : List Bool} (h : okb none 0 l = true) : hillB none (txt l ++ "du") = false := by
  rw [edu, txt_append, hillB_txt, hill_ext h]
  rfl
theorem row_hillB {l : List Bool} (h : okb none 0 l = true) : hillB none (txt l) = true := (hillB_txt none l).trans h
theorem cut_ints (ns : List Int) (lo hi : Option Int) : ∃ ms : List Int, cutV (ns.map V.int) lo hi = ms.map V.int ∧ ms.length ≤ ns.length := by
  refine ⟨(ns.drop (HT.sIx (ns.map V.int).length 0 lo)).take (HT.sIx (ns.map V.int).length (ns.map V.int).length hi - HT.sIx (ns.map V.int).length 0 lo), ?_, ?_⟩
  · unfold cutV
    rw [List.map_take, List.map_drop]
  · rw [List.length_take, List.length_drop]
    omega
theorem rev_ints (ns : List Int) : (ns.map V.int).reverse = ns.reverse.map V.int := (List.map_reverse ..).symm
theorem same_data {d : PyData} (h : SeqAt.shaped d = true) : PyData.eqv d d = true := SeqAt.eqv_refl d (SeqAt.canLay_of_shaped h)
theorem str_ok (l : List Bool) : PyData.strOk (txt l) = true := by
  show (l.map code).toArray.all (· < 0x110000) = true
  rw [List.all_toArray, List.all_eq_true]
  intro c hc
  obtain ⟨b, _, rfl⟩ := List.mem_map.mp hc
  cases b <;> rfl
theorem sh_pair (x y : List Bool) : SeqAt.shaped (.tuple [.str (txt x), .str (txt y)]) = true := by
  show ((PyData.strOk (txt x) && (PyData.strOk (txt y) && true)) && decide (max 0 (max 0 0) + 1 ≤ 64)) = true
  rw [str_ok, str_ok]
  rfl
theorem sh_nil : SeqAt.shaped (.list []) = true := by decide +kernel
end Hr
/-! ### lists as data -/
namespace Hr
open PySem PySem.Spec PyProof.Rows L2
section
variable {K : PySem.W.Frag} {H : Hp}
theorem dp_ints : ∀ ns : List Int, DpAll K H (ns.map V.int) (ns.map PyData.int)
  | [] => .nil
  | n :: r => .cons (.int n) (dp_ints r)
theorem dp_strs : ∀ xs : List Str, DpAll K H (xs.map V.str) (xs.map PyData.str)
  | [] => .nil
  | x :: r => .cons (.str x) (dp_strs r)
end
theorem lay_ints : ∀ ns : List Int, PyData.canLayAll0 (ns.map PyData.int) = true
  | [] => rfl
  | n :: r => by
    show (true && PyData.canLayAll0 (r.map PyData.int)) = true
    rw [lay_ints r]
    rfl
theorem dep_ints : ∀ ns : List Int, PyData.depthAll (ns.map PyData.int) = 0
  | [] => rfl
  | n :: r => by
    show max 0 (PyData.depthAll (r.map PyData.int)) = 0
    rw [dep_ints r]
    rfl
theorem lay_txts : ∀ ls : List (List Bool), PyData.canLayAll0 ((ls.map txt).map PyData.str) = true
  | [] => rfl
  | l :: r => by
    show (PyData.strOk (txt l) && PyData.canLayAll0 ((r.map txt).map PyData.str)) = true
    rw [lay_txts r, Bool.and_true]
    show (l.map code).toArray.all (· < 0x110000) = true
    rw [List.all_toArray, List.all_eq_true]
    intro c hc
    obtain ⟨b, _, rfl⟩ := List.mem_map.mp hc
    cases b <;> rfl
theorem dep_strs : ∀ xs : List Str, PyData.depthAll (xs.map PyData.str) = 0
  | [] => rfl
  | n :: r => by
    show max 0 (PyData.depthAll (r.map PyData.str)) = 0
    rw [dep_strs r]
    rfl
theorem sh_ints (ns : List Int) : SeqAt.shaped (.list (ns.map PyData.int)) = true := by
  show (PyData.canLayAll0 (ns.map PyData.int) && decide (PyData.depthAll (ns.map PyData.int) + 1 ≤ 64)) = true
  rw [lay_ints, dep_ints]
  rfl
theorem sh_txts (ls : List (List Bool)) : SeqAt.shaped (.list ((ls.map txt).map PyData.str)) = true := by
  show (PyData.canLayAll0 ((ls.map txt).map PyData.str) && decide (PyData.depthAll ((ls.map txt).map PyData.str) + 1 ≤ 64)) = true
  rw [lay_txts, dep_strs]
  rfl
end Hr
namespace Hr
open PySem PySem.Spec PyProof.Rows L2
theorem scNumber : FnScope ["_law_script", "_law_k"] ["_law_script", "_law_k"] (defScope sNumber) := ⟨rfl, rfl, rfl, by decide +kernel, rfl, by decide +kernel, by decide +kernel⟩
section
variable {P : Program} {w : World} {K : PySem.W.Frag} {mg : Str → Option Value} {base : Heap}
def spNumber (K : PySem.W.Frag) : Sp := fun vs H Q _ => ∃ (a : Addr) (ns : List Int) (k : Nat), vs = [.ref a, .int (k : Int)] ∧ SqL K H a (ns.map V.int) ∧ Q (.int (mixed (ns.getD k 0) k)) H
theorem cal_number (D : Def K mg "_law_number" sNumber ["_law_script", "_law_k"]) (C : Cal K mg CX0 P w base 1 "_law_mixed" [] spMixed) (mlen : mg "len" = none) : Cal K mg CX0 P w base 2 "_law_number" [] (spNumber K) := by
  refine D.cal scNumber (fun vs H Q E h => ?_) (fun f cdv A outer s H vs Q E hr h => ?_)
  · obtain ⟨a, ns, k, rfl, _⟩ := h
    rfl
  · obtain ⟨a, ns, k, rfl, hS, q⟩ := h
    refine ⟨_, pss_one (ps_ret (pe_c C hr (pa_cons (pe_ifExp (pt_cmpR op_lt (pv 1) (pe_callB call_len_seq (by rfl) mlen PySem.boot_len (pa_cons (pv 0) pa_nil)) (nomark _)) (pe_ix ix_list (pv 0) (pv 1) (fun _ _ => rfl)) pe_int) (pa_cons (pv 1) pa_nil)))), ?_⟩
    refine ⟨.int (k : Int), rfl, .ref a, rfl, a, _, rfl, .inl hS, _, _, rfl, rfl, _, rfl, ite2 (fun e => ?_) (fun e => ?_)⟩
    · have hk : k < ns.length := by
        have := of_decide_eq_true e
        rw [List.length_map] at this
        omega
      refine ⟨.ref a, rfl, .int (k : Int), rfl, a, _, _, .int (ns.getD k 0), rfl, rfl, hS, atI_nat ?_, .int (k : Int), rfl, _, _, rfl, q⟩
      rw [List.getElem?_map, List.getElem?_eq_getElem hk, List.getD_eq_getElem?_getD, List.getElem?_eq_getElem hk]
      rfl
    · have hk : ns.length ≤ k := by
        have : ¬ (k : Int) < ((ns.map V.int).length : Int) := fun z => e (decide_eq_true z)
        rw [List.length_map] at this
        omega
      refine ⟨.int (k : Int), rfl, 0, (k : Int), rfl, ?_⟩
      rw [List.getD_eq_getElem?_getD, List.getElem?_eq_none hk] at q
      exact q
end
end Hr
/-! ### how often a sign stands in a text; a sign so many times -/
namespace Hr
open PySem PySem.Spec PyProof.Rows L2
open PySem.Builtin PySem.Builtin.Str in
theorem occ_run (x : Str) (c : Nat) : ∀ (m a : Nat) (acc : Array Nat) (free : Nat), a + m = x.length + 1 → free ≤ a → acc.size ≤ a →
    (forIn (List.range' a m) (acc, free) (StrLaws.occBody x ⟨#[c]⟩ x.length (x.length + 1))).run.fst.size = acc.size + ((x.cps.toList.drop a).filter fun k => k == c).length
  | 0, a, acc, free, e, _, _ => by
    have : x.cps.toList.drop a = [] := List.drop_eq_nil_of_le (by
      have : x.cps.toList.length = x.length := rfl
      omega)
    rw [this]
    rfl
  | m + 1, a, acc, free, e, hf, hs => by
    rw [List.range'_succ, List.forIn_cons]
    unfold StrLaws.occBody
    by_cases hc : x.cps.toList[a]? = some c
    · obtain ⟨h1, h2⟩ := (StrLaws.subAt_one x c a).mpr hc
      rw [if_pos ⟨⟨⟨(show acc.size < x.length + 1 by omega), hf⟩, h1⟩, h2⟩]
      have ih := occ_run x c m (a + 1) (acc.push a) (a + (⟨#[c]⟩ : Str).length) (by omega) (Nat.le_refl _) (by rw [Array.size_push]; omega)
      have hlt : a < x.cps.toList.length := (List.getElem?_eq_some_iff.mp hc).1
      rw [List.drop_eq_getElem_cons hlt, List.filter_cons_of_pos (by rw [(List.getElem?_eq_some_iff.mp hc).2]; simp), List.length_cons]
      rw [Array.size_push] at ih
      exact ih.trans (by omega)
    · rw [if_neg (fun z => hc ((StrLaws.subAt_one x c a).mp ⟨z.1.2, z.2⟩))]
      have ih := occ_run x c m (a + 1) acc free (by omega) (by omega) (by omega)
      have hd : ((x.cps.toList.drop a).filter fun k => k == c).length = ((x.cps.toList.drop (a + 1)).filter fun k => k == c).length := by
        by_cases hlt : a < x.cps.toList.length
        · rw [List.drop_eq_getElem_cons hlt, List.filter_cons_of_neg (by
            intro z
            have z : x.cps.toList[a] = c := by simpa using z
            exact hc (by rw [List.getElem?_eq_getElem hlt, z]))]
        · rw [List.drop_eq_nil_of_le (by omega), List.drop_eq_nil_of_le (by omega)]
      rw [hd]
      exact ih
theorem count_one (x : Str) (c : Nat) : Txt.count x ⟨#[c]⟩ = ((x.cps.toList.filter fun k => k == c).length : Nat) := by
  have h := occ_run x c (x.length + 1) 0 #[] 0 (by omega) (Nat.le_refl _) (Nat.le_refl _)
  show (((Builtin.Str.occurrences x ⟨#[c]⟩ 0 x.length (x.length + 1)).length : Nat) : Int) = _
  rw [StrLaws.occ_eq, Array.length_toList]
  rw [show x.length + 1 - 0 = x.length + 1 from rfl]
  have h2 : ((#[] : Array Nat).size + ((x.cps.toList.drop 0).filter fun k => k == c).length) = (x.cps.toList.filter fun k => k == c).length := by
    rw [List.drop_zero]
    exact Nat.zero_add _
  exact congrArg (fun n : Nat => (n : Int)) (h.trans h2)
theorem count_u (l : List Bool) : Txt.count (txt l) ("u" : Str) = ((l.filter id).length : Nat) := by
  rw [eU, count_one]
  show ((((l.map code).filter fun k => k == 117).length : Nat) : Int) = _
  rw [List.filter_map, List.length_map]
  congr 2
  refine List.filter_congr fun b _ => ?_
  cases b <;> rfl
theorem rep_txt (b : Bool) : ∀ k, (⟨(List.replicate k (sgn b).cps).foldl (· ++ ·) #[]⟩ : Str) = txt (List.replicate k b)
  | k => by
    have h : ∀ (k : Nat) (acc : Array Nat), (List.replicate k (sgn b).cps).foldl (· ++ ·) acc = acc ++ (List.replicate k (code b)).toArray := by
      intro k
      induction k with
      | zero => intro acc; simp
      | succ k ih =>
        intro acc
        rw [List.replicate_succ, List.foldl_cons, ih, List.replicate_succ]
        apply Array.ext'
        show (acc ++ #[code b] ++ (List.replicate k (code b)).toArray).toList = (acc ++ (code b :: List.replicate k (code b)).toArray).toList
        rw [Array.toList_append, Array.toList_append, Array.toList_append, List.append_assoc]
        rfl
    rw [h]
    unfold txt
    rw [List.map_replicate]
    simp
theorem op_mul_sgn {X : Cx} : OpR X (binaryOp .Mult) (fun x y H Q => ∃ (b : Bool) (k : Nat), x = .str (sgn b) ∧ y = .int (k : Int) ∧ k ≤ 1000 ∧ Q (.str (txt (List.replicate k b))) H) := by
  intro pins s σ H x y v u Q I rx ry h
  obtain ⟨b, k, rfl, rfl, hk, q⟩ := h
  obtain ⟨t, rfl⟩ := rx
  obtain ⟨t', rfl⟩ := ry
  have hz : ((sgn b).length : Int) = 1 := rfl
  refine PySem.P.mul_str ?_ (fun h1 _ => ?_) (fun h1 _ => ?_) ?_
  · rw [decide_eq_false (by omega), decide_eq_false (by omega)]
    rfl
  · rw [hz]
    have h3 : (1 : Int) ≤ (2 ^ 63 - 1) / (k : Int) := by
      refine (Int.le_ediv_iff_mul_le (by omega)).mpr ?_
      omega
    omega
  · rw [Int.toNat_natCast]
    show decide (sizeLine < 1 * k) = false
    exact decide_eq_false (by have := sz (show k ≤ 1000000 by omega); omega)
  · by_cases h1 : (k : Int) < 1
    · rw [if_pos h1]
      have e0 : k = 0 := by omega
      subst e0
      exact ⟨by decide, .str (txt []), H, I.tok _, ⟨_, rfl⟩, q⟩
    · rw [if_neg h1]
      by_cases h2 : ((k : Int) == 1 || (sgn b).length == 0) = true
      · rw [if_pos h2]
        have e1 : k = 1 := by
          have : (sgn b).length = 1 := rfl
          rw [this] at h2
          simp at h2
          omega
        subst e1
        exact ⟨.str (sgn b), H, I, ⟨_, rfl⟩, q⟩
      · rw [if_neg h2, Int.toNat_natCast, rep_txt]
        refine ⟨?_, .str (txt (List.replicate k b)), H, I.tok _, ⟨_, rfl⟩, q⟩
        rw [txt_len, List.length_replicate]
        exact sz (by omega)
end Hr
/-! ### the law's own hill row -/
namespace Hr
open PySem PySem.Spec PyProof.Rows L2
theorem scLRow : FnScope ["_law_script", "_law_ceiling", "_law_ups", "_law_row_here", "_law_height", "_law_k", "_law_mark"] ["_law_script", "_law_ceiling"] (defScope sLRow) := ⟨rfl, rfl, rfl, by decide +kernel, rfl, by decide +kernel, by decide +kernel⟩
theorem cut_map (ns : List Int) (lo hi : Option Int) : ∃ ms : List Int, cutV (ns.map V.int) lo hi = ms.map V.int := by
  unfold cutV
  exact ⟨_, by rw [← List.map_drop, ← List.map_take]⟩
theorem eqv_nil : ∀ ns : List Int, PyData.eqv (.list (ns.map PyData.int)) (.list []) = decide (ns = [])
  | [] => rfl
  | _ :: _ => rfl
/-- a ceiling that is not 0 -/
def cPos : Option Nat → Prop
  | none => True
  | some k => 1 ≤ k
section
variable {P : Program} {w : World} {K : PySem.W.Frag} {mg : Str → Option Value} {base : Heap}
def spLRow (K : PySem.W.Frag) : Sp := fun vs H Q _ => ∃ (a : Addr) (ns : List Int) (c : Option Nat), vs = [.ref a, cV c] ∧ SqL K H a (ns.map V.int) ∧ ns.length ≤ 63 ∧ cPos c ∧ ∀ H' l n, Same H H' → Hill c n l → n ≤ 60 → Q (.str (txt l)) H'
theorem cal_lrow (D : Def K mg "_law_row" sLRow ["_law_script", "_law_ceiling"]) (C : Cal K mg CX0 P w base 1 "_law_mixed" [] spMixed) (mlen : mg "len" = none) (mmin : mg "min" = none) (mmax : mg "max" = none) (msum : mg "sum" = none) (mrange : mg "range" = none) : Cal K mg CX0 P w base 2 "_law_row" [] (spLRow K) := by
  refine D.cal scLRow (fun vs H Q E h => ?_) (fun f cdv A outer s H vs Q E hr h => ?_)
  · obtain ⟨a, ns, c, rfl, _⟩ := h
    rfl
  · obtain ⟨a, ns, c, rfl, hS, hlen, hcp, q⟩ := h
    have nd := scLRow.nd
    refine ⟨_, pss_cons (ps_set (i := 2) nd rfl (.inl rfl) (pe_callB (call_min2 rfl) (by rfl) mmin boot_min (pa_cons pe_int (pa_cons (pe_callB (call_max2 rfl) (by rfl) mmax boot_max (pa_cons (pe_op op_fdiv (pe_callB call_len_seq (by rfl) mlen PySem.boot_len (pa_cons (pv 0) pa_nil)) pe_int)
        (pa_cons (pe_op op_mod (pe_op op_fdiv (pe_c C hr (pa_cons (pe_callB (cr_sum rfl) (by rfl) msum (by decide +kernel) (pa_cons (pe_slice sl_list (pv 0) po_none (po_some pe_int)) pa_nil)) (pa_cons (pe_callB call_len_seq (by rfl) mlen PySem.boot_len (pa_cons (pv 0) pa_nil)) pa_nil))) pe_int) pe_int) pa_nil))) pa_nil))))
      (pss_cons (ps_set (i := 3) nd rfl (.inl rfl) pe_str) (pss_cons (ps_set (i := 4) nd rfl (.inl rfl) pe_int)
      (pss_cons (ps_for PassesOwn.never rfl (pi_range1 (by rfl) mrange (pa_cons (pe_op op_mul pe_int (pv 2)) pa_nil)) (pg_name (i := 5) nd rfl (.inl rfl))
        (pss_cons (ps_set (i := 6) nd rfl (.inl rfl) (pe_c C hr (pa_cons (pe_ifExp (pt_cmpR (op_neD hr.units) (pv 0) (pe_lst pa_nil) (nomark _)) (pe_ix ix_list (pv 0) (pe_op op_mod (pv 5) (pe_callB call_len_seq (by rfl) mlen PySem.boot_len (pa_cons (pv 0) pa_nil))) (fun _ _ => rfl)) pe_int) (pa_cons (pv 5) pa_nil))))
        (pss_one (ps_if (PW.pt (pw_or (pt_cmpR op_eq (pv 4) pe_int (nomark _)) (pw_or1 (PW.pt (pw_and (pt_cmpR op_lt (pe_m1 PySem.F.slot_str_count PySem.F.type_str_count mt_count (pv 3) pe_str) (pv 2) (nomark _)) (pw_and (pt_cmpR op_ne (pv 4) (pv 1) (nomark _)) (pw_and1 (pt_cmpR op_gt (pe_op op_mod (pv 6) pe_int) pe_int (nomark _)))))))))
          (pss_cons (ps_set (i := 3) nd rfl (.inl rfl) (pe_op op_add_str (pv 3) pe_str)) (pss_one (ps_set (i := 4) nd rfl (.inl rfl) (pe_op op_add (pv 4) pe_int))))
          (pss_cons (ps_set (i := 3) nd rfl (.inl rfl) (pe_op op_add_str (pv 3) pe_str)) (pss_one (ps_set (i := 4) nd rfl (.inl rfl) (pe_op op_sub (pv 4) pe_int))))))))
      (pss_one (ps_ret (pv 3)))))), ?_⟩
    refine ⟨.ref a, rfl, a, _, rfl, .inl hS, _, 2, rfl, rfl, ⟨by decide, by decide⟩, ?_⟩
    refine ⟨.ref a, rfl, 2, rfl, a, ns.map V.int, rfl, hS, fun p1 n1 => ?_⟩
    obtain ⟨ms, ems⟩ := cut_map ns none (some 2)
    rw [ems]
    have s1 := same_upd (o := .lst (ms.map V.int)) n1
    have S2 : SqL K (upd H p1 (.lst (ms.map V.int))) p1 (ms.map V.int) := .inl (.inl upd_same)
    generalize upd H p1 (.lst (ms.map V.int)) = H1 at s1 S2 ⊢
    refine ⟨p1, ms, rfl, S2, .ref a, rfl, a, _, rfl, .inl (s1.seq hS), _, _, rfl, ?_⟩
    generalize hmx : mixed ms.sum _ = mx
    have hm0 : 0 ≤ mx := hmx ▸ mixed_nonneg _ _
    refine ⟨mx, 7, rfl, rfl, ⟨by decide, by decide⟩, mx / 7, 61, rfl, rfl, (by show (0 : Int) < 61; decide), _, _, rfl, _, _, rfl, ?_⟩
    obtain ⟨u, eu, hu⟩ : ∃ u : Nat, (if (if (mx / 7 % 61 : Int) > ((ns.map V.int).length : Int) / 2 then (mx / 7 % 61 : Int) else ((ns.map V.int).length : Int) / 2) < 60 then (if (mx / 7 % 61 : Int) > ((ns.map V.int).length : Int) / 2 then (mx / 7 % 61 : Int) else ((ns.map V.int).length : Int) / 2) else 60) = (u : Int) ∧ u ≤ 60 := by
      refine ⟨(if (if (mx / 7 % 61 : Int) > ((ns.map V.int).length : Int) / 2 then (mx / 7 % 61 : Int) else ((ns.map V.int).length : Int) / 2) < 60 then (if (mx / 7 % 61 : Int) > ((ns.map V.int).length : Int) / 2 then (mx / 7 % 61 : Int) else ((ns.map V.int).length : Int) / 2) else 60).toNat, ?_, ?_⟩ <;> split <;> split <;> omega
    show gName 2 (V.int (if (if (mx / 7 % 61 : Int) > ((ns.map V.int).length : Int) / 2 then (mx / 7 % 61 : Int) else ((ns.map V.int).length : Int) / 2) < 60 then (if (mx / 7 % 61 : Int) > ((ns.map V.int).length : Int) / 2 then (mx / 7 % 61 : Int) else ((ns.map V.int).length : Int) / 2) else 60)) _ _ _
    rw [eu]
    have hS1 := s1.seq hS
    refine ⟨_, rfl, 2, (u : Int), rfl, rfl, .inl ⟨by decide, by decide⟩, 2 * (u : Int), rfl, by omega, by omega, ?_⟩
    refine for_range (lo := 0) (n := 2 * u) (fun i σ H' => ∃ (z : Str) (hh : Int) (l : List Bool) (h : Nat) (y5 y6 : Option V), σ = [some (.ref a), some (cV c), some (.int (u : Int)), some (.str z), some (.int hh), y5, y6] ∧ Same H H' ∧
      z = txt l ∧ hh = (h : Int) ∧ l.length = i ∧ h + i = 2 * (l.filter id).length ∧ (l.filter id).length ≤ u ∧ (∀ k, c = some k → h ≤ k) ∧ ∀ r, okb c h r = okb c 0 (l ++ r)) ?_ ?_ ?_
    · exact ⟨_, _, [], 0, none, none, rfl, s1, eE, rfl, rfl, rfl, Nat.zero_le _, fun k _ => Nat.zero_le _, fun r => rfl⟩
    · rintro i σ H2 hi ⟨z, hh, l, h, y5, y6, rfl, s2, ez, eh, el, eu2, hu2, hc, ok⟩
      have hS2 := s2.seq hS
      have hz1 : z.length + 1 ≤ sizeLine := sz (by rw [ez, txt_len]; omega)
      -- the mark
      refine ⟨.ref a, rfl, Nat.zero_le _, fun p2 n2 => ?_⟩
      have s3 := same_upd (o := .lst []) n2
      have s2 := s2.trans s3
      have hS2 := s3.seq hS2
      have hE : SqL K (upd H2 p2 (.lst [])) p2 ([] : List V) := .inl (.inl upd_same)
      generalize upd H2 p2 (.lst []) = H3 at s2 hS2 hE ⊢
      refine ⟨.list (ns.map PyData.int), .list [], .lst hS2 (dp_ints ns), .lst hE .nil, sh_ints ns, sh_ints [], _, rfl, ?_⟩
      rw [eqv_nil]
      by_cases hns : ns = []
      · rw [decide_eq_true hns]
        refine iteF ?_
        refine ⟨_, rfl, _, _, rfl, ?_⟩
        generalize mixed 0 _ = mk
        refine ⟨_, rfl, rfl, _, rfl, ite2 (fun e0 => ?_) (fun e0 => ?_)⟩
        · have h0 : h = 0 := by
            have := V.int.inj (of_decide_eq_true e0)
            omega
          have un : ∀ k, c = some k → h < k := fun k hk => by
            rw [hk] at hcp
            have : 1 ≤ k := hcp
            omega
          have ub : under c h = true := by
            cases c with
            | none => rfl
            | some k => exact decide_eq_true (un k rfl)
          refine iteT ?_
          refine ⟨_, rfl, z, "u", rfl, rfl, hz1, ?_⟩
          refine ⟨_, rfl, hh, 1, rfl, rfl, ?_⟩
          exact ⟨_, _, l ++ [true], h + 1, _, _, rfl, s2, by rw [ez, ← txt_append, ← sgn_u]; rfl, by show hh + 1 = _; omega, by rw [List.length_append, el]; rfl, by rw [List.filter_append, List.length_append]; show _ = 2 * (_ + 1); omega, by rw [List.filter_append, List.length_append]; show _ + 1 ≤ u; omega, fun k hk => by have := un k hk; omega, fun r => by
            rw [List.append_assoc]
            show _ = okb c 0 (l ++ (true :: r))
            rw [← ok (true :: r)]
            show _ = (under c h && okb c (h + 1) r)
            rw [ub, Bool.true_and]⟩
        · have h0 : h ≠ 0 := fun zz => e0 (decide_eq_true (by rw [eh, zz]; rfl))
          refine ⟨.str z, rfl, ⟨_, rfl⟩, z, "u", rfl, rfl, .int (u : Int), rfl, _, _, rfl, rfl, _, rfl, ?_⟩
          rw [ez, count_u, ← ez]
          refine ite2 (fun e1 => ?_) (fun e1 => ?_)
          · have u1 : (l.filter id).length < u := by
              have := of_decide_eq_true e1
              omega
            refine ⟨.int hh, rfl, cV c, rfl, by cases c <;> rfl, _, rfl, ite2 (fun e2 => ?_) (fun e2 => ?_)⟩
            · have un : ∀ k, c = some k → h < k := fun k hk => by
                have h1 := hc k hk
                have h2 : ¬ (V.int hh = cV c) := by simpa using e2
                rw [hk] at h2
                have : ¬ hh = (k : Int) := fun zz => h2 (by rw [zz]; rfl)
                omega
              have ub : under c h = true := by
                cases c with
                | none => rfl
                | some k => exact decide_eq_true (un k rfl)
              refine ⟨_, rfl, mk, 5, rfl, rfl, (by show (0 : Int) < 5; decide), _, _, rfl, rfl, _, rfl, ite2 (fun e3 => ?_) (fun e3 => ?_)⟩
              · skip
                refine ⟨_, rfl, z, "u", rfl, rfl, hz1, ?_⟩
                refine ⟨_, rfl, hh, 1, rfl, rfl, ?_⟩
                exact ⟨_, _, l ++ [true], h + 1, _, _, rfl, s2, by rw [ez, ← txt_append, ← sgn_u]; rfl, by show hh + 1 = _; omega, by rw [List.length_append, el]; rfl, by rw [List.filter_append, List.length_append]; show _ = 2 * (_ + 1); omega, by rw [List.filter_append, List.length_append]; show _ + 1 ≤ u; omega, fun k hk => by have := un k hk; omega, fun r => by
                  rw [List.append_assoc]
                  show _ = okb c 0 (l ++ (true :: r))
                  rw [← ok (true :: r)]
                  show _ = (under c h && okb c (h + 1) r)
                  rw [ub, Bool.true_and]⟩
              · skip
                refine ⟨_, rfl, z, "d", rfl, rfl, hz1, ?_⟩
                refine ⟨_, rfl, hh, 1, rfl, rfl, ?_⟩
                exact ⟨_, _, l ++ [false], h - 1, _, _, rfl, s2, by rw [ez, ← txt_append, ← sgn_d]; rfl, by show hh - 1 = _; omega, by rw [List.length_append, el]; rfl, by rw [List.filter_append, List.length_append]; show _ = 2 * (_ + 0); omega, by rw [List.filter_append, List.length_append]; show _ + 0 ≤ u; omega, fun k hk => by have := hc k hk; omega, fun r => by
                  rw [List.append_assoc]
                  show _ = okb c 0 (l ++ (false :: r))
                  rw [← ok (false :: r)]
                  show _ = ((h != 0) && okb c (h - 1) r)
                  rw [show (h != 0) = true by simpa using h0, Bool.true_and]⟩
            · refine iteF ?_
              refine ⟨_, rfl, z, "d", rfl, rfl, hz1, ?_⟩
              refine ⟨_, rfl, hh, 1, rfl, rfl, ?_⟩
              exact ⟨_, _, l ++ [false], h - 1, _, _, rfl, s2, by rw [ez, ← txt_append, ← sgn_d]; rfl, by show hh - 1 = _; omega, by rw [List.length_append, el]; rfl, by rw [List.filter_append, List.length_append]; show _ = 2 * (_ + 0); omega, by rw [List.filter_append, List.length_append]; show _ + 0 ≤ u; omega, fun k hk => by have := hc k hk; omega, fun r => by
                rw [List.append_assoc]
                show _ = okb c 0 (l ++ (false :: r))
                rw [← ok (false :: r)]
                show _ = ((h != 0) && okb c (h - 1) r)
                rw [show (h != 0) = true by simpa using h0, Bool.true_and]⟩
          · refine iteF ?_
            refine ⟨_, rfl, z, "d", rfl, rfl, hz1, ?_⟩
            refine ⟨_, rfl, hh, 1, rfl, rfl, ?_⟩
            exact ⟨_, _, l ++ [false], h - 1, _, _, rfl, s2, by rw [ez, ← txt_append, ← sgn_d]; rfl, by show hh - 1 = _; omega, by rw [List.length_append, el]; rfl, by rw [List.filter_append, List.length_append]; show _ = 2 * (_ + 0); omega, by rw [List.filter_append, List.length_append]; show _ + 0 ≤ u; omega, fun k hk => by have := hc k hk; omega, fun r => by
              rw [List.append_assoc]
              show _ = okb c 0 (l ++ (false :: r))
              rw [← ok (false :: r)]
              show _ = ((h != 0) && okb c (h - 1) r)
              rw [show (h != 0) = true by simpa using h0, Bool.true_and]⟩
      · rw [decide_eq_false hns]
        refine iteT ?_
        have hpos : 0 < ns.length := List.length_pos_iff.mpr hns
        have hml : (ns.map V.int).length = ns.length := List.length_map ..
        obtain ⟨j, ej, hj⟩ : ∃ j : Nat, (0 + (i : Int)) % ((ns.map V.int).length : Int) = (j : Int) ∧ j < ns.length := by
          have h1 := Int.emod_nonneg (0 + (i : Int)) (show ((ns.map V.int).length : Int) ≠ 0 by omega)
          have h2 := Int.emod_lt_of_pos (0 + (i : Int)) (show 0 < ((ns.map V.int).length : Int) by omega)
          exact ⟨((0 + (i : Int)) % ((ns.map V.int).length : Int)).toNat, by omega, by omega⟩
        refine ⟨.ref a, rfl, _, rfl, .ref a, rfl, a, _, rfl, .inl hS2, _, _, rfl, rfl, (by show (0 : Int) < ((ns.map V.int).length : Int); omega), a, _, _, .int ns[j], rfl, rfl, hS2, at_of ej (by rw [List.getElem?_map, List.getElem?_eq_getElem hj]; rfl), ?_⟩
        refine ⟨_, rfl, _, _, rfl, ?_⟩
        generalize mixed ns[j] _ = mk
        refine ⟨_, rfl, rfl, _, rfl, ite2 (fun e0 => ?_) (fun e0 => ?_)⟩
        · have h0 : h = 0 := by
            have := V.int.inj (of_decide_eq_true e0)
            omega
          have un : ∀ k, c = some k → h < k := fun k hk => by
            rw [hk] at hcp
            have : 1 ≤ k := hcp
            omega
          have ub : under c h = true := by
            cases c with
            | none => rfl
            | some k => exact decide_eq_true (un k rfl)
          refine iteT ?_
          refine ⟨_, rfl, z, "u", rfl, rfl, hz1, ?_⟩
          refine ⟨_, rfl, hh, 1, rfl, rfl, ?_⟩
          exact ⟨_, _, l ++ [true], h + 1, _, _, rfl, s2, by rw [ez, ← txt_append, ← sgn_u]; rfl, by show hh + 1 = _; omega, by rw [List.length_append, el]; rfl, by rw [List.filter_append, List.length_append]; show _ = 2 * (_ + 1); omega, by rw [List.filter_append, List.length_append]; show _ + 1 ≤ u; omega, fun k hk => by have := un k hk; omega, fun r => by
            rw [List.append_assoc]
            show _ = okb c 0 (l ++ (true :: r))
            rw [← ok (true :: r)]
            show _ = (under c h && okb c (h + 1) r)
            rw [ub, Bool.true_and]⟩
        · have h0 : h ≠ 0 := fun zz => e0 (decide_eq_true (by rw [eh, zz]; rfl))
          refine ⟨.str z, rfl, ⟨_, rfl⟩, z, "u", rfl, rfl, .int (u : Int), rfl, _, _, rfl, rfl, _, rfl, ?_⟩
          rw [ez, count_u, ← ez]
          refine ite2 (fun e1 => ?_) (fun e1 => ?_)
          · have u1 : (l.filter id).length < u := by
              have := of_decide_eq_true e1
              omega
            refine ⟨.int hh, rfl, cV c, rfl, by cases c <;> rfl, _, rfl, ite2 (fun e2 => ?_) (fun e2 => ?_)⟩
            · have un : ∀ k, c = some k → h < k := fun k hk => by
                have h1 := hc k hk
                have h2 : ¬ (V.int hh = cV c) := by simpa using e2
                rw [hk] at h2
                have : ¬ hh = (k : Int) := fun zz => h2 (by rw [zz]; rfl)
                omega
              have ub : under c h = true := by
                cases c with
                | none => rfl
                | some k => exact decide_eq_true (un k rfl)
              refine ⟨_, rfl, mk, 5, rfl, rfl, (by show (0 : Int) < 5; decide), _, _, rfl, rfl, _, rfl, ite2 (fun e3 => ?_) (fun e3 => ?_)⟩
              · skip
                refine ⟨_, rfl, z, "u", rfl, rfl, hz1, ?_⟩
                refine ⟨_, rfl, hh, 1, rfl, rfl, ?_⟩
                exact ⟨_, _, l ++ [true], h + 1, _, _, rfl, s2, by rw [ez, ← txt_append, ← sgn_u]; rfl, by show hh + 1 = _; omega, by rw [List.length_append, el]; rfl, by rw [List.filter_append, List.length_append]; show _ = 2 * (_ + 1); omega, by rw [List.filter_append, List.length_append]; show _ + 1 ≤ u; omega, fun k hk => by have := un k hk; omega, fun r => by
                  rw [List.append_assoc]
                  show _ = okb c 0 (l ++ (true :: r))
                  rw [← ok (true :: r)]
                  show _ = (under c h && okb c (h + 1) r)
                  rw [ub, Bool.true_and]⟩
              · skip
                refine ⟨_, rfl, z, "d", rfl, rfl, hz1, ?_⟩
                refine ⟨_, rfl, hh, 1, rfl, rfl, ?_⟩
                exact ⟨_, _, l ++ [false], h - 1, _, _, rfl, s2, by rw [ez, ← txt_append, ← sgn_d]; rfl, by show hh - 1 = _; omega, by rw [List.length_append, el]; rfl, by rw [List.filter_append, List.length_append]; show _ = 2 * (_ + 0); omega, by rw [List.filter_append, List.length_append]; show _ + 0 ≤ u; omega, fun k hk => by have := hc k hk; omega, fun r => by
                  rw [List.append_assoc]
                  show _ = okb c 0 (l ++ (false :: r))
                  rw [← ok (false :: r)]
                  show _ = ((h != 0) && okb c (h - 1) r)
                  rw [show (h != 0) = true by simpa using h0, Bool.true_and]⟩
            · refine iteF ?_
              refine ⟨_, rfl, z, "d", rfl, rfl, hz1, ?_⟩
              refine ⟨_, rfl, hh, 1, rfl, rfl, ?_⟩
              exact ⟨_, _, l ++ [false], h - 1, _, _, rfl, s2, by rw [ez, ← txt_append, ← sgn_d]; rfl, by show hh - 1 = _; omega, by rw [List.length_append, el]; rfl, by rw [List.filter_append, List.length_append]; show _ = 2 * (_ + 0); omega, by rw [List.filter_append, List.length_append]; show _ + 0 ≤ u; omega, fun k hk => by have := hc k hk; omega, fun r => by
                rw [List.append_assoc]
                show _ = okb c 0 (l ++ (false :: r))
                rw [← ok (false :: r)]
                show _ = ((h != 0) && okb c (h - 1) r)
                rw [show (h != 0) = true by simpa using h0, Bool.true_and]⟩
          · refine iteF ?_
            refine ⟨_, rfl, z, "d", rfl, rfl, hz1, ?_⟩
            refine ⟨_, rfl, hh, 1, rfl, rfl, ?_⟩
            exact ⟨_, _, l ++ [false], h - 1, _, _, rfl, s2, by rw [ez, ← txt_append, ← sgn_d]; rfl, by show hh - 1 = _; omega, by rw [List.length_append, el]; rfl, by rw [List.filter_append, List.length_append]; show _ = 2 * (_ + 0); omega, by rw [List.filter_append, List.length_append]; show _ + 0 ≤ u; omega, fun k hk => by have := hc k hk; omega, fun r => by
              rw [List.append_assoc]
              show _ = okb c 0 (l ++ (false :: r))
              rw [← ok (false :: r)]
              show _ = ((h != 0) && okb c (h - 1) r)
              rw [show (h != 0) = true by simpa using h0, Bool.true_and]⟩
    · rintro σ H2 ⟨z, hh, l, h, y5, y6, rfl, s2, ez, eh, el, eu2, hu2, hc, ok⟩
      refine ⟨_, rfl, ?_⟩
      have h0 : h = 0 := by omega
      have := ok []
      rw [List.append_nil, h0] at this
      rw [ez]
      exact q H2 l u s2 ⟨this.symm, el⟩ hu
end
end Hr
/-! ### joined texts -/
namespace Hr
open PySem PySem.Spec PyProof.Rows L2
theorem join_txts (ls : List (List Bool)) : Txt.join ("" : Str) (ls.map txt) = txt ls.flatten := by
  have h := SX.join_S [] (ls.map fun l => l.map code)
  have e1 : (ls.map fun l => l.map code).map SX.S = ls.map txt := by
    rw [List.map_map]
    rfl
  rw [e1] at h
  have e2 : ∀ ls : List (List Bool), TL.joinL [] (ls.map fun l => l.map code) = ls.flatten.map code := by
    intro ls
    induction ls with
    | nil => rfl
    | cons l ls ih =>
      cases ls with
      | nil =>
        show l.map code = (l ++ []).map code
        rw [List.append_nil]
      | cons l2 ls =>
        show l.map code ++ ([] ++ TL.joinL [] ((l2 :: ls).map fun l => l.map code)) = _
        rw [ih, List.nil_append, ← List.map_append]
        rfl
  rw [e2] at h
  rw [eE]
  exact h
theorem sum_lens (ls : List (List Bool)) : ((ls.map txt).map (·.length)).sum = ls.flatten.length := by
  induction ls with
  | nil => rfl
  | cons l ls ih =>
    rw [List.map_cons, List.map_cons, List.sum_cons, ih, List.flatten_cons, List.length_append, txt_len]
theorem lens_le : ∀ (zs : List Str), (∀ z ∈ zs, z.length ≤ 1000) → (zs.map (·.length)).sum ≤ 1000 * zs.length
  | [], _ => Nat.le_refl _
  | z :: zs, h => by
    have := lens_le zs fun x hx => h x (List.mem_cons_of_mem _ hx)
    have := h z (List.mem_cons_self ..)
    rw [List.map_cons, List.sum_cons, List.length_cons]
    omega
theorem len_E : ("" : Str).length = 0 := by decide +kernel
end Hr
/-! ### lifted -/
namespace Hr
open PySem PySem.Spec PyProof.Rows L2
theorem scLifted : FnScope ["row", "times"] ["row", "times"] (defScope s_lifted) := ⟨rfl, rfl, rfl, by decide +kernel, rfl, by decide +kernel, by decide +kernel⟩
section
variable {P : Program} {w : World} {K : PySem.W.Frag} {mg : Str → Option Value} {base : Heap} {CN CC : Addr}
def spLiftedX (CN CC : Addr) : Sp := fun vs H Q E => ∃ (z : Str) (v : V), vs = [.str z, v] ∧ flatV v = true ∧ z.length ≤ 1000 ∧
  (hillB none z = true → ∀ k : Nat, v = .int (k : Int) → k ≤ 200 → ∀ H', Same H H' → Q (.str (txt (List.replicate k true) ++ z ++ txt (List.replicate k false))) H') ∧
  (hillB none z = false → ∀ H', Same H H' → E (.ref CN) none H') ∧ (hillB none z = true → numB v 200 = false → ∀ H', Same H H' → E (.ref CC) none H')
theorem cal_liftedX (D : DefV K mg "lifted" s_lifted ["row", "times"] (.int 1)) (C : Cal K mg (L2.CX P w) P w base 4 "check_hill" [.non] (spChHillX CN)) (C2 : Cal K mg (L2.CX P w) P w base 2 "check_number" [.int 0] (spChNumX CC)) {t0 t1 t2 : Tok} (gM : mg "MOST_TIMES" = some (.int 200 t0)) (c_UP : mg "UP" = some (.str "u" t1)) (c_DOWN : mg "DOWN" = some (.str "d" t2)) :
    Cal K mg (L2.CX P w) P w base 5 "lifted" [] (spLiftedX CN CC) ∧ Cal K mg (L2.CX P w) P w base 5 "lifted" [.int 1] (spLiftedX CN CC) := by
  refine D.okX scLifted (fun vs H Q E h => ?_) (fun f cdv A outer s H vs Q E hr h => ?_)
  · obtain ⟨z, v, rfl, _⟩ := h
    rfl
  · obtain ⟨z, v, rfl, hv, hz, q, qr, qc⟩ := h
    refine ⟨_, (pss_cons (ps_expr (pe_cX C hr (takes_of rfl rfl rfl rfl) (pa_cons (pv 0) pa_nil)))
    (pss_cons (ps_expr (pe_cX C2 hr (takes_of rfl rfl rfl rfl) (pa_cons (pv 1) (pa_cons (pe_glob (v := .int 200) (by rfl) gM ⟨_, rfl⟩) pa_nil))))
    (pss_one (ps_ret (pe_op op_add_str (pe_op op_add_str (pe_op op_mul_sgn (pe_glob (v := .str "u") (by rfl) c_UP ⟨_, rfl⟩) (pv 1)) (pv 0)) (pe_op op_mul_sgn (pe_glob (v := .str "d") (by rfl) c_DOWN ⟨_, rfl⟩) (pv 1))))))), ?_⟩
    refine ⟨.str z, rfl, z, none, rfl, hz, fun hh H1 s1 => ?_, fun hh => qr hh⟩
    refine ⟨v, rfl, v, 200, rfl, hv, .inl rfl, fun hn => ?_, fun hn => qc hh hn H1 s1⟩
    obtain ⟨k, rfl, hk⟩ := numB_of hn
    have hk : k ≤ 200 := by omega
    refine ⟨_, rfl, true, k, congrArg V.str eU, rfl, by omega, ?_⟩
    refine ⟨_, rfl, _, _, rfl, rfl, sz ?_, ?_⟩
    · rw [txt_len, List.length_replicate]
      omega
    refine ⟨_, rfl, false, k, congrArg V.str eD, rfl, by omega, _, _, rfl, rfl, sz ?_, q hh k rfl hk H1 s1⟩
    rw [PySem.Str.length_append, txt_len, txt_len, List.length_replicate, List.length_replicate]
    omega
end
end Hr
/-! ### parts and cut -/
namespace Hr
open PySem PySem.Spec PyProof.Rows L2
theorem scParts : FnScope ["row", "ends", "place", "height", "start", "end"] ["row"] (defScope s_parts) := ⟨rfl, rfl, rfl, by decide +kernel, rfl, by decide +kernel, by decide +kernel⟩
theorem scCut : FnScope ["row", "hills", "first"] ["row"] (defScope s_cut) := ⟨rfl, rfl, rfl, by decide +kernel, rfl, by decide +kernel, by decide +kernel⟩
/-- texts of rows as values -/
def rowsV (ls : List (List Bool)) : List V := ls.map fun l => V.str (txt l)
theorem rowsV_snoc (ls : List (List Bool)) (l : List Bool) : rowsV (ls ++ [l]) = rowsV ls ++ [.str (txt l)] := by
  unfold rowsV
  rw [List.map_append]
  rfl
theorem rowsV_strs (ls : List (List Bool)) : rowsV ls = (ls.map txt).map V.str := by
  unfold rowsV
  rw [List.map_map]
  rfl
def placesV (zs : List Nat) : List V := zs.map fun i : Nat => V.int (i : Int)
/-- the places of height 0 below n -/
def zeroB (l : List Bool) (n : Nat) : List Nat := (List.range n).filter fun i => decide (hgt l i = 0)
theorem zeroB_succ (l : List Bool) (n : Nat) : zeroB l (n + 1) = zeroB l n ++ (if hgt l n = 0 then [n] else []) := by
  unfold zeroB
  rw [List.range_succ, List.filter_append]
  congr 1
  by_cases h : hgt l n = 0
  · rw [if_pos h, List.filter_cons_of_pos (by simpa using h)]
    rfl
  · rw [if_neg h, List.filter_cons_of_neg (by simpa using h)]
    rfl
theorem zeroB_len (l : List Bool) (n : Nat) : (zeroB l n).length ≤ n := by
  unfold zeroB
  have := List.length_filter_le (fun i => decide (hgt l i = 0)) (List.range n)
  rw [List.length_range] at this
  exact this
theorem zeros_up (l : List Bool) : ∀ (n i a b : Nat), (zeroB l n)[i]? = some a → (zeroB l n)[i + 1]? = some b → a ≤ b ∧ b < n
  | 0, i, a, b, h, _ => by cases h
  | n + 1, i, a, b, h1, h2 => by
    have hb : b ∈ zeroB l (n + 1) := List.mem_of_getElem? h2
    have hb' : b < n + 1 := List.mem_range.mp (List.mem_filter.mp hb).1
    refine ⟨?_, hb'⟩
    have hp : (zeroB l (n + 1)).Pairwise (· < ·) := List.Pairwise.filter _ List.pairwise_lt_range
    obtain ⟨p1, e1⟩ := List.getElem?_eq_some_iff.mp h1
    obtain ⟨p2, e2⟩ := List.getElem?_eq_some_iff.mp h2
    have := List.pairwise_iff_getElem.mp hp i (i + 1) p1 p2 (by omega)
    rw [e1, e2] at this
    omega
section
variable {P : Program} {w : World} {K : PySem.W.Frag} {mg : Str → Option Value} {base : Heap} {CN : Addr}
/-- the hills of a row, or NoRow -/
def spPartsX (CN : Addr) : Sp := fun vs H Q E => ∃ z : Str, vs = [.str z] ∧ z.length ≤ 1000 ∧ (∀ g : Gv, z = txt g.row → ∀ H' p, Same H H' → H p = none → H' p = some (.lst (rowsV (hillsOf g))) → Q (.ref p) H') ∧ (hillB none z = false → ∀ H', Same H H' → E (.ref CN) none H')
theorem hill_grove {z : Str} (h : hillB none z = true) : ∃ g : Gv, z = txt g.row := by
  obtain ⟨h1, h2⟩ := Bool.and_eq_true_iff.mp h
  obtain ⟨g, hg⟩ := grove_row h2
  exact ⟨g, by rw [hg, txt_signs h1]⟩
theorem cal_partsX (D : Def K mg "parts" s_parts ["row"]) (C : Cal K mg (L2.CX P w) P w base 4 "check_hill" [.non] (spChHillX CN)) (C2 : Cal K mg (L2.CX P w) P w base 2 "heights" [] (spHeightsX CN)) (m_enumerate : mg "enumerate" = none) (m_zip : mg "zip" = none) : Cal K mg (L2.CX P w) P w base 5 "parts" [] (spPartsX CN) := by
  refine D.calX scParts (fun vs H Q E h => ?_) (fun f cdv A outer s H vs Q E hr h => ?_)
  · obtain ⟨z, rfl, _⟩ := h
    rfl
  · obtain ⟨z, rfl, hz, q, qe⟩ := h
    have nd := scParts.nd
    refine ⟨_, (pss_cons (ps_expr (pe_cX C hr (takes_of rfl rfl rfl rfl) (pa_cons (pv 0) pa_nil)))
    (pss_cons (ps_setLc (i := 1) (own := [("place", 2), ("height", 3)]) (g := gTup K 2 (gCons (gName 2) (gCons (gName 3) gNil))) rfl nd rfl rfl (sw_true rfl rfl rfl (by decide +kernel)) (pi_enum (by rfl) m_enumerate (pa_cons (pe_cX C2 hr (takes_of rfl rfl rfl rfl) (pa_cons (pv 0) pa_nil)) pa_nil)) (blkOk_by (N := ["row", "ends", "place", "height", "start", "end"]) (sc := defScope s_parts) (by decide +kernel)) (fun _ _ _ _ _ => (pg_tup rfl (pgs_cons (pg_name (i := 2) nd rfl (Or.inl rfl) (Or.inr rfl)) (pgs_cons (pg_name (i := 3) nd rfl (Or.inl rfl) (Or.inr rfl)) pgs_nil)))) (fun _ _ _ _ _ => pts_one (pt_cmpR op_eq (pv 3) pe_int (nomark _))) (fun _ _ _ _ _ => (pv 2)))
    (pss_one (ps_ret (pe_lc (own := [("start", 4), ("end", 5)]) (g := gTup K 2 (gCons (gName 4) (gCons (gName 5) gNil))) (tt := tYes) rfl nd (pi_zip (by rfl) m_zip (pa_cons (pv 1) (pa_cons (pe_slice sl_list (pv 1) (po_some pe_int) po_none) pa_nil))) (blkOk_by (N := ["row", "ends", "place", "height", "start", "end"]) (sc := defScope s_parts) (by decide +kernel)) (fun _ _ _ _ _ => (pg_tup rfl (pgs_cons (pg_name (i := 4) nd rfl (Or.inl rfl) (Or.inr rfl)) (pgs_cons (pg_name (i := 5) nd rfl (Or.inl rfl) (Or.inr rfl)) pgs_nil)))) (fun _ _ _ _ _ => pts_nil) (fun _ _ _ _ _ => (pe_slice sl_str (pv 0) (po_some (pv 4)) (po_some (pv 5))))))))), ?_⟩
    refine ⟨.str z, rfl, z, none, rfl, hz, fun hh H1 s1 => ?_, fun hh => qe hh⟩
    obtain ⟨g, rfl⟩ := hill_grove hh
    have q1 := q g rfl
    clear q
    have okl := g.row_hill
    have hsg := segs_zeros g
    have sgt : signs (txt g.row) = g.row := signs_txt _
    have rwb : isRowB (txt g.row) = true := isRowB_txt _
    rw [txt_len] at hz
    have hzl : (txt g.row).length = g.row.length := txt_len _
    generalize el : g.row = l at *
    refine ⟨.str (txt l), rfl, txt l, rfl, by rw [hzl]; exact hz, fun _ H2 p s2 np ep => ?_, fun e => absurd (rwb.symm.trans e) (by decide)⟩
    rw [sgt] at ep
    refine ⟨p, _, rfl, .inl (.inl ep), fun D nD => ?_⟩
    have s12 := s1.trans s2
    have hl0 : ((hts 0 l).map V.int).length = l.length + 1 := by rw [List.length_map, hts_len]
    have pD : p ≠ D := ne_of_none ep nD
    refine lc_it (walk_enum (K := K) (a := p) (xs := (hts 0 l).map V.int)) (fun i H' => Same H H' ∧ H' p = some (.lst ((hts 0 l).map V.int)) ∧ H' D = some (.lst (placesV (zeroB l i)))) ?_ ?_ ?_ ?_
    · refine ⟨same_updN s12 (s12.free nD), ?_, upd_same⟩
      rw [upd_ne pD]
      exact ep
    · rintro i H' _ ⟨_, ec, _⟩
      exact .inl (.inl ec)
    · rintro i x H3 H4 hi ⟨sm, ec, eD⟩ ⟨T, k0, v, rfl, nT, rfl, ek, ev⟩
      have ek : k0 = .int (i : Int) := (Option.some.inj ek).symm
      subst ek
      rw [hl0] at hi
      have ev : v = .int (hgt l i) := by
        have ev : ((hts 0 l).map V.int)[i]? = some v := ev
        rw [List.getElem?_map, hts_get l 0 i (by omega), Int.zero_add] at ev
        exact (Option.some.inj ev).symm
      subst ev
      have st := same_upd (o := .tup [.int (i : Int), .int (hgt l i)]) nT
      have nD0 : H D = none := s12.free nD
      have g1 := st _ _ ec
      have gD := st _ _ eD
      have sT := sm.trans st
      refine ⟨T, _, rfl, .inl (.inl upd_same), rfl, _, _, rfl, _, _, rfl, rfl, rfl, ?_⟩
      generalize upd H3 T (.tup [.int (i : Int), .int (hgt l i)]) = H5 at g1 gD sT ⊢
      refine ⟨_, rfl, rfl, _, rfl, ite2 (fun e => ?_) (fun e => ?_)⟩
      · have e0 : hgt l i = 0 := V.int.inj (of_decide_eq_true e)
        have hlen : (placesV (zeroB l i)).length < sizeLine := szl (by
          have := zeroB_len l i
          unfold placesV
          rw [List.length_map]
          omega)
        refine ⟨_, rfl, _, gD, hlen, same_updN sT nD0, by rw [upd_ne pD]; exact g1, ?_⟩
        rw [upd_same, zeroB_succ, if_pos e0]
        unfold placesV
        rw [List.map_append]
        rfl
      · have e0 : hgt l i ≠ 0 := fun z => e (decide_eq_true (by rw [z]))
        refine ⟨sT, g1, ?_⟩
        rw [gD, zeroB_succ, if_neg e0, List.append_nil]
    · rintro H3 ⟨sm, ec, eD⟩
      rw [hl0] at eD
      have ez : zeroB l (l.length + 1) = zeros l := rfl
      rw [ez] at eD
      have nzl := zeroB_len l (l.length + 1)
      rw [ez] at nzl
      refine ⟨_, rfl, _, rfl, 1, rfl, D, _, rfl, .inl (.inl eD), fun p2 np2 => ?_⟩
      have cutD : cutV (placesV (zeros l)) (some 1) none = placesV ((zeros l).drop 1) := by
        unfold cutV placesV
        rw [show (1 : Int) = ((1 : Nat) : Int) from rfl, HT.sIx_nat, List.length_map, HT.sIx_none]
        by_cases h1 : 1 ≤ (zeros l).length
        · rw [Nat.min_eq_left h1, List.take_of_length_le (by rw [List.length_drop, List.length_map]; exact Nat.le_refl _), List.map_drop]
        · have : zeros l = [] := List.eq_nil_of_length_eq_zero (by omega)
          rw [this]
          rfl
      rw [cutD]
      have s3 := sm.trans (same_upd (o := .lst (placesV ((zeros l).drop 1))) np2)
      have n2 : D ≠ p2 := ne_of_none eD np2
      have gD : (upd H3 p2 (.lst (placesV ((zeros l).drop 1)))) D = some (.lst (placesV (zeros l))) := by
        rw [upd_ne n2]
        exact eD
      have g2 : (upd H3 p2 (.lst (placesV ((zeros l).drop 1)))) p2 = some (.lst (placesV ((zeros l).drop 1))) := upd_same
      generalize upd H3 p2 (.lst (placesV ((zeros l).drop 1))) = H4 at s3 gD g2 ⊢
      refine ⟨D, p2, _, _, rfl, .inl (.inl gD), .inl (.inl g2), fun D2 nD2 => ?_⟩
      have d1 : D ≠ D2 := ne_of_none gD nD2
      have d2 : p2 ≠ D2 := ne_of_none g2 nD2
      have hn : (zeros l).length - 1 = min (placesV (zeros l)).length (placesV ((zeros l).drop 1)).length := by
        unfold placesV
        rw [List.length_map, List.length_map, List.length_drop]
        omega
      refine lc_it (walk_zip (K := K) (a := D) (b := p2) (xs := placesV (zeros l)) (ys := placesV ((zeros l).drop 1)) (n := (zeros l).length - 1) hn) (fun i H' => Same H H' ∧ H' D = some (.lst (placesV (zeros l))) ∧ H' p2 = some (.lst (placesV ((zeros l).drop 1))) ∧ H' D2 = some (.lst (rowsV ((segs l (zeros l)).take i)))) ?_ ?_ ?_ ?_
      · refine ⟨same_updN s3 (s3.free nD2), ?_, ?_, upd_same⟩
        · rw [upd_ne d1]
          exact gD
        · rw [upd_ne d2]
          exact g2
      · rintro i H' _ ⟨_, h1, h2, _⟩
        exact ⟨.inl (.inl h1), .inl (.inl h2)⟩
      · rintro i x H5 H6 hi ⟨sm5, h1, h2, hD⟩ ⟨T, u, v, rfl, nT, rfl, eu, ev⟩
        have hi1 : i < (zeros l).length := by omega
        have hi2 : i + 1 < (zeros l).length := by omega
        have z1 : (zeros l)[i]? = some (zeros l)[i] := List.getElem?_eq_getElem hi1
        have z2 : (zeros l)[i + 1]? = some (zeros l)[i + 1] := List.getElem?_eq_getElem hi2
        generalize (zeros l)[i] = a at z1
        generalize (zeros l)[i + 1] = b at z2
        have eu : u = .int (a : Int) := by
          have : (placesV (zeros l))[i]? = some u := eu
          unfold placesV at this
          rw [List.getElem?_map, z1] at this
          exact (Option.some.inj this).symm
        have ev : v = .int (b : Int) := by
          have : (placesV ((zeros l).drop 1))[i]? = some v := ev
          unfold placesV at this
          rw [List.getElem?_map, List.getElem?_drop, Nat.add_comm, z2] at this
          exact (Option.some.inj this).symm
        subst eu ev
        have hab : a ≤ b ∧ b < l.length + 1 := zeros_up l (l.length + 1) i a b z1 z2
        have st := same_upd (o := .tup [.int (a : Int), .int (b : Int)]) nT
        have g1' := st _ _ h1
        have g2' := st _ _ h2
        have gD' := st _ _ hD
        have sT := sm5.trans st
        refine ⟨T, _, rfl, .inl (.inl upd_same), rfl, _, _, rfl, _, _, rfl, rfl, rfl, ?_⟩
        generalize upd H5 T (.tup [.int (a : Int), .int (b : Int)]) = H7 at g1' g2' gD' sT ⊢
        unfold tYes
        refine iteT ?_
        refine ⟨_, rfl, _, rfl, _, rfl, _, rfl, _, rfl, txt l, rfl, sz (by rw [hzl]; omega), _, gD', ?_, ?_⟩
        · unfold rowsV
          rw [List.length_map, List.length_take, segs_len]
          exact szl (by omega)
        · refine ⟨same_updN sT (s3.free nD2), by rw [upd_ne d1]; exact g1', by rw [upd_ne d2]; exact g2', ?_⟩
          rw [upd_same, take_snoc (segs_get l (zeros l) i a b z1 z2), rowsV_snoc, cutS_mid hab.1 (by omega)]
      · rintro H5 ⟨sm5, h1, h2, hD⟩
        rw [List.take_of_length_le (by rw [segs_len]; exact Nat.le_refl _), hsg] at hD
        exact q1 H5 D2 sm5 (s3.free nD2) hD
/-- the first hill's inside and what is behind -/
def spCutX (CN : Addr) : Sp := fun vs H Q E => ∃ z : Str, vs = [.str z] ∧ z.length ≤ 1000 ∧ (∀ a b : Gv, z = txt (Gv.tree a b).row → ∀ H' p, Same H H' → H p = none → H' p = some (.tup [.str (txt a.row), .str (txt b.row)]) → Q (.ref p) H') ∧ ((z = txt [] ∨ hillB none z = false) → ∀ H', Same H H' → E (.ref CN) none H')
theorem tree_row (a b : Gv) : (Gv.tree a b).row = (true :: (a.row ++ [false])) ++ b.row := by
  show true :: (a.row ++ false :: b.row) = _
  rw [List.cons_append, List.append_assoc]
  rfl
theorem cal_cutX (er : Err K mg "NoRow" CN) (D : Def K mg "cut" s_cut ["row"]) (C : Cal K mg (L2.CX P w) P w base 5 "parts" [] (spPartsX CN)) (m_len : mg "len" = none) : Cal K mg (L2.CX P w) P w base 6 "cut" [] (spCutX CN) := by
  refine D.calX scCut (fun vs H Q E h => ?_) (fun f cdv A outer s H vs Q E hr h => ?_)
  · obtain ⟨z, rfl, _⟩ := h
    rfl
  · obtain ⟨z, rfl, hz, q, qe⟩ := h
    have nd := scCut.nd
    refine ⟨_, (pss_cons (ps_set (i := 1) nd rfl (.inl rfl) (pe_cX C hr (takes_of rfl rfl rfl rfl) (pa_cons (pv 0) pa_nil)))
    (pss_cons (ps_if (pt_not (pt_truth (pv 1) (by intro _; rfl))) (pss_one (ps_raise rfl (takes_of rfl rfl rfl rfl) (pmk_own PySem.F.excBase_ValueError er.x er.g er.k (raises_own er.b er.t) rfl))) pss_nil)
    (pss_cons (ps_set (i := 2) nd rfl (.inl rfl) (pe_ix ix_list (pv 1) pe_int (fun _ _ => rfl)))
    (pss_one (ps_ret (pe_tup (pa_cons (pe_slice sl_str (pv 2) (po_some pe_int) (po_some (pe_un un_neg pe_int))) (pa_cons (pe_slice sl_str (pv 0) (po_some (pe_callB call_len_str (by rfl) m_len PySem.boot_len (pa_cons (pv 2) pa_nil))) po_none) pa_nil)))))))), ?_⟩
    refine ⟨.str z, rfl, z, rfl, hz, fun g hg H1 p s1 np ep => ?_, fun hh => qe (.inr hh)⟩
    subst hg
    refine ⟨_, rfl, (!(rowsV (hillsOf g)).isEmpty), .inl ⟨_, .inl (.inl ep), rfl⟩, ?_⟩
    cases g with
    | no =>
      refine iteT ?_
      exact qe (.inl rfl) H1 s1
    | tree a b =>
      refine iteF ?_
      have hl : (txt (Gv.tree a b).row).length = a.row.length + 2 + b.row.length := by
        rw [txt_len, tree_row, List.length_append, List.length_cons, List.length_append]
        rfl
      have hf : (txt (true :: (a.row ++ [false]))).length = a.row.length + 2 := by
        rw [txt_len, List.length_cons, List.length_append]
        rfl
      refine ⟨_, rfl, p, _, _, .str (txt (true :: (a.row ++ [false]))), rfl, rfl, .inl (.inl ep), at_of (j := 0) rfl rfl, ?_⟩
      refine ⟨_, rfl, 1, rfl, 1, rfl, _, rfl, txt (true :: (a.row ++ [false])), rfl, sz (by omega), ?_⟩
      refine ⟨_, rfl, _, rfl, txt (true :: (a.row ++ [false])), rfl, sz (by omega), _, rfl, txt (Gv.tree a b).row, rfl, sz (by omega), ?_⟩
      refine ⟨sz (show 2 ≤ 1000000 by decide), fun t nt => ?_⟩
      refine q a b rfl _ t (s1.trans (same_upd nt)) (s1.free nt) ?_
      rw [upd_same]
      congr 2
      have e1 : cutS (txt (true :: (a.row ++ [false]))) (some 1) (some (-1)) = txt a.row := cutS_in _ _ _
      have e2 : cutS (txt (Gv.tree a b).row) (some ((txt (true :: (a.row ++ [false]))).length : Int)) none = txt b.row := by
        rw [txt_len, cutS_from (by rw [tree_row, List.length_append]; omega), tree_row, List.drop_left']
        rfl
      show [V.str (cutS (txt (true :: (a.row ++ [false]))) (some 1) (some (-1))), V.str (cutS (txt (Gv.tree a b).row) (some ((txt (true :: (a.row ++ [false]))).length : Int)) none)] = _
      rw [e1, e2]
end
end Hr
/-! ### which error it is -/
namespace Hr
open PySem PySem.Spec PyProof.Rows L2
section
variable {X : Cx}
/-- a call in a try's body -/
theorem pe_cT {k j : Nat} {x : Str} {sp : Sp} {W : WX} {e : Expr} {es : List Expr} {t : TA} {p pos : Pos} (c : Cal X.K X.mg (L2.CX X.prog X.w) X.prog X.w X.base k x [] sp) (hr : Room j X.A) (tk : Takes X W) (ha : PA X (e :: es) t) (hk : k ≤ j := by decide) (hg : Gl X x := by rfl)
    (hdb : (x == ("__debug__" : Str)) = false := by decide) (he : starEach (e :: es) X.env = (false, eval e X.env) :: starEach es X.env := by rfl) (hpl : (backTo pos (starEach es X.env)).any (·.1) = false := by rfl) :
    PE X (.Call (.Name x p) (e :: es) [] pos) (tCallS sp (WE W) t) := by
  obtain ⟨f, fd, ps, ds, F, hm, kp, b, d⟩ := c.ex
  cases d
  exact pe_callS F (hr.mono hk) hg hm kp b (fun σ => passAt tk σ) ha hdb he hpl
end
def errWords : List Str := ["row", "count", "rank", "place", "tree", "pairs", "turn", "text"]
def wordAt (k : Nat) : Str := errWords.getD k ""
theorem errWords_at {i : Nat} (h : i < 8) : (errWords.map V.str)[i]? = some (.str (wordAt i)) := by
  have h' : i < errWords.length := h
  unfold wordAt
  rw [List.getElem?_map, List.getElem?_eq_getElem h', List.getD_eq_getElem?_getD, List.getElem?_eq_getElem h']
  rfl
def flagsOf (k : Nat) : List V := (List.range 8).map fun j => V.bl (decide (j = k))
theorem flags_at {i k : Nat} (h : i < 8) : (flagsOf k)[i]? = some (.bl (decide (i = k))) := by
  unfold flagsOf
  rw [List.getElem?_map, List.getElem?_range h]
  rfl
theorem join_one (y w : Str) : Txt.join y [w] = w := by
  rw [TL.join_eq]
  rfl
/-- an error of the k-th class among the eight at cs -/
structure IsErr (K : PySem.W.Frag) (cs : Nat → Addr) (k : Nat) : Prop where
  lt : k < 8
  c : ExcC K (cs k)
  kit : ∀ j, j < 8 → PySem.W.kitOne K (.ref (cs k)) (.ref (cs j)) = some (decide (j = k))
  ve : PySem.W.kitOne K (.ref (cs k)) (.type "ValueError") = some true
theorem ref_only {C : Addr} : ∀ u, RelV (.ref C) u → u = Value.ref C := fun _ h => h
theorem scWord : FnScope ["_law_error", "_law_words", "_law_one", "_law_other", "_law_flags", "_law_word_here", "_law_flag"] ["_law_error"] (defScope sWord) := ⟨rfl, rfl, rfl, by decide +kernel, rfl, by decide +kernel, by decide +kernel⟩
section
variable {P : Program} {w : World} {K : PySem.W.Frag} {mg : Str → Option Value} {base : Heap} {cs : Nat → Addr}
def spWord (K : PySem.W.Frag) (cs : Nat → Addr) : Sp := fun vs H Q _ => ∃ (a : Addr) (k : Nat), vs = [.ref a] ∧ H a = some (ExT (.ref (cs k)) none a) ∧ IsErr K cs k ∧ ∀ H', Same H H' → Q (.str (wordAt k)) H'
/-- nothing was refused -/
def spWordN : Sp := fun vs H Q _ => vs = [.non] ∧ ∀ H', Same H H' → Q (.str "") H'
theorem word_ok {f : Addr} {fd : FuncData} (F : Fun K "_law_word" "_law_word" sWord f fd) (g0 : mg "NoRow" = some (.ref (cs 0))) (g1 : mg "NoCount" = some (.ref (cs 1))) (g2 : mg "NoRank" = some (.ref (cs 2))) (g3 : mg "NoPlace" = some (.ref (cs 3)))
    (g4 : mg "NoTree" = some (.ref (cs 4))) (g5 : mg "NoPairs" = some (.ref (cs 5))) (g6 : mg "NoTurn" = some (.ref (cs 6))) (g7 : mg "NoText" = some (.ref (cs 7))) (misi : mg "isinstance" = none) (mzip : mg "zip" = none) : FnOk P w K mg base CX0 1 f fd ["_law_error"] (spWord K cs) := by
  refine F.ok scWord (fun vs H Q E h => ?_) (fun cdv A outer s H vs Q E hr h => ?_)
  · obtain ⟨a, k, rfl, _⟩ := h
    rfl
  · obtain ⟨a, k, rfl, ea, er, q⟩ := h
    have nd := scWord.nd
    refine ⟨_, (pss_cons (ps_set (i := 1) nd rfl (.inl rfl) (pe_lst (pa_cons pe_str (pa_cons pe_str (pa_cons pe_str (pa_cons pe_str (pa_cons pe_str (pa_cons pe_str (pa_cons pe_str (pa_cons pe_str pa_nil))))))))))
    (pss_cons (ps_set (i := 2) nd rfl (.inl rfl) (pe_lst (pa_cons (pe_callB call_isT (by rfl) misi (by decide +kernel) (pa_cons (pv 0) (pa_cons (pe_glob (v := .ref (cs 0)) (by rfl) g0 rfl) pa_nil)))
      (pa_cons (pe_callB call_isT (by rfl) misi (by decide +kernel) (pa_cons (pv 0) (pa_cons (pe_glob (v := .ref (cs 1)) (by rfl) g1 rfl) pa_nil)))
      (pa_cons (pe_callB call_isT (by rfl) misi (by decide +kernel) (pa_cons (pv 0) (pa_cons (pe_glob (v := .ref (cs 2)) (by rfl) g2 rfl) pa_nil)))
      (pa_cons (pe_callB call_isT (by rfl) misi (by decide +kernel) (pa_cons (pv 0) (pa_cons (pe_glob (v := .ref (cs 3)) (by rfl) g3 rfl) pa_nil))) pa_nil))))))
    (pss_cons (ps_set (i := 3) nd rfl (.inl rfl) (pe_lst (pa_cons (pe_callB call_isT (by rfl) misi (by decide +kernel) (pa_cons (pv 0) (pa_cons (pe_glob (v := .ref (cs 4)) (by rfl) g4 rfl) pa_nil)))
      (pa_cons (pe_callB call_isT (by rfl) misi (by decide +kernel) (pa_cons (pv 0) (pa_cons (pe_glob (v := .ref (cs 5)) (by rfl) g5 rfl) pa_nil)))
      (pa_cons (pe_callB call_isT (by rfl) misi (by decide +kernel) (pa_cons (pv 0) (pa_cons (pe_glob (v := .ref (cs 6)) (by rfl) g6 rfl) pa_nil))) pa_nil)))))
    (pss_cons (ps_set (i := 4) nd rfl (.inl rfl) (pe_op op_cat (pe_op op_cat (pv 2) (pv 3)) (pe_lst (pa_cons (pe_callB call_isT (by rfl) misi (by decide +kernel) (pa_cons (pv 0) (pa_cons (pe_glob (v := .ref (cs 7)) (by rfl) g7 rfl) pa_nil))) pa_nil))))
    (pss_one (ps_ret (pe_join pe_str (pe_lc (own := [("_law_word_here", 5), ("_law_flag", 6)]) (g := gTup K 2 (gCons (gName 5) (gCons (gName 6) gNil))) rfl nd (pi_zip (by rfl) mzip (pa_cons (pv 1) (pa_cons (pv 4) pa_nil)))
      (blkOk_by (N := ["_law_error", "_law_words", "_law_one", "_law_other", "_law_flags", "_law_word_here", "_law_flag"]) (sc := defScope sWord) (by decide +kernel))
      (fun _ _ _ _ _ => (pg_tup rfl (pgs_cons (pg_name (i := 5) nd rfl (Or.inl rfl) (Or.inr rfl)) (pgs_cons (pg_name (i := 6) nd rfl (Or.inl rfl) (Or.inr rfl)) pgs_nil)))) (fun _ _ _ _ _ => pts_one (pt_val (pv 6))) (fun _ _ _ _ _ => (pv 5)))))))))), ?_⟩
    have S8 : ∀ {n : Nat}, n ≤ 100 → n ≤ sizeLine := fun h => sz (by omega)
    refine ⟨S8 (show 8 ≤ 100 by decide), fun p1 n1 => ?_⟩
    have s1 := same_upd (o := .lst (errWords.map V.str)) n1
    refine ⟨.ref a, rfl, a, cs k, _, _, _, rfl, s1 _ _ ea, er.c, ref_only, er.kit 0 (by decide), .ref a, rfl, a, cs k, _, _, _, rfl, s1 _ _ ea, er.c, ref_only, er.kit 1 (by decide), .ref a, rfl, a, cs k, _, _, _, rfl, s1 _ _ ea, er.c, ref_only, er.kit 2 (by decide), .ref a, rfl, a, cs k, _, _, _, rfl, s1 _ _ ea, er.c, ref_only, er.kit 3 (by decide), S8 (show 4 ≤ 100 by decide), fun p2 n2 => ?_⟩
    have e12 : p1 ≠ p2 := ne_of_none upd_same n2
    have s2 := s1.trans (same_upd (o := .lst [.bl (decide (0 = k)), .bl (decide (1 = k)), .bl (decide (2 = k)), .bl (decide (3 = k))]) n2)
    refine ⟨.ref a, rfl, a, cs k, _, _, _, rfl, s2 _ _ ea, er.c, ref_only, er.kit 4 (by decide), .ref a, rfl, a, cs k, _, _, _, rfl, s2 _ _ ea, er.c, ref_only, er.kit 5 (by decide), .ref a, rfl, a, cs k, _, _, _, rfl, s2 _ _ ea, er.c, ref_only, er.kit 6 (by decide), S8 (show 3 ≤ 100 by decide), fun p3 n3 => ?_⟩
    have e23 : p2 ≠ p3 := ne_of_none upd_same n3
    have e13 : p1 ≠ p3 := ne_of_none (by rw [upd_ne e12]; exact upd_same) n3
    have s3 := s2.trans (same_upd (o := .lst [.bl (decide (4 = k)), .bl (decide (5 = k)), .bl (decide (6 = k))]) n3)
    refine ⟨.ref p2, rfl, .ref p3, rfl, p2, p3, _, _, rfl, rfl, (upd_ne e23).trans upd_same, upd_same, S8 (show 7 ≤ 100 by decide), fun p4 n4 => ?_⟩
    have e14 : p1 ≠ p4 := ne_of_none (by rw [upd_ne e13, upd_ne e12]; exact upd_same) n4
    have s4 := s3.trans (same_upd (o := .lst ([.bl (decide (0 = k)), .bl (decide (1 = k)), .bl (decide (2 = k)), .bl (decide (3 = k))] ++ [.bl (decide (4 = k)), .bl (decide (5 = k)), .bl (decide (6 = k))])) n4)
    refine ⟨.ref a, rfl, a, cs k, _, _, _, rfl, s4 _ _ ea, er.c, ref_only, er.kit 7 (by decide), S8 (show 1 ≤ 100 by decide), fun p5 n5 => ?_⟩
    have e15 : p1 ≠ p5 := ne_of_none (by rw [upd_ne e14, upd_ne e13, upd_ne e12]; exact upd_same) n5
    have e45 : p4 ≠ p5 := ne_of_none upd_same n5
    have s5 := s4.trans (same_upd (o := .lst [.bl (decide (7 = k))]) n5)
    refine ⟨p4, p5, _, _, rfl, rfl, (upd_ne e45).trans upd_same, upd_same, S8 (show 8 ≤ 100 by decide), fun p6 n6 => ?_⟩
    have s6 := s5.trans (same_upd (o := .lst (flagsOf k)) n6)
    have e16 : p1 ≠ p6 := ne_of_none (by rw [upd_ne e15, upd_ne e14, upd_ne e13, upd_ne e12]; exact upd_same) n6
    have w6 : ∀ o, upd (upd (upd (upd (upd (upd H p1 (.lst (errWords.map V.str))) p2 (.lst [.bl (decide (0 = k)), .bl (decide (1 = k)), .bl (decide (2 = k)), .bl (decide (3 = k))])) p3 (.lst [.bl (decide (4 = k)), .bl (decide (5 = k)), .bl (decide (6 = k))]))
        p4 (.lst ([.bl (decide (0 = k)), .bl (decide (1 = k)), .bl (decide (2 = k)), .bl (decide (3 = k))] ++ [.bl (decide (4 = k)), .bl (decide (5 = k)), .bl (decide (6 = k))]))) p5 (.lst [.bl (decide (7 = k))])) p6 o p1 = some (.lst (errWords.map V.str)) := fun o => by
      rw [upd_ne e16, upd_ne e15, upd_ne e14, upd_ne e13, upd_ne e12]
      exact upd_same
    refine ⟨⟨_, rfl⟩, .ref p1, rfl, .ref p6, rfl, p1, p6, errWords.map V.str, flagsOf k, rfl, .inl (.inl (w6 _)), .inl (.inl upd_same), fun D nD => ?_⟩
    have w6 := w6 (.lst (flagsOf k))
    have s6 : Same H (upd (upd (upd (upd (upd (upd H p1 (.lst (errWords.map V.str))) p2 (.lst [.bl (decide (0 = k)), .bl (decide (1 = k)), .bl (decide (2 = k)), .bl (decide (3 = k))])) p3 (.lst [.bl (decide (4 = k)), .bl (decide (5 = k)), .bl (decide (6 = k))]))
        p4 (.lst ([.bl (decide (0 = k)), .bl (decide (1 = k)), .bl (decide (2 = k)), .bl (decide (3 = k))] ++ [.bl (decide (4 = k)), .bl (decide (5 = k)), .bl (decide (6 = k))]))) p5 (.lst [.bl (decide (7 = k))])) p6 (.lst (flagsOf k))) := s6
    have f6 : upd (upd (upd (upd (upd (upd H p1 (.lst (errWords.map V.str))) p2 (.lst [.bl (decide (0 = k)), .bl (decide (1 = k)), .bl (decide (2 = k)), .bl (decide (3 = k))])) p3 (.lst [.bl (decide (4 = k)), .bl (decide (5 = k)), .bl (decide (6 = k))]))
        p4 (.lst ([.bl (decide (0 = k)), .bl (decide (1 = k)), .bl (decide (2 = k)), .bl (decide (3 = k))] ++ [.bl (decide (4 = k)), .bl (decide (5 = k)), .bl (decide (6 = k))]))) p5 (.lst [.bl (decide (7 = k))])) p6 (.lst (flagsOf k)) p6 = some (.lst (flagsOf k)) := upd_same
    refine lc_it (walk_zip (K := K) (a := p1) (b := p6) (xs := errWords.map V.str) (ys := flagsOf k) (n := 8) rfl) (fun i H' => Same H H' ∧ H' p1 = some (.lst (errWords.map V.str)) ∧ H' p6 = some (.lst (flagsOf k)) ∧ H' D = some (.lst (if k < i then [V.str (wordAt k)] else []))) ?_ ?_ ?_ ?_
    · have nD' := nD
      refine ⟨same_updN s6 (s6.free nD), ?_, ?_, ?_⟩
      · rw [upd_ne (ne_of_none w6 nD)]
        exact w6
      · rw [upd_ne (ne_of_none f6 nD)]
        exact f6
      · rw [upd_same, if_neg (Nat.not_lt_zero _)]
    · rintro i H' _ ⟨_, h1, h2, _⟩
      exact ⟨.inl (.inl h1), .inl (.inl h2)⟩
    · rintro i x H1 H2 hi ⟨sm, h1, h2, hD⟩ ⟨T, u, v, rfl, nT, rfl, eu, ev⟩
      have eu : u = .str (wordAt i) := by
        have : (errWords.map V.str)[i]? = some u := eu
        rw [errWords_at hi] at this
        exact (Option.some.inj this).symm
      have ev : v = .bl (decide (i = k)) := by
        have : (flagsOf k)[i]? = some v := ev
        rw [flags_at hi] at this
        exact (Option.some.inj this).symm
      subst eu ev
      have st := same_upd (o := .tup [.str (wordAt i), .bl (decide (i = k))]) nT
      refine ⟨T, _, rfl, .inl (.inl upd_same), rfl, _, _, rfl, _, _, rfl, rfl, rfl, ?_⟩
      refine ⟨_, rfl, decide (i = k), rfl, ?_⟩
      have g1 := st _ _ h1
      have g2 := st _ _ h2
      have gD := st _ _ hD
      have sT := sm.trans st
      generalize upd H1 T (.tup [.str (wordAt i), .bl (decide (i = k))]) = H3 at g1 g2 gD sT ⊢
      have nD0 : H D = none := s6.free nD
      have d1 : p1 ≠ D := ne_of_none w6 nD
      have d6 : p6 ≠ D := ne_of_none f6 nD
      by_cases hk : i = k
      · rw [decide_eq_true hk]
        refine iteT ?_
        rw [if_neg (by omega)] at gD
        refine ⟨_, rfl, [], gD, szl (show 0 < 1000000 by decide), same_updN sT nD0, by rw [upd_ne d1]; exact g1, by rw [upd_ne d6]; exact g2, ?_⟩
        rw [upd_same, if_pos (by omega), hk]
        rfl
      · rw [decide_eq_false hk]
        refine iteF ?_
        refine ⟨sT, g1, g2, ?_⟩
        rw [gD]
        by_cases h : k < i
        · rw [if_pos h, if_pos (by omega)]
        · rw [if_neg h, if_neg (by omega)]
    · rintro H1 ⟨sm, h1, h2, hD⟩
      rw [if_pos er.lt] at hD
      refine ⟨_, D, [wordAt k], rfl, rfl, .inl (.inl (.inl hD)), ?_, ?_⟩
      · show ((wordAt k).length + 0) + 1 * _ ≤ 16777216
        have : (wordAt k).length ≤ 5 := by
          have hk := er.lt
          have : ∀ k, k < 8 → (wordAt k).length ≤ 5 := by decide +kernel
          exact this k hk
        have e1 : (" " : Str).length = 1 := by decide +kernel
        rw [e1]
        omega
      · rw [join_one]
        exact q H1 sm
theorem word_okN {f : Addr} {fd : FuncData} (F : Fun K "_law_word" "_law_word" sWord f fd) (nk : ∀ j, j < 8 → PySem.W.kitOne K (.type "NoneType") (.ref (cs j)) = some false) (g0 : mg "NoRow" = some (.ref (cs 0))) (g1 : mg "NoCount" = some (.ref (cs 1))) (g2 : mg "NoRank" = some (.ref (cs 2))) (g3 : mg "NoPlace" = some (.ref (cs 3)))
    (g4 : mg "NoTree" = some (.ref (cs 4))) (g5 : mg "NoPairs" = some (.ref (cs 5))) (g6 : mg "NoTurn" = some (.ref (cs 6))) (g7 : mg "NoText" = some (.ref (cs 7))) (misi : mg "isinstance" = none) (mzip : mg "zip" = none) : FnOk P w K mg base CX0 1 f fd ["_law_error"] spWordN := by
  refine F.ok scWord (fun vs H Q E h => ?_) (fun cdv A outer s H vs Q E hr h => ?_)
  · obtain ⟨rfl, _⟩ := h
    rfl
  · obtain ⟨rfl, q⟩ := h
    have nd := scWord.nd
    refine ⟨_, (pss_cons (ps_set (i := 1) nd rfl (.inl rfl) (pe_lst (pa_cons pe_str (pa_cons pe_str (pa_cons pe_str (pa_cons pe_str (pa_cons pe_str (pa_cons pe_str (pa_cons pe_str (pa_cons pe_str pa_nil))))))))))
    (pss_cons (ps_set (i := 2) nd rfl (.inl rfl) (pe_lst (pa_cons (pe_callB call_isi (by rfl) misi (by decide +kernel) (pa_cons (pv 0) (pa_cons (pe_glob (v := .ref (cs 0)) (by rfl) g0 rfl) pa_nil)))
      (pa_cons (pe_callB call_isi (by rfl) misi (by decide +kernel) (pa_cons (pv 0) (pa_cons (pe_glob (v := .ref (cs 1)) (by rfl) g1 rfl) pa_nil)))
      (pa_cons (pe_callB call_isi (by rfl) misi (by decide +kernel) (pa_cons (pv 0) (pa_cons (pe_glob (v := .ref (cs 2)) (by rfl) g2 rfl) pa_nil)))
      (pa_cons (pe_callB call_isi (by rfl) misi (by decide +kernel) (pa_cons (pv 0) (pa_cons (pe_glob (v := .ref (cs 3)) (by rfl) g3 rfl) pa_nil))) pa_nil))))))
    (pss_cons (ps_set (i := 3) nd rfl (.inl rfl) (pe_lst (pa_cons (pe_callB call_isi (by rfl) misi (by decide +kernel) (pa_cons (pv 0) (pa_cons (pe_glob (v := .ref (cs 4)) (by rfl) g4 rfl) pa_nil)))
      (pa_cons (pe_callB call_isi (by rfl) misi (by decide +kernel) (pa_cons (pv 0) (pa_cons (pe_glob (v := .ref (cs 5)) (by rfl) g5 rfl) pa_nil)))
      (pa_cons (pe_callB call_isi (by rfl) misi (by decide +kernel) (pa_cons (pv 0) (pa_cons (pe_glob (v := .ref (cs 6)) (by rfl) g6 rfl) pa_nil))) pa_nil)))))
    (pss_cons (ps_set (i := 4) nd rfl (.inl rfl) (pe_op op_cat (pe_op op_cat (pv 2) (pv 3)) (pe_lst (pa_cons (pe_callB call_isi (by rfl) misi (by decide +kernel) (pa_cons (pv 0) (pa_cons (pe_glob (v := .ref (cs 7)) (by rfl) g7 rfl) pa_nil))) pa_nil))))
    (pss_one (ps_ret (pe_join pe_str (pe_lc (own := [("_law_word_here", 5), ("_law_flag", 6)]) (g := gTup K 2 (gCons (gName 5) (gCons (gName 6) gNil))) rfl nd (pi_zip (by rfl) mzip (pa_cons (pv 1) (pa_cons (pv 4) pa_nil)))
      (blkOk_by (N := ["_law_error", "_law_words", "_law_one", "_law_other", "_law_flags", "_law_word_here", "_law_flag"]) (sc := defScope sWord) (by decide +kernel))
      (fun _ _ _ _ _ => (pg_tup rfl (pgs_cons (pg_name (i := 5) nd rfl (Or.inl rfl) (Or.inr rfl)) (pgs_cons (pg_name (i := 6) nd rfl (Or.inl rfl) (Or.inr rfl)) pgs_nil)))) (fun _ _ _ _ _ => pts_one (pt_val (pv 6))) (fun _ _ _ _ _ => (pv 5)))))))))), ?_⟩
    have S8 : ∀ {n : Nat}, n ≤ 100 → n ≤ sizeLine := fun h => sz (by omega)
    refine ⟨S8 (show 8 ≤ 100 by decide), fun p1 n1 => ?_⟩
    have s1 := same_upd (o := .lst (errWords.map V.str)) n1
    refine ⟨.non, rfl, .non, .ref (cs 0), _, _, false, rfl, .own _, .base .non, nk 0 (by decide), .non, rfl, .non, .ref (cs 1), _, _, false, rfl, .own _, .base .non, nk 1 (by decide), .non, rfl, .non, .ref (cs 2), _, _, false, rfl, .own _, .base .non, nk 2 (by decide), .non, rfl, .non, .ref (cs 3), _, _, false, rfl, .own _, .base .non, nk 3 (by decide), S8 (show 4 ≤ 100 by decide), fun p2 n2 => ?_⟩
    have e12 : p1 ≠ p2 := ne_of_none upd_same n2
    have s2 := s1.trans (same_upd (o := .lst [.bl (false), .bl (false), .bl (false), .bl (false)]) n2)
    refine ⟨.non, rfl, .non, .ref (cs 4), _, _, false, rfl, .own _, .base .non, nk 4 (by decide), .non, rfl, .non, .ref (cs 5), _, _, false, rfl, .own _, .base .non, nk 5 (by decide), .non, rfl, .non, .ref (cs 6), _, _, false, rfl, .own _, .base .non, nk 6 (by decide), S8 (show 3 ≤ 100 by decide), fun p3 n3 => ?_⟩
    have e23 : p2 ≠ p3 := ne_of_none upd_same n3
    have e13 : p1 ≠ p3 := ne_of_none (by rw [upd_ne e12]; exact upd_same) n3
    have s3 := s2.trans (same_upd (o := .lst [.bl (false), .bl (false), .bl (false)]) n3)
    refine ⟨.ref p2, rfl, .ref p3, rfl, p2, p3, _, _, rfl, rfl, (upd_ne e23).trans upd_same, upd_same, S8 (show 7 ≤ 100 by decide), fun p4 n4 => ?_⟩
    have e14 : p1 ≠ p4 := ne_of_none (by rw [upd_ne e13, upd_ne e12]; exact upd_same) n4
    have s4 := s3.trans (same_upd (o := .lst ([.bl (false), .bl (false), .bl (false), .bl (false)] ++ [.bl (false), .bl (false), .bl (false)])) n4)
    refine ⟨.non, rfl, .non, .ref (cs 7), _, _, false, rfl, .own _, .base .non, nk 7 (by decide), S8 (show 1 ≤ 100 by decide), fun p5 n5 => ?_⟩
    have e15 : p1 ≠ p5 := ne_of_none (by rw [upd_ne e14, upd_ne e13, upd_ne e12]; exact upd_same) n5
    have e45 : p4 ≠ p5 := ne_of_none upd_same n5
    have s5 := s4.trans (same_upd (o := .lst [.bl (false)]) n5)
    refine ⟨p4, p5, _, _, rfl, rfl, (upd_ne e45).trans upd_same, upd_same, S8 (show 8 ≤ 100 by decide), fun p6 n6 => ?_⟩
    have s6 := s5.trans (same_upd (o := .lst (flagsOf 8)) n6)
    have e16 : p1 ≠ p6 := ne_of_none (by rw [upd_ne e15, upd_ne e14, upd_ne e13, upd_ne e12]; exact upd_same) n6
    have w6 : ∀ o, upd (upd (upd (upd (upd (upd H p1 (.lst (errWords.map V.str))) p2 (.lst [.bl (false), .bl (false), .bl (false), .bl (false)])) p3 (.lst [.bl (false), .bl (false), .bl (false)]))
        p4 (.lst ([.bl (false), .bl (false), .bl (false), .bl (false)] ++ [.bl (false), .bl (false), .bl (false)]))) p5 (.lst [.bl (false)])) p6 o p1 = some (.lst (errWords.map V.str)) := fun o => by
      rw [upd_ne e16, upd_ne e15, upd_ne e14, upd_ne e13, upd_ne e12]
      exact upd_same
    refine ⟨⟨_, rfl⟩, .ref p1, rfl, .ref p6, rfl, p1, p6, errWords.map V.str, flagsOf 8, rfl, .inl (.inl (w6 _)), .inl (.inl upd_same), fun D nD => ?_⟩
    have w6 := w6 (.lst (flagsOf 8))
    have s6 : Same H (upd (upd (upd (upd (upd (upd H p1 (.lst (errWords.map V.str))) p2 (.lst [.bl (false), .bl (false), .bl (false), .bl (false)])) p3 (.lst [.bl (false), .bl (false), .bl (false)]))
        p4 (.lst ([.bl (false), .bl (false), .bl (false), .bl (false)] ++ [.bl (false), .bl (false), .bl (false)]))) p5 (.lst [.bl (false)])) p6 (.lst (flagsOf 8))) := s6
    have f6 : upd (upd (upd (upd (upd (upd H p1 (.lst (errWords.map V.str))) p2 (.lst [.bl (false), .bl (false), .bl (false), .bl (false)])) p3 (.lst [.bl (false), .bl (false), .bl (false)]))
        p4 (.lst ([.bl (false), .bl (false), .bl (false), .bl (false)] ++ [.bl (false), .bl (false), .bl (false)]))) p5 (.lst [.bl (false)])) p6 (.lst (flagsOf 8)) p6 = some (.lst (flagsOf 8)) := upd_same
    refine lc_it (walk_zip (K := K) (a := p1) (b := p6) (xs := errWords.map V.str) (ys := flagsOf 8) (n := 8) rfl) (fun i H' => Same H H' ∧ H' p1 = some (.lst (errWords.map V.str)) ∧ H' p6 = some (.lst (flagsOf 8)) ∧ H' D = some (.lst (if 8 < i then [V.str (wordAt 8)] else []))) ?_ ?_ ?_ ?_
    · have nD' := nD
      refine ⟨same_updN s6 (s6.free nD), ?_, ?_, ?_⟩
      · rw [upd_ne (ne_of_none w6 nD)]
        exact w6
      · rw [upd_ne (ne_of_none f6 nD)]
        exact f6
      · rw [upd_same, if_neg (Nat.not_lt_zero _)]
    · rintro i H' _ ⟨_, h1, h2, _⟩
      exact ⟨.inl (.inl h1), .inl (.inl h2)⟩
    · rintro i x H1 H2 hi ⟨sm, h1, h2, hD⟩ ⟨T, u, v, rfl, nT, rfl, eu, ev⟩
      have eu : u = .str (wordAt i) := by
        have : (errWords.map V.str)[i]? = some u := eu
        rw [errWords_at hi] at this
        exact (Option.some.inj this).symm
      have ev : v = .bl (decide (i = 8)) := by
        have : (flagsOf 8)[i]? = some v := ev
        rw [flags_at hi] at this
        exact (Option.some.inj this).symm
      subst eu ev
      have st := same_upd (o := .tup [.str (wordAt i), .bl (decide (i = 8))]) nT
      refine ⟨T, _, rfl, .inl (.inl upd_same), rfl, _, _, rfl, _, _, rfl, rfl, rfl, ?_⟩
      refine ⟨_, rfl, decide (i = 8), rfl, ?_⟩
      have g1 := st _ _ h1
      have g2 := st _ _ h2
      have gD := st _ _ hD
      have sT := sm.trans st
      generalize upd H1 T (.tup [.str (wordAt i), .bl (decide (i = 8))]) = H3 at g1 g2 gD sT ⊢
      have nD0 : H D = none := s6.free nD
      have d1 : p1 ≠ D := ne_of_none w6 nD
      have d6 : p6 ≠ D := ne_of_none f6 nD
      by_cases hk : i = 8
      · rw [decide_eq_true hk]
        refine iteT ?_
        rw [if_neg (by omega)] at gD
        refine ⟨_, rfl, [], gD, szl (show 0 < 1000000 by decide), same_updN sT nD0, by rw [upd_ne d1]; exact g1, by rw [upd_ne d6]; exact g2, ?_⟩
        rw [upd_same, if_pos (by omega), hk]
        rfl
      · rw [decide_eq_false hk]
        refine iteF ?_
        refine ⟨sT, g1, g2, ?_⟩
        rw [gD]
        by_cases h : 8 < i
        · rw [if_pos h, if_pos (by omega)]
        · rw [if_neg h, if_neg (by omega)]
    · rintro H1 ⟨sm, h1, h2, hD⟩
      rw [if_neg (by decide)] at hD
      refine ⟨_, D, [], rfl, rfl, .inl (.inl (.inl hD)), ?_, ?_⟩
      · show 0 + 0 * (" " : Str).length ≤ 16777216
        rw [Nat.zero_mul]
        decide
      · exact q H1 sm
theorem FnOk.or {P : Program} {w : World} {K : PySem.W.Frag} {mg : Str → Option Value} {base : Heap} {CX : CXT} {k : Nat} {f : Addr} {fd : FuncData} {ps : List Str} {s1 s2 : Sp} (F : FnOk P w K mg base CX k f fd ps s1) (G : FnOk P w K mg base CX k f fd ps s2) :
    FnOk P w K mg base CX k f fd ps (fun vs H Q E => s1 vs H Q E ∨ s2 vs H Q E) where
  len := fun vs H Q E h => h.elim (F.len vs H Q E) (G.len vs H Q E)
  run := fun A outer s H args us vs Q E hr he hb hv h => h.elim (F.run A outer s H args us vs Q E hr he hb hv) (G.run A outer s H args us vs Q E hr he hb hv)
def spWordE (K : PySem.W.Frag) (cs : Nat → Addr) : Sp := fun vs H Q E => spWord K cs vs H Q E ∨ spWordN vs H Q E
theorem cal_wordE (D : Def K mg "_law_word" sWord ["_law_error"]) (nk : ∀ j, j < 8 → PySem.W.kitOne K (.type "NoneType") (.ref (cs j)) = some false) (g0 : mg "NoRow" = some (.ref (cs 0))) (g1 : mg "NoCount" = some (.ref (cs 1))) (g2 : mg "NoRank" = some (.ref (cs 2))) (g3 : mg "NoPlace" = some (.ref (cs 3)))
    (g4 : mg "NoTree" = some (.ref (cs 4))) (g5 : mg "NoPairs" = some (.ref (cs 5))) (g6 : mg "NoTurn" = some (.ref (cs 6))) (g7 : mg "NoText" = some (.ref (cs 7))) (misi : mg "isinstance" = none) (mzip : mg "zip" = none) : Cal K mg CX0 P w base 1 "_law_word" [] (spWordE K cs) := by
  obtain ⟨f, fd, F, hm, b⟩ := D.ex
  exact ⟨f, fd, _, [], FnOk.or (word_ok F g0 g1 g2 g3 g4 g5 g6 g7 misi mzip) (word_okN F nk g0 g1 g2 g3 g4 g5 g6 g7 misi mzip), hm, F.kp, b, .nil⟩
end
end Hr
/-! ### a text or none of it; isinstance of an error or of another thing -/
namespace Hr
open PySem PySem.Spec PyProof.Rows L2
def rMulB : R2 := fun x y H Q => ∃ (z : Str) (b : Bool), x = .str z ∧ y = .int (if b = true then 1 else 0) ∧ z.length ≤ 1000 ∧ Q (.str (if b = true then z else "")) H
theorem op_mul_bit {X : Cx} : OpR X (binaryOp .Mult) rMulB := by
  intro pins s σ H x y v u Q I rx ry h
  obtain ⟨z, b, rfl, rfl, hz, q⟩ := h
  obtain ⟨t, rfl⟩ := rx
  cases b with
  | false =>
    obtain ⟨t', rfl⟩ : ∃ t', u = .int 0 t' := ry
    refine PySem.P.mul_str (by rfl) (fun h1 _ => ?_) (fun h1 _ => ?_) ?_
    · exact absurd h1 (by decide)
    · exact absurd h1 (by decide)
    · rw [if_pos (by decide)]
      exact ⟨by decide, .str ⟨#[]⟩, H, I.tok _, ⟨_, rfl⟩, by
        have q : Q (.str "") H := q
        rw [eE] at q
        exact q⟩
  | true =>
    obtain ⟨t', rfl⟩ : ∃ t', u = .int 1 t' := ry
    refine PySem.P.mul_str (by rfl) (fun h1 _ => ?_) (fun h1 _ => ?_) ?_
    · have e : ((2 ^ 63 - 1 : Int)) / 1 = 2 ^ 63 - 1 := Int.ediv_one _
      rw [e]
      omega
    · show decide (sizeLine < z.length * (1 : Int).toNat) = false
      refine decide_eq_false ?_
      have := sz (show z.length ≤ 1000000 by omega)
      show ¬ sizeLine < z.length * 1
      omega
    · rw [if_neg (by decide), if_pos (by rfl)]
      exact ⟨.str z, H, I, ⟨_, rfl⟩, q⟩
theorem call_isE {X : Cx} : CallR X (.builtin "isinstance") (fun xs H Q => rIsT X.K xs H Q ∨ rIsi X.K xs H Q) := by
  intro pins s σ H xs us Q I r h
  rcases h with h | h
  · exact call_isT pins s σ H xs us Q I r h
  · exact call_isi pins s σ H xs us Q I r h
end Hr
/-! ### row_told asked, the word of its refusal -/
namespace Hr
open PySem PySem.Spec PyProof.Rows L2
theorem scAsked : FnScope ["_law_n", "_law_k", "_law_i", "_law_r", "_law_found", "_law_error"] ["_law_n", "_law_k", "_law_i", "_law_r"] (defScope sAsked) := ⟨rfl, rfl, rfl, by decide +kernel, rfl, by decide +kernel, by decide +kernel⟩
theorem scEmpty : FnScope ["_law_found", "_law_error"] [] (defScope sEmpty) := ⟨rfl, rfl, rfl, by decide +kernel, rfl, by decide +kernel, by decide +kernel⟩
/-- the j-th kind of refusal is due -/
inductive ToldBad : V → V → V → V → Nat → Prop where
  | n {n k i r : V} : flatV n = true → flatV k = true → flatV i = true → flatV r = true → (numB n 200 = false ∨ n = .int 0) → ToldBad n k i r 1
  | k {m : Nat} {k i r : V} : 1 ≤ m → m ≤ 200 → flatV k = true → flatV i = true → flatV r = true → numB k ((m : Int) - 1) = false → ToldBad (.int (m : Int)) k i r 1
  | i {m k : Nat} {i r : V} : k < m → m ≤ 200 → flatV i = true → flatV r = true → numB i (((cntc none k : Nat) : Int) - 1) = false → ToldBad (.int (m : Int)) (.int (k : Int)) i r 2
  | r {m k i : Nat} {r : V} : k < m → m ≤ 200 → i < cntc none k → flatV r = true → numB r (((cntc none (m - 1 - k) : Nat) : Int) - 1) = false → ToldBad (.int (m : Int)) (.int (k : Int)) (.int (i : Int)) r 2
section
variable {P : Program} {w : World} {K : PySem.W.Frag} {mg : Str → Option Value} {base : Heap} {cs : Nat → Addr}
def toldRow (m k i r : Nat) : List Bool := true :: (rowOf none k i ++ false :: rowOf none (m - 1 - k) r)
def ToldOk (m k i r : Nat) : Prop := k < m ∧ m ≤ 200 ∧ i < cntc none k ∧ r < cntc none (m - 1 - k)
def spRowTold (cs : Nat → Addr) : Sp := fun vs H Q E => ∃ n k i r : V, vs = [n, k, i, r] ∧ ((∃ j, ToldBad n k i r j ∧ ∀ H', Same H H' → E (.ref (cs j)) none H') ∨
  ∃ a b c d : Nat, n = .int (a : Int) ∧ k = .int (b : Int) ∧ i = .int (c : Int) ∧ r = .int (d : Int) ∧ ToldOk a b c d ∧ ∀ H', Same H H' → Q (.str (txt (toldRow a b c d))) H')
def spAsk12 : Sp := fun vs H Q _ => ∃ n k i r : V, vs = [n, k, i, r] ∧ ((∃ j, j < 8 ∧ ToldBad n k i r j ∧ ∀ H', Same H H' → Q (.str (wordAt j)) H') ∨
  ∃ a b c d : Nat, n = .int (a : Int) ∧ k = .int (b : Int) ∧ i = .int (c : Int) ∧ r = .int (d : Int) ∧ ToldOk a b c d ∧ ∀ H', Same H H' → Q (.str "") H')
theorem word_short : ∀ k, k < 8 → (wordAt k).length ≤ 1000 := by decide +kernel
theorem cal_asked {CH : Addr} (D : Def K mg "_law_asked" sAsked ["_law_n", "_law_k", "_law_i", "_law_r"]) (gH : mg "HillError" = some (.ref CH)) (er : ∀ k, k = 1 ∨ k = 2 → IsErr K cs k) (ex : ∀ k, k = 1 ∨ k = 2 → PySem.W.exmOne K (.ref (cs k)) (.ref CH) = some true)
    (c_told : Cal K mg (L2.CX P w) P w base 6 "row_told" [] (spRowTold cs)) (c_word : Cal K mg CX0 P w base 1 "_law_word" [] (spWordE K cs)) (misi : mg "isinstance" = none) (mve : mg "ValueError" = none) (m_int : mg "int" = none) : Cal K mg CX0 P w base 7 "_law_asked" [] spAsk12 := by
  refine D.cal scAsked (fun vs H Q E h => ?_) (fun f cdv A outer s H vs Q E hr h => ?_)
  · obtain ⟨n, k, i, r, rfl, _⟩ := h
    rfl
  · obtain ⟨n, k, i, r, rfl, h⟩ := h
    have nd := scAsked.nd
    refine ⟨_, pss_cons (ps_set (i := 4) nd rfl (.inl rfl) pe_non)
      (pss_cons (kept_try (i := 5) (c := .ref CH) (tb := fun W => tDrop (tCallS (spRowTold cs) (WE W) (tCons (tVar 0) (tCons (tVar 1) (tCons (tVar 2) (tCons (tVar 3) tNil)))))) (ts := fun _ => tAsg (tVar 5) (gName 4)) rfl rfl rfl nd rfl rfl ⟨rfl, by decide, .inl gH⟩
          (fun W pn xe tk po => pss_one (ps_expr (by exact (pe_cT c_told hr tk (pa_cons (pv 0) (pa_cons (pv 1) (pa_cons (pv 2) (pa_cons (pv 3) pa_nil))))))))
          (fun a q => pss_one (ps_set (i := 4) nd rfl (.inl rfl) (pv 5))))
      (pss_one (ps_ret (pe_op op_mul_bit (pe_c c_word hr (pa_cons (pv 4) pa_nil)) (pe_callTy call_int1 (by rfl) m_int boot_int (pa_cons (pe_callB call_isE (by rfl) misi (by decide +kernel) (pa_cons (pv 4) (pa_cons (pe_bltn (v := .ty "ValueError") (u := .type "ValueError") (by rfl) mve (by decide +kernel) rfl) pa_nil))) pa_nil)))))), ?_⟩
    rcases h with ⟨j, hj8, bad, q⟩ | ⟨a, b, c, d, rfl, rfl, rfl, rfl, ok, q⟩
    · have hj : j = 1 ∨ j = 2 := by
        cases bad
        · exact .inl rfl
        · exact .inl rfl
        · exact .inr rfl
        · exact .inr rfl
      refine ⟨n, rfl, k, rfl, i, rfl, r, rfl, n, k, i, r, rfl, .inl ⟨j, bad, fun H1 s1 => ⟨ex j hj, fun e ne => ?_⟩⟩⟩
      have E := er j hj
      refine ⟨_, rfl, ?_⟩
      refine ⟨_, rfl, .inl ⟨e, j, rfl, upd_same, E, fun H2 s2 => ?_⟩⟩
      have s2' := s2 _ _ upd_same
      refine ⟨_, rfl, .inl ⟨e, cs j, _, _, _, rfl, s2', E.c, fun u hu => hu, E.ve, .inr ⟨true, rfl, wordAt j, true, rfl, rfl, word_short j hj8, ?_⟩⟩⟩
      exact q _ ((s1.trans (same_upd ne)).trans s2)
    · refine ⟨.int (a : Int), rfl, .int (b : Int), rfl, .int (c : Int), rfl, .int (d : Int), rfl, _, _, _, _, rfl, .inr ⟨a, b, c, d, rfl, rfl, rfl, rfl, ok, fun H1 s1 => ?_⟩⟩
      refine ⟨_, rfl, .inr ⟨rfl, fun H2 s2 => ?_⟩⟩
      refine ⟨_, rfl, .inr ⟨.non, .ty "ValueError", _, _, false, rfl, .ty "ValueError", .base .non, kit_ty (by decide +kernel), .inr ⟨false, rfl, "", false, rfl, rfl, by decide +kernel, ?_⟩⟩⟩
      exact q _ (s1.trans s2)
end
end Hr
/-! ### where the first hill ends, by the law's walk -/
namespace Hr
open PySem PySem.Spec PyProof.Rows L2
theorem scEnd : FnScope ["_law_row_here", "_law_height", "_law_place", "_law_sign"] ["_law_row_here"] (defScope sEnd) := ⟨rfl, rfl, rfl, by decide +kernel, rfl, by decide +kernel, by decide +kernel⟩
/-- from the height h the walk comes to 0 at the place behind a for the first time -/
theorem first_zero {h : Nat} : ∀ {a b : List Bool} {k : Nat}, okb none k a = true → 0 < h → ∀ i, i ≤ a.length → 0 < (h : Int) + (k : Int) + ((((a ++ b).take i).map sg).sum)
  | [], b, k, e, hh, i, hi => by
    have : i = 0 := by
      have hi : i ≤ 0 := hi
      omega
    subst this
    show 0 < (h : Int) + (k : Int) + 0
    omega
  | x :: a, b, k, e, hh, 0, hi => by
    show 0 < (h : Int) + (k : Int) + 0
    omega
  | true :: a, b, k, e, hh, i + 1, hi => by
    have := first_zero (a := a) (b := b) (okb_up e).2 hh i (by rw [List.length_cons] at hi; omega)
    show 0 < (h : Int) + (k : Int) + ((1 : Int) + (((a ++ b).take i).map sg).sum)
    omega
  | false :: a, b, k, e, hh, i + 1, hi => by
    obtain ⟨k0, e1⟩ := okb_down e
    have := first_zero (a := a) (b := b) e1 hh i (by rw [List.length_cons] at hi; omega)
    show 0 < (h : Int) + (k : Int) + ((-1 : Int) + (((a ++ b).take i).map sg).sum)
    omega
theorem hill_sum : ∀ {a : List Bool} {k : Nat}, okb none k a = true → (k : Int) + (a.map sg).sum = 0
  | [], k, e => by
    have e0 : k = 0 := by simpa [okb] using e
    rw [e0]
    rfl
  | true :: a, k, e => by
    have := hill_sum (okb_up e).2
    show (k : Int) + ((1 : Int) + (a.map sg).sum) = 0
    omega
  | false :: a, k, e => by
    obtain ⟨k0, e1⟩ := okb_down e
    have := hill_sum e1
    show (k : Int) + ((-1 : Int) + (a.map sg).sum) = 0
    omega
theorem hgt_first {a b : List Bool} (ha : okb none 0 a = true) : ∀ i, 0 < i → i ≤ a.length + 1 → 0 < hgt (true :: (a ++ false :: b)) i := by
  intro i h0 hi
  obtain ⟨j, rfl⟩ : ∃ j, i = j + 1 := ⟨i - 1, by omega⟩
  have := first_zero (h := 1) (b := false :: b) ha (by decide) j (by omega)
  show 0 < (1 : Int) + (((a ++ false :: b).take j).map sg).sum
  omega
theorem hgt_end {a b : List Bool} (ha : okb none 0 a = true) : hgt (true :: (a ++ false :: b)) (a.length + 2) = 0 := by
  have h := hill_sum ha
  show (1 : Int) + (((a ++ false :: b).take (a.length + 1)).map sg).sum = 0
  rw [List.take_length_add_append, List.map_append, List.sum_append]
  show (1 : Int) + ((a.map sg).sum + (-1 + 0)) = 0
  omega
section
variable {P : Program} {w : World} {K : PySem.W.Frag} {mg : Str → Option Value} {base : Heap} {cs : Nat → Addr}
def spEnd : Sp := fun vs H Q _ => ∃ a b : List Bool, vs = [.str (txt (true :: (a ++ false :: b)))] ∧ okb none 0 a = true ∧ a.length + b.length + 2 ≤ 1000 ∧ ∀ H', Same H H' → Q (.int ((a.length + 1 : Nat) : Int)) H'
theorem cal_end (D : Def K mg "_law_end" sEnd ["_law_row_here"]) (m_int : mg "int" = none) (m_enumerate : mg "enumerate" = none) : Cal K mg CX0 P w base 1 "_law_end" [] spEnd := by
  refine D.cal scEnd (fun vs H Q E h => ?_) (fun f cdv A outer s H vs Q E hr h => ?_)
  · obtain ⟨a, b, rfl, _⟩ := h
    rfl
  · obtain ⟨a, b, rfl, ha, hz, q⟩ := h
    have nd := scEnd.nd
    refine ⟨_, (pss_cons (ps_set (i := 1) nd rfl (.inl rfl) pe_int)
    (pss_cons (ps_for PassesOwn.never rfl (pi_es (by rfl) m_enumerate (pa_cons (pv 0) pa_nil)) (pg_tup rfl (pgs_cons (pg_name (i := 2) nd rfl (.inl rfl)) (pgs_cons (pg_name (i := 3) nd rfl (.inl rfl)) pgs_nil))) (pss_cons (ps_set (i := 1) nd rfl (.inl rfl) (pe_op op_add (pv 1) (pe_ix ix_list (pe_lst (pa_cons pe_int (pa_cons (pe_un un_neg pe_int) pa_nil))) (pe_callTy call_int1 (by rfl) m_int boot_int (pa_cons (pe_cmpR op_eq (pv 3) pe_str (nomark _)) pa_nil)) (fun _ _ => rfl))))
      (pss_one (ps_if (pt_cmpR op_eq (pv 1) pe_int (nomark _)) (pss_one (ps_ret (pv 2))) pss_nil))))
    (pss_one (ps_ret (pe_un un_neg pe_int))))), ?_⟩
    have hlen : (true :: (a ++ false :: b)).length = a.length + b.length + 2 := by
      rw [List.length_cons, List.length_append, List.length_cons]
      omega
    have hf := hgt_first (b := b) ha
    have he := hgt_end (b := b) ha
    generalize true :: (a ++ false :: b) = l at hlen hf he ⊢
    refine ⟨_, rfl, txt l, rfl, ?_⟩
    refine for_it walk_es (fun i σ H' => ∃ (y2 y3 : Option V), σ = [some (.str (txt l)), some (.int (hgt l i)), y2, y3] ∧ Same H H' ∧ i ≤ a.length + 1) ?_ (fun _ _ _ _ _ => trivial) ?_ ?_
    · exact ⟨none, none, rfl, Same.refl _, Nat.zero_le _⟩
    · rintro i x σ H2 H3 hi ⟨y2, y3, rfl, sm, hia⟩ ⟨T, k0, v, rfl, nT, rfl, ek, ev⟩
      have ek : k0 = .int (i : Int) := (Option.some.inj ek).symm
      subst ek
      rw [txt_size] at hi
      obtain ⟨c, hb⟩ : ∃ c, l[i]? = some c := ⟨_, List.getElem?_eq_getElem hi⟩
      have ev : v = .str ⟨#[code c]⟩ := by
        have ev : ((txt l).cps[i]?).map (fun c => V.str ⟨#[c]⟩) = some v := ev
        rw [txt_at, hb] at ev
        exact (Option.some.inj ev).symm
      subst ev
      have eh : hgt l (i + 1) = hgt l i + sg c := by
        unfold hgt
        rw [take_snoc hb, List.map_append, List.sum_append]
        show _ + (sg c + 0) = _
        omega
      refine ⟨T, _, rfl, .inl (.inl upd_same), rfl, _, _, rfl, _, _, rfl, rfl, ?_⟩
      replace sm := sm.trans (same_upd (o := .tup [.int (i : Int), .str ⟨#[code c]⟩]) nT)
      refine ⟨_, rfl, 1, rfl, sz (show 2 ≤ 1000000 by decide), fun p np => ?_⟩
      replace sm := sm.trans (same_upd (o := .lst [.int 1, .int (-1)]) np)
      have ix : ([V.int 1, V.int (-1)])[if c = true then 0 else 1]? = some (.int (sg c)) := by cases c <;> rfl
      refine ⟨_, rfl, rfl, .inr ⟨_, rfl, p, _, _, .int (sg c), rfl, rfl, .inl (.inl upd_same), at_of (j := if c = true then 0 else 1) ?_ ix, _, _, rfl, rfl, ?_⟩⟩
      · rw [is_d]
        cases c <;> rfl
      show gName 1 (V.int (hgt l i + sg c)) _ _ _
      rw [← eh]
      refine ⟨_, rfl, rfl, _, rfl, ite2 (fun e => ?_) (fun e => ?_)⟩
      · have e0 : hgt l (i + 1) = 0 := V.int.inj (of_decide_eq_true e)
        have ei : i = a.length + 1 := by
          by_cases h : i + 1 ≤ a.length + 1
          · have := hf (i + 1) (by omega) h
            omega
          · omega
        subst ei
        exact ⟨_, rfl, q _ sm⟩
      · have hne : i ≠ a.length + 1 := fun z => by
          subst z
          rw [he] at e
          exact e (decide_eq_true rfl)
        exact ⟨_, _, rfl, sm, by omega⟩
    · rintro σ H2 ⟨y2, y3, rfl, sm, hia⟩
      rw [txt_size] at hia
      omega
end
end Hr
/-! ### told by parts' ranks -/
namespace Hr
open PySem PySem.Spec PyProof.Rows L2
theorem scRankTold : FnScope ["row", "between", "behind"] ["row"] (defScope s_rank_told) := ⟨rfl, rfl, rfl, by decide +kernel, rfl, by decide +kernel, by decide +kernel⟩
theorem scRowTold : FnScope ["n", "k", "i", "r", "between", "behind"] ["n", "k", "i", "r"] (defScope s_row_told) := ⟨rfl, rfl, rfl, by decide +kernel, rfl, by decide +kernel, by decide +kernel⟩
/-- the four numbers of a row -/
def told4 (a b : Gv) : List Int := [(((Gv.tree a b).row.length / 2 : Nat) : Int), ((a.row.length / 2 : Nat) : Int), ((rk none (a.row.length / 2) a.row : Nat) : Int), ((rk none (b.row.length / 2) b.row : Nat) : Int)]
theorem gv_hill (g : Gv) : Hill none (g.row.length / 2) g.row := ⟨g.row_hill, okb_even g.row_hill⟩
theorem tree_half (a b : Gv) : (Gv.tree a b).row.length / 2 = a.row.length / 2 + b.row.length / 2 + 1 := by
  have h1 := (gv_hill a).2
  have h2 := (gv_hill b).2
  rw [tree_row, List.length_append, List.length_cons, List.length_append]
  have : ([false] : List Bool).length = 1 := rfl
  omega
section
variable {P : Program} {w : World} {K : PySem.W.Frag} {mg : Str → Option Value} {base : Heap} {CN CC CR : Addr} {cs : Nat → Addr}
def spRankToldX (CN : Addr) : Sp := fun vs H Q E => ∃ z : Str, vs = [.str z] ∧ z.length ≤ 400 ∧ (∀ a b : Gv, z = txt (Gv.tree a b).row → ∀ H' p, Same H H' → H p = none → H' p = some (.tup ((told4 a b).map V.int)) → Q (.ref p) H') ∧ ((z = txt [] ∨ hillB none z = false) → ∀ H', Same H H' → E (.ref CN) none H')
theorem cal_rankTold (D : Def K mg "rank_told" s_rank_told ["row"]) (C1 : Cal K mg (L2.CX P w) P w base 6 "cut" [] (spCutX CN)) (C2 : Cal K mg (L2.CX P w) P w base 5 "rank" [.non] (spRankX CC CN)) (m_len : mg "len" = none) : Cal K mg (L2.CX P w) P w base 7 "rank_told" [] (spRankToldX CN) := by
  refine D.calX scRankTold (fun vs H Q E h => ?_) (fun f cdv A outer s H vs Q E hr h => ?_)
  · obtain ⟨z, rfl, _⟩ := h
    rfl
  · obtain ⟨z, rfl, hz, q, qe⟩ := h
    have nd := scRankTold.nd
    refine ⟨_, pss_cons (ps_asg (pe_cX C1 hr (takes_of rfl rfl rfl rfl) (pa_cons (pv 0) pa_nil)) (pg_tup (by rfl) (pgs_cons (pg_name (i := 1) nd rfl (.inl rfl)) (pgs_cons (pg_name (i := 2) nd rfl (.inl rfl)) pgs_nil))))
      (pss_one (ps_ret (pe_tup (pa_cons (pe_op op_fdiv (pe_callB call_len_str (by rfl) m_len PySem.boot_len (pa_cons (pv 0) pa_nil)) pe_int) (pa_cons (pe_op op_fdiv (pe_callB call_len_str (by rfl) m_len PySem.boot_len (pa_cons (pv 1) pa_nil)) pe_int)
        (pa_cons (pe_cX C2 hr (takes_of rfl rfl rfl rfl) (pa_cons (pv 1) pa_nil)) (pa_cons (pe_cX C2 hr (takes_of rfl rfl rfl rfl) (pa_cons (pv 2) pa_nil)) pa_nil))))))), ?_⟩
    refine ⟨.str z, rfl, z, rfl, by omega, fun a b hab H1 p s1 np ep => ?_, fun hb => qe hb⟩
    subst hab
    have hl := tree_half a b
    have e0 := (gv_hill (Gv.tree a b)).2
    have e1 := (gv_hill a).2
    have e2 := (gv_hill b).2
    have zl : (txt (Gv.tree a b).row).length = (Gv.tree a b).row.length := txt_len _
    have rank_of : ∀ (g : Gv) (H1 : Hp) (R : VK), g.row.length / 2 ≤ 200 → (∀ H', Same H1 H' → R (.int ((rk none (g.row.length / 2) g.row : Nat) : Int)) H') → spRankX CC CN [.str (txt g.row), .non] H1 R E := fun g H1 R hn k => by
      have hg := (gv_hill g).2
      refine ⟨txt g.row, .non, rfl, rfl, by rw [txt_len]; omega, ⟨fun e => absurd e (by decide), fun c ec _ hf => ?_⟩, fun c ec hc hh => ?_⟩
      · have : c = none := by
          cases c with
          | none => rfl
          | some k => cases ec
        subst this
        exact absurd ((row_hillB g.row_hill).symm.trans hf) (by decide)
      · have ec2 : c = none := by
          cases c with
          | none => rfl
          | some k => cases ec
        subst ec2
        exact ⟨g.row, none, g.row.length / 2, rfl, trivial, gv_hill g, hn, k⟩
    refine ⟨p, _, rfl, .inl (.inl ep), rfl, _, _, rfl, _, _, rfl, rfl, ?_⟩
    refine ⟨_, rfl, txt (Gv.tree a b).row, rfl, sz (by omega), _, 2, rfl, rfl, ⟨by decide, by decide⟩, _, rfl, txt a.row, rfl, sz (by rw [txt_len]; omega), _, 2, rfl, rfl, ⟨by decide, by decide⟩, ?_⟩
    refine ⟨_, rfl, rank_of a H1 _ (by omega) fun H2 s2 => ?_⟩
    refine ⟨_, rfl, rank_of b H2 _ (by omega) fun H3 s3 => ?_⟩
    refine ⟨sz (show 4 ≤ 1000000 by decide), fun t nt => ?_⟩
    have s4 := (s1.trans s2).trans s3
    refine q a b rfl _ t (s4.trans (same_upd nt)) (s4.free nt) ?_
    rw [upd_same]
    show some (HO.tup [V.int (((txt (Gv.tree a b).row).length : Int) / 2), V.int (((txt a.row).length : Int) / 2), _, _]) = _
    rw [txt_len, txt_len, show ((Gv.tree a b).row.length : Int) / 2 = (((Gv.tree a b).row.length / 2 : Nat) : Int) by omega, show (a.row.length : Int) / 2 = ((a.row.length / 2 : Nat) : Int) by omega]
    rfl
theorem num1 {n : V} (h : numB n 200 = false ∨ n = .int 0) : numL n 1 200 = false := by
  rcases h with h | rfl
  · cases n with
    | int i =>
      have : ¬ (0 ≤ i ∧ i ≤ 200) := of_decide_eq_false h
      exact decide_eq_false (by omega)
    | _ => rfl
  · decide
theorem cal_rowTold (D : Def K mg "row_told" s_row_told ["n", "k", "i", "r"]) (C0 : Cal K mg (L2.CX P w) P w base 2 "check_number" [] (spChNumL (cs 1))) (C1 : Cal K mg (L2.CX P w) P w base 2 "check_number" [.int 0] (spChNumL (cs 1))) (C2 : Cal K mg (L2.CX P w) P w base 4 "row_at" [.non] (spRowAtX (cs 1) (cs 2))) (C3 : Cal K mg (L2.CX P w) P w base 5 "lifted" [.int 1] (spLiftedX (cs 0) (cs 1)))
    {t1 : Tok} (gM : mg "MOST_UPS" = some (.int 200 t1)) : Cal K mg (L2.CX P w) P w base 6 "row_told" [] (spRowTold cs) := by
  refine D.calX scRowTold (fun vs H Q E h => ?_) (fun f cdv A outer s H vs Q E hr h => ?_)
  · obtain ⟨n, k, i, r, rfl, _⟩ := h
    rfl
  · obtain ⟨n, k, i, r, rfl, h⟩ := h
    have nd := scRowTold.nd
    refine ⟨_, pss_cons (ps_expr (pe_cX C0 hr (takes_of rfl rfl rfl rfl) (pa_cons (pv 0) (pa_cons (pe_glob (v := .int 200) (by rfl) gM ⟨_, rfl⟩) (pa_cons pe_int pa_nil)))))
      (pss_cons (ps_expr (pe_cX C1 hr (takes_of rfl rfl rfl rfl) (pa_cons (pv 1) (pa_cons (pe_op op_sub (pv 0) pe_int) pa_nil))))
      (pss_cons (ps_set (i := 4) nd rfl (.inl rfl) (pe_cX C2 hr (takes_of rfl rfl rfl rfl) (pa_cons (pv 1) (pa_cons (pv 2) pa_nil))))
      (pss_cons (ps_set (i := 5) nd rfl (.inl rfl) (pe_cX C2 hr (takes_of rfl rfl rfl rfl) (pa_cons (pe_op op_sub (pe_op op_sub (pv 0) pe_int) (pv 1)) (pa_cons (pv 3) pa_nil))))
      (pss_one (ps_ret (pe_op op_add_str (pe_cX C3 hr (takes_of rfl rfl rfl rfl) (pa_cons (pv 4) pa_nil)) (pv 5))))))), ?_⟩
    -- a good n and k
    have kk : ∀ (m b : Nat), 1 ≤ m → m ≤ 200 → b < m → numL (V.int (m : Int)) 1 200 = true ∧ numL (V.int (b : Int)) 0 ((m : Int) - 1) = true := fun m b h1 h2 h3 => ⟨decide_eq_true (by omega), decide_eq_true (by omega)⟩
    have no : ∀ {b : Bool} {X : Prop}, b = true → b = false → X := fun {b} {X} h1 h2 => absurd (h1.symm.trans h2) (by decide)
    have nn : ∀ {c : Option Nat}, V.non = cV c → c = none := fun {c} ec => by
      cases c with
      | none => rfl
      | some k => cases ec
    have ii : ∀ {x y : Nat}, V.int (x : Int) = .int (y : Int) → y = x := fun {x y} h => by
      have := V.int.inj h
      omega
    have re_bad : ∀ (k : Nat) (v : V) (H1 : Hp), k ≤ 200 → (∀ H', Same H1 H' → E (.ref (cs 2)) none H') → RefuseAt (cs 1) (cs 2) (.int (k : Int)) v .non H1 E := fun k v H1 hk e => by
      refine ⟨fun hx => ?_, fun n c en ec hn hc hf H' s' => e H' s'⟩
      rcases hx with hx | hx
      · rw [numB_nat (by omega)] at hx
        cases hx
      · cases hx
    have re_ok : ∀ (k j : Nat) (H1 : Hp), k ≤ 200 → j < cntc none k → RefuseAt (cs 1) (cs 2) (.int (k : Int)) (.int (j : Int)) .non H1 E := fun k j H1 hk hj => by
      refine ⟨fun hx => ?_, fun n c en ec hn hc hf => ?_⟩
      · rcases hx with hx | hx
        · rw [numB_nat (by omega)] at hx
          cases hx
        · cases hx
      · rw [ii en, nn ec, numB_nat (by omega)] at hf
        cases hf
    have bad_no : ∀ (k : Nat) (v : V), numB v (((cntc none k : Nat) : Int) - 1) = false → ∀ (n x : Nat) (c : Option Nat), V.int (k : Int) = .int (n : Int) → v = .int (x : Int) → V.non = cV c → x < cntc c n → False := fun k v hb n x c en er ec hx => by
      rw [nn ec, ii en] at hx
      rw [er, numB_nat (by omega)] at hb
      cases hb
    rcases h with ⟨j, bad, qe⟩ | ⟨a, b, c, d, rfl, rfl, rfl, rfl, ok, q⟩
    · cases bad with
      | n f1 f2 f3 f4 hb =>
        refine ⟨_, rfl, _, _, _, rfl, f1, by omega, by omega, fun hg => no hg (num1 hb), fun _ => qe H (fun _ _ h => h)⟩
      | @k m _ _ _ h1 h2 f1 f2 f3 hb =>
        refine ⟨_, rfl, _, _, _, rfl, rfl, by omega, by omega, fun _ => ?_, fun hf => no (kk m 0 h1 h2 (by omega)).1 hf⟩
        refine ⟨_, rfl, _, rfl, _, _, rfl, rfl, _, _, _, rfl, f1, by omega, by omega, fun hg => no hg hb, fun _ => qe H (fun _ _ h => h)⟩
      | @i m k i r h1 h2 f1 f2 hb =>
        refine ⟨_, rfl, _, _, _, rfl, rfl, by omega, by omega, fun _ => ?_, fun hf => no (kk m k (by omega) h2 h1).1 hf⟩
        refine ⟨_, rfl, _, rfl, _, _, rfl, rfl, _, _, _, rfl, rfl, by omega, by omega, fun _ => ?_, fun hf => no (kk m k (by omega) h2 h1).2 hf⟩
        exact ⟨_, rfl, _, rfl, _, _, _, rfl, rfl, f1, rfl, re_bad k _ H (by omega) qe, fun n x c e1 e2 e3 _ _ h3 => (bad_no k _ hb n x c e1 e2 e3 h3).elim⟩
      | @r m k i r h1 h2 h3 f1 hb =>
        refine ⟨_, rfl, _, _, _, rfl, rfl, by omega, by omega, fun _ => ?_, fun hf => no (kk m k (by omega) h2 h1).1 hf⟩
        refine ⟨_, rfl, _, rfl, _, _, rfl, rfl, _, _, _, rfl, rfl, by omega, by omega, fun _ => ?_, fun hf => no (kk m k (by omega) h2 h1).2 hf⟩
        refine ⟨_, rfl, _, rfl, _, _, _, rfl, rfl, rfl, rfl, re_ok k i H (by omega) h3, fun n' x' c' e1 e2 e3 _ _ _ H1 s1 => ?_⟩
        rw [ii e1, ii e2, nn e3]
        refine ⟨_, rfl, _, _, rfl, rfl, _, rfl, _, _, rfl, rfl, _, rfl, ?_⟩
        have em : (m : Int) - 1 - (k : Int) = ((m - 1 - k : Nat) : Int) := by omega
        exact ⟨.int ((m - 1 - k : Nat) : Int), r, .non, (by
          show [V.int ((m : Int) - 1 - (k : Int)), r, V.non] = _
          rw [em]), rfl, f1, rfl, re_bad (m - 1 - k) _ H1 (by omega) fun H2 s2 => qe H2 (s1.trans s2), fun n x c e1 e2 e3 _ _ h3 => (bad_no (m - 1 - k) _ hb n x c e1 e2 e3 h3).elim⟩
    · obtain ⟨hba, ha, hc, hd⟩ := ok
      refine ⟨_, rfl, _, _, _, rfl, rfl, by omega, by omega, fun _ => ?_, fun hf => no (kk a b (by omega) ha hba).1 hf⟩
      refine ⟨_, rfl, _, rfl, _, _, rfl, rfl, _, _, _, rfl, rfl, by omega, by omega, fun _ => ?_, fun hf => no (kk a b (by omega) ha hba).2 hf⟩
      refine ⟨_, rfl, _, rfl, _, _, _, rfl, rfl, rfl, rfl, re_ok b c H (by omega) hc, fun n' x' c' e1 e2 e3 _ _ _ H1 s1 => ?_⟩
      rw [ii e1, ii e2, nn e3]
      refine ⟨_, rfl, _, _, rfl, rfl, _, rfl, _, _, rfl, rfl, _, rfl, ?_⟩
      have em : (a : Int) - 1 - (b : Int) = ((a - 1 - b : Nat) : Int) := by omega
      refine ⟨.int ((a - 1 - b : Nat) : Int), .int (d : Int), .non, (by
          show [V.int ((a : Int) - 1 - (b : Int)), V.int (d : Int), V.non] = _
          rw [em]), rfl, rfl, rfl, re_ok (a - 1 - b) d H1 (by omega) hd, fun n' x' c' e1 e2 e3 _ _ _ H2 s2 => ?_⟩
      rw [ii e1, ii e2, nn e3]
      have h1 := rowOf_hill hc
      have h2 := rowOf_hill hd
      have z1 : (txt (rowOf none b c)).length = 2 * b := by rw [txt_len, h1.2]
      have z2 : (txt (rowOf none (a - 1 - b) d)).length = 2 * (a - 1 - b) := by rw [txt_len, h2.2]
      refine ⟨_, rfl, _, _, rfl, rfl, by omega, fun _ k hk _ H3 s3 => ?_, fun e => no (row_hillB h1.1) e, fun _ e => absurd e (by decide)⟩
      have : k = 1 := by
        have := V.int.inj hk
        omega
      subst this
      have lx : ∀ (j : Nat) (b : Bool), (txt (List.replicate j b)).length = j := fun j b => by rw [txt_len, List.length_replicate]
      refine ⟨_, rfl, _, _, rfl, rfl, sz (by rw [PySem.Str.length_append, PySem.Str.length_append, lx, lx]; omega), ?_⟩
      have et : txt (List.replicate 1 true) ++ txt (rowOf none b c) ++ txt (List.replicate 1 false) ++ txt (rowOf none (a - 1 - b) d) = txt (toldRow a b c d) := by
        rw [txt_append, txt_append, txt_append]
        unfold toldRow
        congr 1
        show [true] ++ rowOf none b c ++ [false] ++ rowOf none (a - 1 - b) d = _
        rw [List.append_assoc, List.append_assoc]
        rfl
      show Q (.str (txt (List.replicate 1 true) ++ txt (rowOf none b c) ++ txt (List.replicate 1 false) ++ txt (rowOf none (a - 1 - b) d))) H3
      rw [et]
      exact q H3 ((s1.trans s2).trans s3)
end
end Hr
/-! ### how many tuples a set holds -/
namespace Hr
open PySem PySem.Spec PyProof.Rows L2
def rLenT (K : PySem.W.Frag) (P : Program) (w : World) : List V → Hp → VK → Prop := fun xs H Q => ∃ (a : Addr) (L : List (Addr × List Int)), xs = [.ref a] ∧ H a = some (SetTO P w a L) ∧ (∀ p ∈ L, SqT K H p.1 (p.2.map V.int)) ∧ ((L.map (·.2)).Nodup → L.length < 64 → Q (.int (L.length : Nat)) H)
theorem call_lenT {X : Cx} : CallR X (.builtin "len") (rLenT X.K X.prog X.w) := by
  intro pins s σ H xs us Q I r h
  obtain ⟨a, L, rfl, ea, hL, q⟩ := h
  cases r with
  | cons rx rr =>
    cases rr
    cases rx
    obtain ⟨R, _⟩ := I.hok a _ ea
    have R : SetT0 X.prog X.w s.heap a L := R
    obtain ⟨es, ep, t, F⟩ := R.full fun p hp => I.isT (hL p hp)
    obtain ⟨o, ho, hex, hd⟩ := F.ob
    have hn : es.size = L.length := by
      have := congrArg List.length F.rows
      unfold rowsOf at this
      rw [Array.length_toList, List.length_map] at this
      exact this
    have few := F.few
    refine call_len_set ho hex hd F.fits (by rw [hn]; omega) ⟨.int (L.length : Nat), H, I.tok _, ⟨_, by rw [hn]⟩, q F.nd few⟩
/-- as many as there are, where no two are alike -/
theorem set_len {ks L : List (Addr × List Int)} (hk : (ks.map (·.2)).Nodup) (hL : (L.map (·.2)).Nodup) (h1 : ∀ p ∈ L, p ∈ ks) (h2 : ∀ p ∈ ks, p.2 ∈ L.map (·.2)) : L.length = ks.length := by
  have p : (L.map (·.2)).Perm (ks.map (·.2)) := by
    refine (List.perm_ext_iff_of_nodup hL hk).mpr fun x => ⟨fun hx => ?_, fun hx => ?_⟩
    · obtain ⟨p, hp, rfl⟩ := List.mem_map.mp hx
      exact List.mem_map.mpr ⟨p, h1 p hp, rfl⟩
    · obtain ⟨p, hp, rfl⟩ := List.mem_map.mp hx
      exact h2 p hp
  have := p.length_eq
  rw [List.length_map, List.length_map] at this
  exact this
end Hr
/-! ### the law -/
namespace Hr
open PySem PySem.Spec PyProof.Rows L2
section
variable {X : Cx}
theorem pe_c0 {k j : Nat} {x : Str} {sp : Sp} {p pos : Pos} (c : Cal X.K X.mg CX0 X.prog X.w X.base k x [] sp) (hr : Room j X.A) (hk : k ≤ j := by decide) (hg : Gl X x := by rfl) (hdb : (x == ("__debug__" : Str)) = false := by decide) : PE X (.Call (.Name x p) [] [] pos) (tCall sp [] E0 tNil) := by
  obtain ⟨f, fd, ps, ds, F, hm, kp, b, d⟩ := c.ex
  cases d
  exact pe_call0 F (hr.mono hk) hg hm kp b .nil pass0 hdb
end
abbrev nLaw : List Str := ["_law_script", "_law_row_here", "_law_end_here", "_law_due", "_law_mark", "_law_n", "_law_told", "_law_bad", "_law_over", "_law_far", "_law_number_here", "_law_one"]
theorem scLaw : FnScope nLaw ["_law_script"] (defScope sLaw) := ⟨rfl, rfl, rfl, by decide +kernel, rfl, by decide +kernel, by decide +kernel⟩
theorem cnt_few : ∀ n, n < 6 → W n (2 * n) 0 < 64 := by decide
theorem ne_self (z : Str) : (!decide (V.str z = V.str z)) = false := by
  rw [decide_eq_true rfl]
  rfl
/-- the numbers of the j-th row of n -/
def ToldOf (n j : Nat) (ns : List Int) : Prop := ∃ a b : Gv, rowOf none n j = (Gv.tree a b).row ∧ ns = told4 a b
theorem told_inj {a b a' b' : Gv} (h : told4 a b = told4 a' b') : a = a' ∧ b = b' := by
  unfold told4 at h
  injection h with h1 h
  injection h with h2 h
  injection h with h3 h
  injection h with h4 _
  have h1 : (Gv.tree a b).row.length / 2 = (Gv.tree a' b').row.length / 2 := by omega
  have h2 : a.row.length / 2 = a'.row.length / 2 := by omega
  have e1 := tree_half a b
  have e2 := tree_half a' b'
  have h5 : b.row.length / 2 = b'.row.length / 2 := by omega
  have r1 : a.row = a'.row := by
    have x := (gv_hill a).back
    have y := (gv_hill a').back
    rw [← x, ← y, h2]
    congr 1
    have : rk none (a.row.length / 2) a.row = rk none (a'.row.length / 2) a'.row := by omega
    rw [h2] at this
    exact this
  have r2 : b.row = b'.row := by
    have x := (gv_hill b).back
    have y := (gv_hill b').back
    rw [← x, ← y, h5]
    congr 1
    have : rk none (b.row.length / 2) b.row = rk none (b'.row.length / 2) b'.row := by omega
    rw [h5] at this
    exact this
  exact ⟨Gv.row_inj r1, Gv.row_inj r2⟩
theorem told_nodup {n : Nat} {ks : List (Addr × List Int)} (hl : ks.length ≤ cntc none n) (hk : ∀ j p, ks[j]? = some p → ToldOf n j p.2) : (ks.map (·.2)).Nodup := by
  refine List.pairwise_iff_getElem.mpr fun i j hi hj hij => ?_
  rw [List.length_map] at hi hj
  rw [List.getElem_map, List.getElem_map]
  intro e
  obtain ⟨a, b, r1, e1⟩ := hk i _ (List.getElem?_eq_getElem hi)
  obtain ⟨a', b', r2, e2⟩ := hk j _ (List.getElem?_eq_getElem hj)
  obtain ⟨x, y⟩ := told_inj (e1.symm.trans (e.trans e2))
  have hr : rowOf none n i = rowOf none n j := by rw [r1, r2, x, y]
  have z1 := rowOf_rk (c := none) (n := n) (r := i) (by omega)
  have z2 := rowOf_rk (c := none) (n := n) (r := j) (by omega)
  rw [hr, z2] at z1
  omega
theorem rowOf_tree {n j : Nat} (hn : 1 ≤ n) (hj : j < cntc none n) : ∃ a b : Gv, rowOf none n j = (Gv.tree a b).row := by
  have h := rowOf_hill hj
  obtain ⟨g, hg⟩ := grove_row h.1
  cases g with
  | no =>
    have := h.2
    rw [← hg] at this
    have : 0 = 2 * n := this
    omega
  | tree a b => exact ⟨a, b, hg.symm⟩
theorem numB_no {i m : Int} (h : ¬ (0 ≤ i ∧ i ≤ m)) : numB (.int i) m = false := decide_eq_false h
theorem bad12 {j : Int} (hj : 0 ≤ j ∧ j < 5) : ∃ (i : Nat) (v : V), j = (i : Int) ∧ ([V.int 0, .int (-1), .int 201, .bl true, .non])[i]? = some v ∧ flatV v = true ∧ (numB v 200 = false ∨ v = .int 0) := by
  obtain ⟨i, rfl⟩ : ∃ i : Nat, j = (i : Int) := ⟨j.toNat, by omega⟩
  match i, hj with
  | 0, _ => exact ⟨0, _, rfl, rfl, rfl, .inr rfl⟩
  | 1, _ => exact ⟨1, _, rfl, rfl, rfl, .inl (by decide)⟩
  | 2, _ => exact ⟨2, _, rfl, rfl, rfl, .inl (by decide)⟩
  | 3, _ => exact ⟨3, _, rfl, rfl, rfl, .inl rfl⟩
  | 4, _ => exact ⟨4, _, rfl, rfl, rfl, .inl rfl⟩
  | i + 5, hj => omega
theorem over12 {j : Int} (m : Nat) (hj : 0 ≤ j ∧ j < 4) : ∃ (i : Nat) (v : V), j = (i : Int) ∧ ([V.int (-1), .int (m : Int), .bl false, .str "0"])[i]? = some v ∧ flatV v = true ∧ numB v ((m : Int) - 1) = false := by
  obtain ⟨i, rfl⟩ : ∃ i : Nat, j = (i : Int) := ⟨j.toNat, by omega⟩
  match i, hj with
  | 0, _ => exact ⟨0, _, rfl, rfl, rfl, numB_no (by omega)⟩
  | 1, _ => exact ⟨1, _, rfl, rfl, rfl, numB_no (by omega)⟩
  | 2, _ => exact ⟨2, _, rfl, rfl, rfl, rfl⟩
  | 3, _ => exact ⟨3, _, rfl, rfl, rfl, rfl⟩
  | i + 4, hj => omega
theorem far12 {j : Int} (hj : 0 ≤ j ∧ j < 4) : ∃ (i : Nat) (v : V), j = (i : Int) ∧ ([V.int (-1), .int (10 ^ (50 : Int).toNat), .bl true, .non])[i]? = some v ∧ flatV v = true ∧ ∀ m : Int, m < 1000 → numB v m = false := by
  obtain ⟨i, rfl⟩ : ∃ i : Nat, j = (i : Int) := ⟨j.toNat, by omega⟩
  match i, hj with
  | 0, _ => exact ⟨0, _, rfl, rfl, rfl, fun m _ => numB_no (by omega)⟩
  | 1, _ =>
    refine ⟨1, _, rfl, rfl, rfl, fun m hm => numB_no ?_⟩
    have : (1000 : Int) < 10 ^ (50 : Int).toNat := by decide +kernel
    omega
  | 2, _ => exact ⟨2, _, rfl, rfl, rfl, fun _ _ => rfl⟩
  | 3, _ => exact ⟨3, _, rfl, rfl, rfl, fun _ _ => rfl⟩
  | i + 4, hj => omega
theorem sh_told (a b : Gv) : SeqAt.shaped (.tuple ((told4 a b).map PyData.int)) = true := by
  show (PyData.canLayAll0 ((told4 a b).map PyData.int) && decide (PyData.depthAll ((told4 a b).map PyData.int) + 1 ≤ 64)) = true
  rw [lay_ints, dep_ints]
  rfl
theorem told_row (a b : Gv) : toldRow ((Gv.tree a b).row.length / 2) (a.row.length / 2) (rk none (a.row.length / 2) a.row) (rk none (b.row.length / 2) b.row) = (Gv.tree a b).row := by
  unfold toldRow
  rw [(gv_hill a).back, tree_half, show a.row.length / 2 + b.row.length / 2 + 1 - 1 - a.row.length / 2 = b.row.length / 2 by omega, (gv_hill b).back]
  rfl
theorem told_ok {a b : Gv} (h : (Gv.tree a b).row.length ≤ 400) : ToldOk ((Gv.tree a b).row.length / 2) (a.row.length / 2) (rk none (a.row.length / 2) a.row) (rk none (b.row.length / 2) b.row) := by
  have e := tree_half a b
  refine ⟨by omega, by omega, (gv_hill a).rk_lt, ?_⟩
  rw [e, show a.row.length / 2 + b.row.length / 2 + 1 - 1 - a.row.length / 2 = b.row.length / 2 by omega]
  exact (gv_hill b).rk_lt
section
variable {P : Program} {w : World} {K : PySem.W.Frag} {mg : Str → Option Value} {base : Heap} {cs : Nat → Addr} {CN CC : Addr}
def spEmpty : Sp := fun vs H Q _ => vs = [] ∧ ∀ H', Same H H' → Q (.str "row") H'
theorem cal_empty {CH : Addr} (D : Def K mg "_law_empty" sEmpty []) (gH : mg "HillError" = some (.ref CH)) (er : IsErr K cs 0) (ex : PySem.W.exmOne K (.ref (cs 0)) (.ref CH) = some true)
    (c_told : Cal K mg (L2.CX P w) P w base 7 "rank_told" [] (spRankToldX (cs 0))) (c_word : Cal K mg CX0 P w base 1 "_law_word" [] (spWordE K cs)) : Cal K mg CX0 P w base 8 "_law_empty" [] spEmpty := by
  refine D.cal scEmpty (fun vs H Q E h => ?_) (fun f cdv A outer s H vs Q E hr h => ?_)
  · obtain ⟨rfl, _⟩ := h
    rfl
  · obtain ⟨rfl, q⟩ := h
    have nd := scEmpty.nd
    refine ⟨_, pss_cons (ps_set (i := 0) nd rfl (.inl rfl) pe_non)
      (pss_cons (kept_try (i := 1) (c := .ref CH) (tb := fun W => tDrop (tCallS (spRankToldX (cs 0)) (WE W) (tCons (tC (.str "")) tNil))) (ts := fun _ => tAsg (tVar 1) (gName 0)) rfl rfl rfl nd rfl rfl ⟨rfl, by decide, .inl gH⟩
          (fun W pn xe tk po => pss_one (ps_expr (by exact (pe_cT c_told hr tk (pa_cons pe_str pa_nil)))))
          (fun a q => pss_one (ps_set (i := 0) nd rfl (.inl rfl) (pv 1))))
      (pss_one (ps_ret (pe_c c_word hr (pa_cons (pv 0) pa_nil))))), ?_⟩
    refine ⟨"", rfl, by decide +kernel, fun a b hab => ?_, fun _ H1 s1 => ⟨ex, fun a na => ?_⟩⟩
    · have := txt_inj (hab.symm.trans enil)
      cases this
    · refine ⟨_, rfl, ?_⟩
      refine ⟨_, rfl, .inl ⟨a, 0, rfl, upd_same, er, fun H2 s2 => ?_⟩⟩
      exact q H2 ((s1.trans (same_upd na)).trans s2)
def spLaw (K : PySem.W.Frag) : Sp := fun vs H Q _ => ∃ (a : Addr) (ns : List Int), vs = [.ref a] ∧ SqL K H a (ns.map V.int) ∧ ns.length ≤ 63 ∧ ∀ H', Q (.bl true) H'
set_option maxHeartbeats 2000000 in
theorem ok_law {f : Addr} {fd : FuncData} (F : Fun K "law" "law" sLaw f fd) (c_law_row : Cal K mg CX0 P w base 2 "_law_row" [] (spLRow K)) (c_law_number : Cal K mg CX0 P w base 2 "_law_number" [] (spNumber K)) (c_law_end : Cal K mg CX0 P w base 1 "_law_end" [] spEnd) (c_rank1 : Cal K mg (L2.CX P w) P w base 5 "rank" [.non] (spRankX CC CN))
    (c_rank_told : Cal K mg (L2.CX P w) P w base 7 "rank_told" [] (spRankToldX CN)) (c_row_told : Cal K mg (L2.CX P w) P w base 6 "row_told" [] (spRowTold cs)) (c_row_at1 : Cal K mg (L2.CX P w) P w base 4 "row_at" [.non] (spRowAtX (cs 1) (cs 2))) (c_counted1 : Cal K mg (L2.CX P w) P w base 4 "counted" [.non] (spCountedX CC))
    (c_law_asked : Cal K mg CX0 P w base 7 "_law_asked" [] spAsk12) (c_law_empty : Cal K mg CX0 P w base 8 "_law_empty" [] spEmpty) (m_len : mg "len" = none) (m_range : mg "range" = none) (m_set : mg "set" = none) : FnOk P w K mg base CX0 9 f fd ["_law_script"] (spLaw K) := by
  refine F.ok scLaw (fun vs H Q E h => ?_) (fun cdv A outer s H vs Q E hr h => ?_)
  · obtain ⟨a, ns, rfl, _⟩ := h
    rfl
  · obtain ⟨a, ns, rfl, hS, hlen, q⟩ := h
    have nd := scLaw.nd
    refine ⟨_, (pss_cons (ps_set (i := 1) nd rfl (.inl rfl) (pe_c c_law_row hr (pa_cons (pe_slice sl_list (pv 0) po_none (po_some pe_int)) (pa_cons pe_non pa_nil))))
    (C8.pss_cut (ps_if (pt_cmpR op_ne (pv 1) pe_str (nomark _)) (pss_cons (ps_set (i := 2) nd rfl (.inl rfl) (pe_c c_law_end hr (pa_cons (pv 1) pa_nil)))
      (pss_cons (ps_set (i := 3) nd rfl (.inl rfl) (pe_tup (pa_cons (pe_op op_fdiv (pe_callB call_len_str (by rfl) m_len PySem.boot_len (pa_cons (pv 1) pa_nil)) pe_int) (pa_cons (pe_op op_fdiv (pe_op op_sub (pv 2) pe_int) pe_int) (pa_cons (pe_cL c_rank1 hr (pa_cons (pe_slice sl_str (pv 1) (po_some pe_int) (po_some (pv 2))) pa_nil)) (pa_cons (pe_cL c_rank1 hr (pa_cons (pe_slice sl_str (pv 1) (po_some (pe_op op_add (pv 2) pe_int)) po_none) pa_nil)) pa_nil))))))
      (pss_one (ps_if (PW.pt (pw_or (pt_cmpR (op_neD hr.units) (pe_cL c_rank_told hr (pa_cons (pv 1) pa_nil)) (pv 3) (nomark _)) (pw_or1 (pt_cmpR op_ne (pe_cL c_row_told hr (pa_cons (pe_ix ix_tup (pv 3) pe_int (fun _ _ => rfl)) (pa_cons (pe_ix ix_tup (pv 3) pe_int (fun _ _ => rfl)) (pa_cons (pe_ix ix_tup (pv 3) pe_int (fun _ _ => rfl)) (pa_cons (pe_ix ix_tup (pv 3) pe_int (fun _ _ => rfl)) pa_nil))))) (pv 1) (nomark _))))) (pss_one (ps_ret pe_bl)) pss_nil)))) pss_nil)
    (pss_cons (ps_set (i := 4) nd rfl (.inl rfl) (pe_c c_law_number hr (pa_cons (pv 0) (pa_cons pe_int pa_nil))))
    (pss_cons (ps_set (i := 5) nd rfl (.inr rfl) (pe_op op_add pe_int (pe_op op_mod (pv 4) pe_int)))
    (pss_cons (ps_setLc (i := 6) (own := [("_law_number_here", 10)]) (g := gName 10) (tt := tYes) rfl nd rfl rfl (sw_true rfl rfl rfl (by decide +kernel)) (pi_range1 (by rfl) m_range (pa_cons (pe_cL c_counted1 hr (pa_cons (pv 5) pa_nil)) pa_nil)) (blkOk_by (N := nLaw) (sc := defScope sLaw) (by decide +kernel)) (fun _ _ _ _ _ => (pg_name (i := 10) nd rfl (Or.inl rfl) (Or.inr rfl))) (fun _ _ _ _ _ => pts_nil) (fun _ _ _ _ _ => (pe_cL c_rank_told hr (pa_cons (pe_cL c_row_at1 hr (pa_cons (pv 5) (pa_cons (pv 10) pa_nil))) pa_nil))))
    (pss_cons (ps_if (PW.pt (pw_or (pt_cmpR op_ne (pe_callB call_lenT (by rfl) m_len PySem.boot_len (pa_cons (pe_callTy (cr_setOfT rfl hr.units) (by rfl) m_set PyProof.Rows.boot_set (pa_cons (pv 6) pa_nil)) pa_nil)) (pe_callB call_len_seq (by rfl) m_len PySem.boot_len (pa_cons (pv 6) pa_nil)) (nomark _)) (pw_or1 (pt_cmpR (op_neD hr.units) (pe_lc (own := [("_law_one", 11)]) (g := gName 11) rfl nd (pi_list (pv 6)) (blkOk_by (N := nLaw) (sc := defScope sLaw) (by decide +kernel)) (fun _ _ _ _ _ => (pg_name (i := 11) nd rfl (Or.inl rfl) (Or.inr rfl))) (fun _ _ _ _ _ => pts_one (pt_cmpR op_ne (pe_ix (r := rIxT K) ix_tup (pv 11) pe_int (fun _ _ => rfl)) (pv 5) (nomark _))) (fun _ _ _ _ _ => (pv 11))) (pe_lst pa_nil) (nomark _))))) (pss_one (ps_ret pe_bl)) pss_nil)
    (pss_cons (ps_set (i := 7) nd rfl (.inl rfl) (pe_ix ix_list (pe_lst (pa_cons pe_int (pa_cons (pe_un un_neg pe_int) (pa_cons pe_int (pa_cons pe_bl (pa_cons pe_non pa_nil)))))) (pe_op op_mod (pe_op op_fdiv (pv 4) pe_int) pe_int) (fun _ _ => rfl)))
    (pss_cons (ps_set (i := 8) nd rfl (.inl rfl) (pe_ix ix_list (pe_lst (pa_cons (pe_un un_neg pe_int) (pa_cons (pv 5) (pa_cons pe_bl (pa_cons pe_str pa_nil))))) (pe_op op_mod (pe_op op_fdiv (pv 4) pe_int) pe_int) (fun _ _ => rfl)))
    (pss_cons (ps_set (i := 9) nd rfl (.inl rfl) (pe_ix ix_list (pe_lst (pa_cons (pe_un un_neg pe_int) (pa_cons (pe_op op_pow pe_int pe_int) (pa_cons pe_bl (pa_cons pe_non pa_nil))))) (pe_op op_mod (pe_op op_fdiv (pv 4) pe_int) pe_int) (fun _ _ => rfl)))
    (pss_cons (ps_if (PW.pt (pw_or (pt_cmpR op_ne (pe_c c_law_asked hr (pa_cons (pv 7) (pa_cons (pv 8) (pa_cons (pv 9) (pa_cons (pv 9) pa_nil))))) pe_str (nomark _)) (pw_or1 (pt_cmpR op_ne (pe_c c_law_asked hr (pa_cons (pv 5) (pa_cons (pv 8) (pa_cons (pv 9) (pa_cons (pv 9) pa_nil))))) pe_str (nomark _))))) (pss_one (ps_ret pe_bl)) pss_nil)
    (pss_cons (ps_if (PW.pt (pw_or (pt_cmpR op_ne (pe_c c_law_asked hr (pa_cons (pv 5) (pa_cons (pe_op op_sub (pv 5) pe_int) (pa_cons (pv 9) (pa_cons (pv 9) pa_nil))))) pe_str (nomark _)) (pw_or1 (pt_cmpR op_ne (pe_c c_law_asked hr (pa_cons (pv 5) (pa_cons (pe_op op_sub (pv 5) pe_int) (pa_cons (pe_cL c_counted1 hr (pa_cons (pe_op op_sub (pv 5) pe_int) pa_nil)) (pa_cons pe_int pa_nil))))) pe_str (nomark _))))) (pss_one (ps_ret pe_bl)) pss_nil)
    (pss_cons (ps_if (PW.pt (pw_or (pt_cmpR op_ne (pe_c c_law_asked hr (pa_cons (pv 5) (pa_cons pe_int (pa_cons pe_int (pa_cons (pe_cL c_counted1 hr (pa_cons (pe_op op_sub (pv 5) pe_int) pa_nil)) pa_nil))))) pe_str (nomark _)) (pw_or1 (pt_cmpR op_ne (pe_c c_law_asked hr (pa_cons (pv 5) (pa_cons pe_int (pa_cons pe_int (pa_cons pe_int pa_nil))))) pe_str (nomark _))))) (pss_one (ps_ret pe_bl)) pss_nil)
    (pss_one (ps_ret (pe_and (pe_cmpR op_eq (pe_c0 c_law_empty hr) pe_str (nomark _)) (pe_one (pe_cmpR op_eq (pe_c c_law_asked hr (pa_cons (pv 5) (pa_cons pe_int (pa_cons pe_int (pa_cons (pe_op op_sub (pe_cL c_counted1 hr (pa_cons (pe_op op_sub (pv 5) pe_int) pa_nil)) pe_int) pa_nil))))) pe_str (nomark _)))))))))))))))))), ?_⟩
    obtain ⟨m2, e2, hm2⟩ := cut_ints ns none (some 80)
    refine ⟨.ref a, rfl, 80, rfl, a, _, rfl, hS, fun p2 np2 => ?_⟩
    rw [e2]
    have s0 := same_upd (o := .lst (m2.map V.int)) np2
    refine ⟨p2, m2, none, rfl, .inl (.inl upd_same), by omega, trivial, fun H1 l n s1 hl hn => ?_⟩
    have sA := s0.trans s1
    obtain ⟨g, rfl⟩ := grove_row (okb_any hl.1)
    have hgl : g.row.length ≤ 120 := by rw [hl.2]; omega
    have nn : ∀ {c : Option Nat}, V.non = cV c → c = none := fun {c} ec => by
      cases c with
      | none => rfl
      | some k => cases ec
    have rank_of : ∀ (g : Gv) (H1 : Hp) (R : VK), g.row.length / 2 ≤ 200 → (∀ H', Same H1 H' → R (.int ((rk none (g.row.length / 2) g.row : Nat) : Int)) H') → spRankX CC CN [.str (txt g.row), .non] H1 R E0 := fun g H1 R hn k => by
      have hg := (gv_hill g).2
      refine ⟨txt g.row, .non, rfl, rfl, by rw [txt_len]; omega, ⟨fun e => absurd e (by decide), fun c ec _ hf => ?_⟩, fun c ec hc hh => ?_⟩
      · rw [nn ec] at hf
        exact absurd ((row_hillB g.row_hill).symm.trans hf) (by decide)
      · have := nn ec
        subst this
        exact ⟨g.row, none, g.row.length / 2, rfl, trivial, gv_hill g, hn, k⟩
    refine ⟨fun σ' H' => ∃ y2 y3 : Option V, σ' = [some (.ref a), some (.str (txt g.row)), y2, y3, none, none, none, none, none, none, none, none] ∧ Same H H', ?_, ?_⟩
    · refine ⟨_, rfl, rfl, _, rfl, ?_⟩
      cases g with
      | no =>
        rw [show (!decide (V.str (txt Gv.no.row) = V.str "")) = false by rw [decide_eq_true (show V.str (txt Gv.no.row) = V.str "" from congrArg V.str enil.symm)]; rfl]
        refine iteF ?_
        exact ⟨none, none, rfl, sA⟩
      | tree x y =>
        have hne : ¬ (V.str (txt (Gv.tree x y).row) = V.str "") := fun z => by
          have := txt_inj ((V.str.inj z).trans enil)
          cases this
        rw [show (!decide (V.str (txt (Gv.tree x y).row) = V.str "")) = true by rw [decide_eq_false hne]; rfl]
        refine iteT ?_
        have hsum : x.row.length + y.row.length + 2 = (Gv.tree x y).row.length := by
          rw [tree_row, List.length_append, List.length_cons, List.length_append]
          have : ([false] : List Bool).length = 1 := rfl
          omega
        have zl : (txt (Gv.tree x y).row).length = (Gv.tree x y).row.length := txt_len _
        refine ⟨_, rfl, x.row, y.row, rfl, x.row_hill, by omega, fun H2 s2 => ?_⟩
        have c1 : cutS (txt (Gv.tree x y).row) (some 1) (some ((x.row.length + 1 : Nat) : Int)) = txt x.row := by
          rw [show (1 : Int) = ((1 : Nat) : Int) from rfl, cutS_mid (by omega) (by omega)]
          congr 1
          show ((true :: (x.row ++ false :: y.row)).drop 1).take (x.row.length + 1 - 1) = _
          rw [List.drop_succ_cons, List.drop_zero, Nat.add_sub_cancel, List.take_left']
          rfl
        have c2 : cutS (txt (Gv.tree x y).row) (some (((x.row.length + 1 : Nat) : Int) + 1)) none = txt y.row := by
          rw [show ((x.row.length + 1 : Nat) : Int) + 1 = ((x.row.length + 2 : Nat) : Int) by omega, cutS_from (by omega), tree_row, List.drop_left']
          rw [List.length_cons, List.length_append]
          rfl
        refine ⟨_, rfl, _, rfl, sz (by omega), _, 2, rfl, rfl, ⟨by decide, by decide⟩, _, rfl, _, 1, rfl, rfl, _, 2, rfl, rfl, ⟨by decide, by decide⟩, ?_⟩
        refine ⟨_, rfl, 1, rfl, _, rfl, _, rfl, txt (Gv.tree x y).row, rfl, sz (by omega), ?_⟩
        rw [c1]
        refine rank_of x H2 _ (by omega) fun H3 s3 => ?_
        refine ⟨_, rfl, _, rfl, _, 1, rfl, rfl, _, rfl, txt (Gv.tree x y).row, rfl, sz (by omega), ?_⟩
        rw [c2]
        refine rank_of y H3 _ (by omega) fun H4 s4 => ?_
        refine ⟨sz (show 4 ≤ 1000000 by decide), fun t nt => ?_⟩
        have s5 := same_upd (o := .tup [.int (((txt (Gv.tree x y).row).length : Int) / 2), .int ((((x.row.length + 1 : Nat) : Int) - 1) / 2), .int ((rk none (x.row.length / 2) x.row : Nat) : Int), .int ((rk none (y.row.length / 2) y.row : Nat) : Int)]) nt
        have sB := (((sA.trans s2).trans s3).trans s4).trans s5
        have et : (upd H4 t (.tup [.int (((txt (Gv.tree x y).row).length : Int) / 2), .int ((((x.row.length + 1 : Nat) : Int) - 1) / 2), .int ((rk none (x.row.length / 2) x.row : Nat) : Int), .int ((rk none (y.row.length / 2) y.row : Nat) : Int)])) t = some (.tup ((told4 x y).map V.int)) := by
          rw [upd_same, zl, show ((Gv.tree x y).row.length : Int) / 2 = (((Gv.tree x y).row.length / 2 : Nat) : Int) by omega, show (((x.row.length + 1 : Nat) : Int) - 1) / 2 = ((x.row.length / 2 : Nat) : Int) by omega]
          rfl
        clear s5 nt
        show gName 3 (V.ref t) _ (upd H4 t (.tup [.int (((txt (Gv.tree x y).row).length : Int) / 2), .int ((((x.row.length + 1 : Nat) : Int) - 1) / 2), .int ((rk none (x.row.length / 2) x.row : Nat) : Int), .int ((rk none (y.row.length / 2) y.row : Nat) : Int)])) _
        generalize upd H4 t (.tup [.int (((txt (Gv.tree x y).row).length : Int) / 2), .int ((((x.row.length + 1 : Nat) : Int) - 1) / 2), .int ((rk none (x.row.length / 2) x.row : Nat) : Int), .int ((rk none (y.row.length / 2) y.row : Nat) : Int)]) = H5 at sB et ⊢
        have sht := sh_told x y
        refine ⟨_, rfl, txt (Gv.tree x y).row, rfl, by omega, fun x' y' hxy H6 p6 s6 np6 ep6 => ?_, fun hb => ?_⟩
        · have : Gv.tree x' y' = Gv.tree x y := Gv.row_inj (txt_inj hxy).symm
          cases this
          have et6 := s6 _ _ et
          refine ⟨_, rfl, .tuple ((told4 x y).map PyData.int), .tuple ((told4 x y).map PyData.int), .tup (.inl (.inl ep6)) (dp_ints _), .tup (.inl (.inl et6)) (dp_ints _), sht, sht, _, rfl, ?_⟩
          rw [same_data sht]
          refine iteF ?_
          refine ⟨_, rfl, t, _, _, _, rfl, rfl, .inl (.inl et6), at_of (j := 0) rfl rfl, _, rfl, t, _, _, _, rfl, rfl, .inl (.inl et6), at_of (j := 1) rfl rfl, _, rfl, t, _, _, _, rfl, rfl, .inl (.inl et6), at_of (j := 2) rfl rfl, _, rfl, t, _, _, _, rfl, rfl, .inl (.inl et6), at_of (j := 3) rfl rfl, ?_⟩
          refine ⟨_, _, _, _, rfl, .inr ⟨_, _, _, _, rfl, rfl, rfl, rfl, told_ok (by omega), fun H7 s7 => ?_⟩⟩
          rw [told_row]
          refine ⟨_, rfl, rfl, _, rfl, ?_⟩
          rw [ne_self]
          refine iteF ?_
          exact ⟨_, _, rfl, (sB.trans s6).trans s7⟩
        · rcases hb with hb | hb
          · have := txt_inj hb
            cases this
          · exact absurd ((row_hillB (Gv.tree x y).row_hill).symm.trans hb) (by decide)
    · rintro σ' H2 ⟨y2, y3, rfl, s2⟩
      refine ⟨.ref a, rfl, a, ns, 0, rfl, s2.seq hS, ?_⟩
      have mk0 := mixed_nonneg (ns.getD 0 0) ((0 : Nat) : Int)
      have mk1 := mixed_lt (ns.getD 0 0) ((0 : Nat) : Int)
      generalize mixed (ns.getD 0 0) ((0 : Nat) : Int) = mk at mk0 mk1 ⊢
      refine ⟨_, rfl, mk, 5, rfl, rfl, (by show (0 : Int) < 5; decide), 1, _, rfl, rfl, ?_⟩
      obtain ⟨m, em, hm1, hm5⟩ : ∃ m : Nat, 1 + mk % 5 = (m : Int) ∧ 1 ≤ m ∧ m ≤ 5 := ⟨(1 + mk % 5).toNat, by omega, by omega, by omega⟩
      show gName 5 (V.int (1 + mk % 5)) _ _ _
      rw [em]
      have hcnt : cntc none m < 64 := cnt_few m (by omega)
      have hcnt1 : cntc none (m - 1) < 64 := cnt_few (m - 1) (by omega)
      have count_of : ∀ (n : Nat) (H1 : Hp) (R : VK), n ≤ 200 → (∀ H', Same H1 H' → R (.int ((cntc none n : Nat) : Int)) H') → spCountedX CC [.int (n : Int), .non] H1 R E0 := fun n H1 R hn k => by
        refine ⟨_, _, rfl, rfl, rfl, fun _ _ => ⟨n, none, rfl, hn, trivial, k⟩, fun hx => ?_⟩
        rcases hx with hx | hx
        · rw [numB_nat (by omega)] at hx
          cases hx
        · cases hx
      refine ⟨_, rfl, count_of m H2 _ (by omega) fun H3 s3 => ?_⟩
      refine ⟨((cntc none m : Nat) : Int), rfl, by omega, by omega, fun D nD => ?_⟩
      refine lc_range (lo := 0) (n := cntc none m) (fun i H' => Same H3 H' ∧ ∃ ks : List (Addr × List Int), ks.length = i ∧ H' D = some (.lst (ks.map fun p => V.ref p.1)) ∧ (∀ p ∈ ks, H' p.1 = some (.tup (p.2.map V.int))) ∧ ∀ j p, ks[j]? = some p → ToldOf m j p.2) ?_ ?_ ?_
      · exact ⟨same_upd nD, [], rfl, upd_same, (fun p hp => by cases hp), fun j p hj => by cases hj⟩
      · rintro i H4 hi ⟨sm, ks, kl, eD, ek, et⟩
        obtain ⟨x, y, hxy⟩ := rowOf_tree hm1 hi
        have hh := rowOf_hill hi
        have hxl : (Gv.tree x y).row.length = 2 * m := by rw [← hxy]; exact hh.2
        refine ⟨rfl, ?_⟩
        unfold tYes
        refine iteT ?_
        refine ⟨_, rfl, _, rfl, .int (m : Int), .int (i : Int), .non, (by
          show [V.int (m : Int), V.int (0 + (i : Int)), V.non] = _
          rw [Int.zero_add]), rfl, rfl, rfl, ⟨fun hx => ?_, fun n c en ec hn hc hf => ?_⟩, fun n' x' c' e1 e2' e3 _ _ _ H5 s5 => ?_⟩
        · rcases hx with hx | hx
          · rw [numB_nat (by omega)] at hx
            cases hx
          · cases hx
        · have h1 : n = m := by
            have := V.int.inj en
            omega
          rw [h1, nn ec, numB_nat (by omega)] at hf
          cases hf
        · have h1 : n' = m := by
            have := V.int.inj e1
            omega
          have h2 : x' = i := by
            have := V.int.inj e2'
            omega
          rw [h1, h2, nn e3, hxy]
          refine ⟨txt (Gv.tree x y).row, rfl, by rw [txt_len]; omega, fun x' y' hxy' H6 p6 s6 np6 ep6 => ?_, fun hb => ?_⟩
          · have : Gv.tree x' y' = Gv.tree x y := Gv.row_inj (txt_inj hxy').symm
            cases this
            have eD6 := s6 _ _ (s5 _ _ eD)
            have p6D : p6 ≠ D := fun z => by
              rw [z, s5 _ _ eD] at np6
              cases np6
            have n3 : H3 D = none := nD
            refine ⟨_, eD6, szl (by rw [List.length_map]; omega), same_updN ((sm.trans s5).trans s6) n3, ks ++ [(p6, told4 x y)], by rw [List.length_append, kl]; rfl, ?_, fun p hp => ?_, fun j p hj => ?_⟩
            · rw [upd_same, List.map_append]
              rfl
            · rcases List.mem_append.mp hp with hp | hp
              · have e4 := ek p hp
                have pD : p.1 ≠ D := fun z => by
                  rw [z, eD] at e4
                  cases e4
                rw [upd_ne pD]
                exact s6 _ _ (s5 _ _ e4)
              · rw [List.mem_singleton.mp hp]
                rw [upd_ne p6D]
                exact ep6
            · by_cases hji : j < ks.length
              · rw [List.getElem?_append_left hji] at hj
                exact et j p hj
              · rw [List.getElem?_append_right (by omega)] at hj
                have hj0 : j - ks.length = 0 := by
                  have := (List.getElem?_eq_some_iff.mp hj).1
                  have : ([(p6, told4 x y)] : List (Addr × List Int)).length = 1 := rfl
                  omega
                rw [hj0] at hj
                have : p = (p6, told4 x y) := (Option.some.inj hj).symm
                subst this
                have : j = i := by omega
                subst this
                exact ⟨x, y, hxy, rfl⟩
          · rcases hb with hb | hb
            · have := txt_inj hb
              cases this
            · exact absurd ((row_hillB (Gv.tree x y).row_hill).symm.trans hb) (by decide)
      · rintro H4 ⟨sm, ks, kl, eD, ek, et⟩
        have hnd := told_nodup (by omega) et
        -- the set
        refine ⟨_, rfl, D, ks, rfl, .inl (.inl eD), fun p hp => .inl (.inl (ek p hp)), by omega, fun st L nst h1 h2 => ?_⟩
        have s6 := same_upd (o := SetTO P w st L) nst
        refine ⟨st, L, rfl, upd_same, fun p hp => .inl (.inl (s6 _ _ (ek p (h1 p hp)))), fun hLn few => ?_⟩
        have hL := set_len hnd hLn h1 h2
        have eD2 := s6 _ _ eD
        have ek2 : ∀ p ∈ ks, (upd H4 st (SetTO P w st L)) p.1 = some (.tup (p.2.map V.int)) := fun p hp => s6 _ _ (ek p hp)
        have sD := (s2.trans s3).trans (sm.trans s6)
        clear s6 nst
        show tVar 6 _ (upd H4 st (SetTO P w st L)) _
        generalize upd H4 st (SetTO P w st L) = H5 at eD2 ek2 sD ⊢
        refine ⟨_, rfl, D, _, rfl, .inl (.inl (.inl eD2)), rfl, _, rfl, ?_⟩
        rw [show (!decide (V.int ((L.length : Nat) : Int) = V.int (((ks.map fun p => V.ref p.1).length : Nat) : Int))) = false by
          rw [hL, List.length_map, decide_eq_true rfl]
          rfl]
        refine iteF ?_
        -- none of another n
        refine ⟨_, rfl, D, rfl, ⟨_, .inl (.inl eD2)⟩, fun D2 nD2 => ?_⟩
        refine lc_it (walk_list (K := K) (a := D) (xs := ks.map fun p => V.ref p.1)) (fun i H' => Same H5 H' ∧ H' D2 = some (.lst [])) ⟨same_upd nD2, upd_same⟩ ?_ ?_ ?_
        · rintro i H' _ ⟨sm2, _⟩
          exact .inl (.inl (sm2 _ _ eD2))
        · rintro i v H6 H7 hi ⟨sm2, e2D⟩ ⟨rfl, ev⟩
          rw [List.length_map] at hi
          have hki : ks[i]? = some ks[i] := List.getElem?_eq_getElem hi
          have hkm : ks[i] ∈ ks := List.getElem_mem hi
          generalize ks[i] = p at hki hkm
          have ev : v = .ref p.1 := by
            have ev : (ks.map fun p => V.ref p.1)[i]? = some v := ev
            rw [List.getElem?_map, hki] at ev
            exact (Option.some.inj ev).symm
          subst ev
          obtain ⟨x, y, hxy, e4⟩ := et i p hki
          have hxl : (Gv.tree x y).row.length = 2 * m := by
            rw [← hxy]
            exact (rowOf_hill (by omega)).2
          have ep := sm2 _ _ (ek2 p hkm)
          refine ⟨rfl, ?_⟩
          refine ⟨_, rfl, p.1, _, _, .int (m : Int), rfl, rfl, .inl (.inl ep), at_of (j := 0) rfl ?_, _, rfl, rfl, _, rfl, ?_⟩
          · rw [e4]
            show some (V.int (((Gv.tree x y).row.length / 2 : Nat) : Int)) = _
            rw [hxl, show 2 * m / 2 = m by omega]
          · rw [show (!decide (V.int (m : Int) = V.int (m : Int))) = false by rw [decide_eq_true rfl]; rfl]
            refine iteF ?_
            exact ⟨sm2, e2D⟩
        · rintro H6 ⟨sm2, e2D⟩
          refine ⟨sz (by decide), fun p9 np9 => ?_⟩
          have s9 := same_upd (o := .lst []) np9
          refine ⟨.list [], .list [], .lst (.inl (.inl (s9 _ _ e2D))) .nil, .lst (.inl (.inl upd_same)) .nil, sh_nil, sh_nil, _, rfl, ?_⟩
          rw [same_data sh_nil]
          refine iteF ?_
          clear eD2 ek2 eD ek et hnd hL e2D h1 h2
          generalize upd H6 p9 (.lst []) = H7
          -- what is refused
          obtain ⟨i1, bad, ei1, gb, fb, bb⟩ := bad12 (j := mk / 5 % 5) ⟨by omega, by omega⟩
          obtain ⟨i2, over, ei2, go, fo, bo⟩ := over12 m (j := mk / 25 % 4) ⟨by omega, by omega⟩
          obtain ⟨i3, far, ei3, gf, ff, bf⟩ := far12 (j := mk / 100 % 4) ⟨by omega, by omega⟩
          refine ⟨1, rfl, sz (show 5 ≤ 1000000 by decide), fun p10 np10 => ?_⟩
          refine ⟨_, rfl, mk, 5, rfl, rfl, ⟨by decide, by decide⟩, mk / 5, 5, rfl, rfl, (by show (0 : Int) < 5; decide), p10, _, _, bad, rfl, rfl, .inl (.inl upd_same), at_of (j := i1) ei1 gb, ?_⟩
          refine ⟨1, rfl, _, rfl, sz (show 4 ≤ 1000000 by decide), fun p11 np11 => ?_⟩
          refine ⟨_, rfl, mk, 25, rfl, rfl, ⟨by decide, by decide⟩, mk / 25, 4, rfl, rfl, (by show (0 : Int) < 4; decide), p11, _, _, over, rfl, rfl, .inl (.inl upd_same), at_of (j := i2) ei2 go, ?_⟩
          refine ⟨1, rfl, 10, 50, rfl, rfl, ⟨by decide, by decide, by decide⟩, sz (show 4 ≤ 1000000 by decide), fun p12 np12 => ?_⟩
          refine ⟨_, rfl, mk, 100, rfl, rfl, ⟨by decide, by decide⟩, mk / 100, 4, rfl, rfl, (by show (0 : Int) < 4; decide), p12, _, _, far, rfl, rfl, .inl (.inl upd_same), at_of (j := i3) ei3 gf, ?_⟩
          have wc : (!decide (V.str (wordAt 1) = V.str "count")) = false := ne_self "count"
          have wr : (!decide (V.str (wordAt 2) = V.str "rank")) = false := ne_self "rank"
          have em1 : (m : Int) - 1 = ((m - 1 : Nat) : Int) := by omega
          refine ⟨_, rfl, _, rfl, _, rfl, _, rfl, _, _, _, _, rfl, .inl ⟨1, by decide, .n fb fo ff ff bb, fun H8 s8 => ⟨rfl, _, rfl, ?_⟩⟩⟩
          rw [wc]
          refine iteF ?_
          refine ⟨_, rfl, _, rfl, _, rfl, _, rfl, _, _, _, _, rfl, .inl ⟨1, by decide, .k hm1 (by omega) fo ff ff bo, fun H9 s9 => ⟨rfl, _, rfl, ?_⟩⟩⟩
          rw [wc]
          refine iteF ?_
          have lt1 : m - 1 < m := by omega
          refine ⟨_, rfl, _, rfl, _, 1, rfl, rfl, _, rfl, _, rfl, .int (m : Int), .int ((m - 1 : Nat) : Int), far, far, (by
            show [V.int (m : Int), V.int ((m : Int) - 1), far, far] = _
            rw [em1]), .inl ⟨2, by decide, .i lt1 (by omega) ff ff (bf _ (by omega)), fun H10 s10 => ⟨rfl, _, rfl, ?_⟩⟩⟩
          rw [wr]
          refine iteF ?_
          refine ⟨_, rfl, _, rfl, _, 1, rfl, rfl, _, rfl, _, 1, rfl, rfl, ?_⟩
          show spCountedX CC [.int ((m : Int) - 1), .non] H10 _ E0
          rw [em1]
          refine count_of (m - 1) H10 _ (by omega) fun H11 s11 => ?_
          refine ⟨.int (m : Int), .int ((m - 1 : Nat) : Int), .int ((cntc none (m - 1) : Nat) : Int), .int 0, (by
            show [V.int (m : Int), V.int ((m : Int) - 1), _, _] = _
            rw [em1]), .inl ⟨2, by decide, .i lt1 (by omega) rfl rfl (numB_no (by omega)), fun H12 s12 => ⟨rfl, _, rfl, ?_⟩⟩⟩
          rw [wr]
          refine iteF ?_
          have c0 : cntc none 0 = 1 := rfl
          refine ⟨_, rfl, _, rfl, _, 1, rfl, rfl, ?_⟩
          show spCountedX CC [.int ((m : Int) - 1), .non] H12 _ E0
          rw [em1]
          refine count_of (m - 1) H12 _ (by omega) fun H13 s13 => ?_
          refine ⟨.int (m : Int), .int ((0 : Nat) : Int), .int ((0 : Nat) : Int), .int ((cntc none (m - 1) : Nat) : Int), rfl, .inl ⟨2, by decide, .r (by omega) (by omega) (by rw [c0]; decide) rfl (by
            rw [show m - 1 - 0 = m - 1 by omega]
            exact numB_no (by omega)), fun H14 s14 => ⟨rfl, _, rfl, ?_⟩⟩⟩
          rw [wr]
          refine iteF ?_
          refine ⟨_, rfl, .int (m : Int), .int ((0 : Nat) : Int), .int 1, .int 0, rfl, .inl ⟨2, by decide, .i (by omega) (by omega) rfl rfl (by rw [c0]; decide), fun H15 s15 => ⟨rfl, _, rfl, ?_⟩⟩⟩
          rw [wr]
          refine iteF ?_
          -- the end
          refine ⟨rfl, fun H16 s16 => ⟨rfl, true, congrArg V.bl (decide_eq_true (show V.str "row" = V.str "row" from rfl)), iteT ?_⟩⟩
          refine ⟨_, rfl, _, rfl, _, 1, rfl, rfl, ?_⟩
          show spCountedX CC [.int ((m : Int) - 1), .non] H16 _ E0
          rw [em1]
          refine count_of (m - 1) H16 _ (by omega) fun H17 s17 => ?_
          have pos : 0 < cntc none (m - 1) := by
            have : ∀ n, n < 6 → 0 < W n (2 * n) 0 := by decide
            exact this (m - 1) (by omega)
          refine ⟨_, 1, rfl, rfl, .int (m : Int), .int ((0 : Nat) : Int), .int ((0 : Nat) : Int), .int ((cntc none (m - 1) - 1 : Nat) : Int), (by
            show [V.int (m : Int), V.int 0, V.int 0, V.int (((cntc none (m - 1) : Nat) : Int) - 1)] = _
            rw [show ((cntc none (m - 1) : Nat) : Int) - 1 = ((cntc none (m - 1) - 1 : Nat) : Int) by omega]
            rfl), .inr ⟨m, 0, 0, cntc none (m - 1) - 1, rfl, rfl, rfl, rfl, ⟨by omega, by omega, by rw [c0]; decide, by rw [show m - 1 - 0 = m - 1 by omega]; omega⟩, fun H18 s18 => ⟨rfl, ?_⟩⟩⟩
          rw [decide_eq_true (show V.str "" = V.str "" from rfl)]
          exact q H18
end
end Hr
namespace Hr
open PySem PySem.Spec PyProof.Rows L2
/-- the eight classes by their numbers -/
def eight (c0 c1 c2 c3 c4 c5 c6 c7 : Addr) : Nat → Addr
  | 0 => c0 | 1 => c1 | 2 => c2 | 3 => c3 | 4 => c4 | 5 => c5 | 6 => c6 | _ => c7
theorem kit_eight {K : PySem.W.Frag} {t : Value} {k : Nat} {c0 c1 c2 c3 c4 c5 c6 c7 : Addr} (h0 : PySem.W.kitOne K t (.ref c0) = some (decide (0 = k))) (h1 : PySem.W.kitOne K t (.ref c1) = some (decide (1 = k))) (h2 : PySem.W.kitOne K t (.ref c2) = some (decide (2 = k)))
    (h3 : PySem.W.kitOne K t (.ref c3) = some (decide (3 = k))) (h4 : PySem.W.kitOne K t (.ref c4) = some (decide (4 = k))) (h5 : PySem.W.kitOne K t (.ref c5) = some (decide (5 = k))) (h6 : PySem.W.kitOne K t (.ref c6) = some (decide (6 = k))) (h7 : PySem.W.kitOne K t (.ref c7) = some (decide (7 = k))) :
    ∀ j, j < 8 → PySem.W.kitOne K t (.ref (eight c0 c1 c2 c3 c4 c5 c6 c7 j)) = some (decide (j = k))
  | 0, _ => h0 | 1, _ => h1 | 2, _ => h2 | 3, _ => h3 | 4, _ => h4 | 5, _ => h5 | 6, _ => h6 | 7, _ => h7
  | j + 8, h => absurd h (by omega)
end Hr
/-! ### what the top has written -/
namespace Hr
open PySem PySem.Spec PyProof.Rows L2
theorem all_mk {l : PySem.W.OpenLaw} {w : World} {K : PySem.W.Frag} {h : Heap} {mg : Str → Option Value} {fa f : Addr} (X : K.In h) (G : h.Ns mainGlobals mg) (hfa : mg "law" = some (.ref fa))
    {od an : Option Addr} {sl : Array (Option Value)} {oc kV dc pm cd ct : Value} {tk_MOST_UPS tk_MOST_HEIGHT tk_UP tk_DOWN tk_MOST_TIMES : Tok} {CH c0 c1 c2 c3 c4 c5 c6 c7 : Addr}
    (a : PySem.W.nsIn K mainGlobals "law" = some (some (.ref f))) (l1 : K.lookup f = some ⟨oc, od, .func (PySem.W.fnOf "law" "law" (defArgs sLaw) (defBody sLaw) (defScope sLaw) .none kV dc pm an cd ct), sl⟩) (c : PySem.W.codeIn K cd "law" = true) (k : PySem.W.keepIn K (.ref f) = true)
    (d_hill_table : Def K mg "hill_table" sHill ["n", "ceiling"])
    (d_ways_table : Def K mg "ways_table" sTable ["left", "top"])
    (d_with_one_more_sign : Def K mg "with_one_more_sign" sStep ["found"])
    (d_lower_of : Def K mg "lower_of" sLow ["height", "ceiling"])
    (d_check_ceiling : Def K mg "check_ceiling" sChCei ["ceiling"])
    (d_heights : Def K mg "heights" sHeights ["row"])
    (d_is_row : Def K mg "is_row" sIsRow ["text"])
    (d_number_of : Def K mg "number_of" sNumOf ["row", "table"])
    (d_row_of_number : Def K mg "row_of_number" sOfNum ["r", "table"])
    (d_ways_down : Def K mg "ways_down" sDown ["table", "height", "left"])
    (d_row_count : Def K mg "row_count" sCount ["table"])
    (d_cut : Def K mg "cut" s_cut ["row"])
    (d_parts : Def K mg "parts" s_parts ["row"])
    (d_rank_told : Def K mg "rank_told" s_rank_told ["row"])
    (d_row_told : Def K mg "row_told" s_row_told ["n", "k", "i", "r"])
    (d_law_mixed : Def K mg "_law_mixed" sMixed ["_law_cell", "_law_k"])
    (d_law_number : Def K mg "_law_number" sNumber ["_law_script", "_law_k"])
    (d_law_row : Def K mg "_law_row" sLRow ["_law_script", "_law_ceiling"])
    (d_law_word : Def K mg "_law_word" sWord ["_law_error"])
    (d_law_asked : Def K mg "_law_asked" sAsked ["_law_n", "_law_k", "_law_i", "_law_r"])
    (d_law_empty : Def K mg "_law_empty" sEmpty [])
    (d_law_end : Def K mg "_law_end" sEnd ["_law_row_here"])
    (d_counted : DefD K mg "counted" sCounted ["n", "ceiling"])
    (d_is_hill : DefD K mg "is_hill" sIsHill ["row", "ceiling"])
    (d_check_hill : DefD K mg "check_hill" sChHill ["row", "ceiling"])
    (d_rank : DefD K mg "rank" sRank ["row", "ceiling"])
    (d_row_at : DefD K mg "row_at" sRowAt ["n", "r", "ceiling"])
    (d_is_number : DefV K mg "is_number" sIsNum ["value", "most", "least"] (.int 0))
    (d_check_number : DefV K mg "check_number" sChNum ["value", "most", "least"] (.int 0))
    (d_lifted : DefV K mg "lifted" s_lifted ["row", "times"] (.int 1))
    (g_MOST_UPS : PySem.W.nsIn K mainGlobals "MOST_UPS" = some (some (.int 200 tk_MOST_UPS)))
    (g_MOST_HEIGHT : PySem.W.nsIn K mainGlobals "MOST_HEIGHT" = some (some (.int 200 tk_MOST_HEIGHT)))
    (g_UP : PySem.W.nsIn K mainGlobals "UP" = some (some (.str "u" tk_UP)))
    (g_DOWN : PySem.W.nsIn K mainGlobals "DOWN" = some (some (.str "d" tk_DOWN)))
    (g_MOST_TIMES : PySem.W.nsIn K mainGlobals "MOST_TIMES" = some (some (.int 200 tk_MOST_TIMES)))
    (z_ValueError : PySem.W.nsIn K mainGlobals "ValueError" = some none)
    (z_all : PySem.W.nsIn K mainGlobals "all" = some none)
    (z_bool : PySem.W.nsIn K mainGlobals "bool" = some none)
    (z_enumerate : PySem.W.nsIn K mainGlobals "enumerate" = some none)
    (z_int : PySem.W.nsIn K mainGlobals "int" = some none)
    (z_isinstance : PySem.W.nsIn K mainGlobals "isinstance" = some none)
    (z_len : PySem.W.nsIn K mainGlobals "len" = some none)
    (z_max : PySem.W.nsIn K mainGlobals "max" = some none)
    (z_min : PySem.W.nsIn K mainGlobals "min" = some none)
    (z_range : PySem.W.nsIn K mainGlobals "range" = some none)
    (z_reversed : PySem.W.nsIn K mainGlobals "reversed" = some none)
    (z_set : PySem.W.nsIn K mainGlobals "set" = some none)
    (z_str : PySem.W.nsIn K mainGlobals "str" = some none)
    (z_sum : PySem.W.nsIn K mainGlobals "sum" = some none)
    (z_zip : PySem.W.nsIn K mainGlobals "zip" = some none)
    (gc0 : PySem.W.nsIn K mainGlobals "NoRow" = some (some (.ref c0)))
    (gc1 : PySem.W.nsIn K mainGlobals "NoCount" = some (some (.ref c1)))
    (gc2 : PySem.W.nsIn K mainGlobals "NoRank" = some (some (.ref c2)))
    (gc3 : PySem.W.nsIn K mainGlobals "NoPlace" = some (some (.ref c3)))
    (gc4 : PySem.W.nsIn K mainGlobals "NoTree" = some (some (.ref c4)))
    (gc5 : PySem.W.nsIn K mainGlobals "NoPairs" = some (some (.ref c5)))
    (gc6 : PySem.W.nsIn K mainGlobals "NoTurn" = some (some (.ref c6)))
    (gc7 : PySem.W.nsIn K mainGlobals "NoText" = some (some (.ref c7)))
    (gH : PySem.W.nsIn K mainGlobals "HillError" = some (some (.ref CH)))
    (hHb : PySem.W.subIn K (.ref CH) (.type "BaseException") = some true)
    (hHd : PySem.W.hasDictIn K CH = true)
    (hHt : PySem.W.typeIn K (.ref CH) = some (.type "type"))
    (on : PySem.W.specialIn K (.builtin "object.__class__") "__get__" = some (some (.builtin "getset_descriptor.__get__")))
    (ot : PySem.W.takesIn K (.builtin "object.__class__") = some true)
    (x0 : PySem.W.excIn K c0 [.type "ValueError", .type "Exception", .type "BaseException", .type "object"] "ValueError.__new__" = true)
    (k0 : PySem.W.keepIn K (.ref c0) = true)
    (b0 : PySem.W.subIn K (.ref c0) (.type "BaseException") = some true)
    (t0 : PySem.W.typeIn K (.ref c0) = some (.type "type"))
    (s0 : PySem.W.subIn K (.ref c0) (.ref CH) = some true)
    (eg0 : PySem.W.findIn K (.ref c0) "__getattribute__" = some (some (.builtin "BaseException.__getattribute__")))
    (ek0 : PySem.W.findIn K (.ref c0) "__getattr__" = some none)
    (ed0 : PySem.W.hasDictIn K c0 = true)
    (ea0 : PySem.W.findIn K (.ref c0) "__class__" = some (some (.builtin "object.__class__")))
    (em0 : PySem.W.mroIn K c0 (.type "object") = some true)
    (ve0 : PySem.W.kitOne K (.ref c0) (.type "ValueError") = some true)
    (q0_0 : PySem.W.kitOne K (.ref c0) (.ref c0) = some true)
    (q0_1 : PySem.W.kitOne K (.ref c0) (.ref c1) = some false)
    (q0_2 : PySem.W.kitOne K (.ref c0) (.ref c2) = some false)
    (q0_3 : PySem.W.kitOne K (.ref c0) (.ref c3) = some false)
    (q0_4 : PySem.W.kitOne K (.ref c0) (.ref c4) = some false)
    (q0_5 : PySem.W.kitOne K (.ref c0) (.ref c5) = some false)
    (q0_6 : PySem.W.kitOne K (.ref c0) (.ref c6) = some false)
    (q0_7 : PySem.W.kitOne K (.ref c0) (.ref c7) = some false)
    (x1 : PySem.W.excIn K c1 [.type "ValueError", .type "Exception", .type "BaseException", .type "object"] "ValueError.__new__" = true)
    (k1 : PySem.W.keepIn K (.ref c1) = true)
    (b1 : PySem.W.subIn K (.ref c1) (.type "BaseException") = some true)
    (t1 : PySem.W.typeIn K (.ref c1) = some (.type "type"))
    (s1 : PySem.W.subIn K (.ref c1) (.ref CH) = some true)
    (eg1 : PySem.W.findIn K (.ref c1) "__getattribute__" = some (some (.builtin "BaseException.__getattribute__")))
    (ek1 : PySem.W.findIn K (.ref c1) "__getattr__" = some none)
    (ed1 : PySem.W.hasDictIn K c1 = true)
    (ea1 : PySem.W.findIn K (.ref c1) "__class__" = some (some (.builtin "object.__class__")))
    (em1 : PySem.W.mroIn K c1 (.type "object") = some true)
    (ve1 : PySem.W.kitOne K (.ref c1) (.type "ValueError") = some true)
    (q1_0 : PySem.W.kitOne K (.ref c1) (.ref c0) = some false)
    (q1_1 : PySem.W.kitOne K (.ref c1) (.ref c1) = some true)
    (q1_2 : PySem.W.kitOne K (.ref c1) (.ref c2) = some false)
    (q1_3 : PySem.W.kitOne K (.ref c1) (.ref c3) = some false)
    (q1_4 : PySem.W.kitOne K (.ref c1) (.ref c4) = some false)
    (q1_5 : PySem.W.kitOne K (.ref c1) (.ref c5) = some false)
    (q1_6 : PySem.W.kitOne K (.ref c1) (.ref c6) = some false)
    (q1_7 : PySem.W.kitOne K (.ref c1) (.ref c7) = some false)
    (x2 : PySem.W.excIn K c2 [.type "ValueError", .type "Exception", .type "BaseException", .type "object"] "ValueError.__new__" = true)
    (k2 : PySem.W.keepIn K (.ref c2) = true)
    (b2 : PySem.W.subIn K (.ref c2) (.type "BaseException") = some true)
    (t2 : PySem.W.typeIn K (.ref c2) = some (.type "type"))
    (s2 : PySem.W.subIn K (.ref c2) (.ref CH) = some true)
    (eg2 : PySem.W.findIn K (.ref c2) "__getattribute__" = some (some (.builtin "BaseException.__getattribute__")))
    (ek2 : PySem.W.findIn K (.ref c2) "__getattr__" = some none)
    (ed2 : PySem.W.hasDictIn K c2 = true)
    (ea2 : PySem.W.findIn K (.ref c2) "__class__" = some (some (.builtin "object.__class__")))
    (em2 : PySem.W.mroIn K c2 (.type "object") = some true)
    (ve2 : PySem.W.kitOne K (.ref c2) (.type "ValueError") = some true)
    (q2_0 : PySem.W.kitOne K (.ref c2) (.ref c0) = some false)
    (q2_1 : PySem.W.kitOne K (.ref c2) (.ref c1) = some false)
    (q2_2 : PySem.W.kitOne K (.ref c2) (.ref c2) = some true)
    (q2_3 : PySem.W.kitOne K (.ref c2) (.ref c3) = some false)
    (q2_4 : PySem.W.kitOne K (.ref c2) (.ref c4) = some false)
    (q2_5 : PySem.W.kitOne K (.ref c2) (.ref c5) = some false)
    (q2_6 : PySem.W.kitOne K (.ref c2) (.ref c6) = some false)
    (q2_7 : PySem.W.kitOne K (.ref c2) (.ref c7) = some false)
    (nk0 : PySem.W.kitOne K (.type "NoneType") (.ref c0) = some false)
    (nk1 : PySem.W.kitOne K (.type "NoneType") (.ref c1) = some false)
    (nk2 : PySem.W.kitOne K (.type "NoneType") (.ref c2) = some false)
    (nk3 : PySem.W.kitOne K (.type "NoneType") (.ref c3) = some false)
    (nk4 : PySem.W.kitOne K (.type "NoneType") (.ref c4) = some false)
    (nk5 : PySem.W.kitOne K (.type "NoneType") (.ref c5) = some false)
    (nk6 : PySem.W.kitOne K (.type "NoneType") (.ref c6) = some false)
    (nk7 : PySem.W.kitOne K (.type "NoneType") (.ref c7) = some false)
    : ∃ fd : FuncData, (∀ (s : Shared) (v : Value), BindsTo s fd ⟨[v], []⟩ [("_law_script", v)]) ∧ ∀ base : Heap, K.In base → base.Ns mainGlobals mg → FnOk l.prog w K mg base CX0 9 fa fd ["_law_script"] (spLaw K) := by
  have e := hfa.symm.trans (PySem.W.mg_of X G a)
  cases e
  have F := fun_mk (st := sLaw) l1 c k
  refine ⟨PySem.W.fnOf "law" "law" (defArgs sLaw) (defBody sLaw) (defScope sLaw) .none kV dc pm an cd ct, fun s v => .of_eq rfl, fun base _ _ => ?_⟩
  have m_ValueError := PySem.W.mg_none_of X G z_ValueError
  have m_all := PySem.W.mg_none_of X G z_all
  have m_bool := PySem.W.mg_none_of X G z_bool
  have m_enumerate := PySem.W.mg_none_of X G z_enumerate
  have m_int := PySem.W.mg_none_of X G z_int
  have m_isinstance := PySem.W.mg_none_of X G z_isinstance
  have m_len := PySem.W.mg_none_of X G z_len
  have m_max := PySem.W.mg_none_of X G z_max
  have m_min := PySem.W.mg_none_of X G z_min
  have m_range := PySem.W.mg_none_of X G z_range
  have m_reversed := PySem.W.mg_none_of X G z_reversed
  have m_set := PySem.W.mg_none_of X G z_set
  have m_str := PySem.W.mg_none_of X G z_str
  have m_sum := PySem.W.mg_none_of X G z_sum
  have m_zip := PySem.W.mg_none_of X G z_zip
  have c_MOST_UPS := PySem.W.mg_of X G g_MOST_UPS
  have c_MOST_HEIGHT := PySem.W.mg_of X G g_MOST_HEIGHT
  have c_UP := PySem.W.mg_of X G g_UP
  have c_DOWN := PySem.W.mg_of X G g_DOWN
  have c_MOST_TIMES := PySem.W.mg_of X G g_MOST_TIMES
  have mc0 := PySem.W.mg_of X G gc0
  have mc1 := PySem.W.mg_of X G gc1
  have mc2 := PySem.W.mg_of X G gc2
  have mc3 := PySem.W.mg_of X G gc3
  have mc4 := PySem.W.mg_of X G gc4
  have mc5 := PySem.W.mg_of X G gc5
  have mc6 := PySem.W.mg_of X G gc6
  have mc7 := PySem.W.mg_of X G gc7
  have mH := PySem.W.mg_of X G gH
  have er0 : Err K mg "NoRow" c0 := ⟨mc0, x0, k0, b0, t0⟩
  have is0 : IsErr K (eight c0 c1 c2 c3 c4 c5 c6 c7) 0 := ⟨by decide, ⟨eg0, ek0, b0, ed0, ea0, on, ot, em0⟩, kit_eight q0_0 q0_1 q0_2 q0_3 q0_4 q0_5 q0_6 q0_7, ve0⟩
  have ex0 := PySem.W.exm_ref hHb hHd hHt s0
  have er1 : Err K mg "NoCount" c1 := ⟨mc1, x1, k1, b1, t1⟩
  have is1 : IsErr K (eight c0 c1 c2 c3 c4 c5 c6 c7) 1 := ⟨by decide, ⟨eg1, ek1, b1, ed1, ea1, on, ot, em1⟩, kit_eight q1_0 q1_1 q1_2 q1_3 q1_4 q1_5 q1_6 q1_7, ve1⟩
  have ex1 := PySem.W.exm_ref hHb hHd hHt s1
  have er2 : Err K mg "NoRank" c2 := ⟨mc2, x2, k2, b2, t2⟩
  have is2 : IsErr K (eight c0 c1 c2 c3 c4 c5 c6 c7) 2 := ⟨by decide, ⟨eg2, ek2, b2, ed2, ea2, on, ot, em2⟩, kit_eight q2_0 q2_1 q2_2 q2_3 q2_4 q2_5 q2_6 q2_7, ve2⟩
  have ex2 := PySem.W.exm_ref hHb hHd hHt s2
  have nk : ∀ j, j < 8 → PySem.W.kitOne K (.type "NoneType") (.ref (eight c0 c1 c2 c3 c4 c5 c6 c7 j)) = some false := fun j hj => match j, hj with | 0, _ => nk0 | 1, _ => nk1 | 2, _ => nk2 | 3, _ => nk3 | 4, _ => nk4 | 5, _ => nk5 | 6, _ => nk6 | 7, _ => nk7
  obtain ⟨cIsNumA, cIsNum⟩ := cal_isNumV (P := l.prog) (w := w) (base := base) d_is_number m_isinstance m_int m_bool
  obtain ⟨cChNumA, cChNum⟩ := cal_chNumX er1 d_check_number cIsNumA
  obtain ⟨_, cChNumL⟩ := cal_chNumL er1 d_check_number cIsNumA
  have cChCei := cal_chCeiX d_check_ceiling cChNum c_MOST_HEIGHT
  have cLow := cal_low (P := l.prog) (w := w) (base := base) d_lower_of m_min
  have cStep := cal_step (P := l.prog) (w := w) (base := base) d_with_one_more_sign m_len m_range
  have cTable := cal_table d_ways_table cStep m_range
  have cHill := cal_hill d_hill_table cTable cLow
  obtain ⟨cC1, cC2⟩ := cal_countedX d_counted cHill cChNum cChCei c_MOST_UPS
  have cIsRow := cal_isRow (P := l.prog) (w := w) (base := base) d_is_row m_isinstance m_str m_all c_UP c_DOWN
  have cHeights := cal_heightsX er0 d_heights cIsRow c_UP
  obtain ⟨cIsHill, cIsHill1⟩ := cal_isHill d_is_hill cIsRow cHeights m_min m_max
  obtain ⟨cChHill, cChHill1⟩ := cal_chHillX er0 d_check_hill cIsHill
  have cDown := cal_down (P := l.prog) (w := w) (base := base) d_ways_down
  have cCount := cal_count (P := l.prog) (w := w) (base := base) d_row_count
  have cNumOf := cal_numOf d_number_of cDown m_len c_UP
  have cOfNum := cal_ofNum d_row_of_number cDown m_len m_range m_reversed c_UP c_DOWN
  obtain ⟨cRank, cRank1⟩ := cal_rankX d_rank cChCei cChHill cHill cNumOf m_len
  obtain ⟨cRowAt, cRowAt1⟩ := cal_rowAtX er2 d_row_at cChNum cChCei cIsNum cHill cOfNum cCount c_MOST_UPS
  have cParts := cal_partsX d_parts cChHill1 cHeights m_enumerate m_zip
  have cCut := cal_cutX er0 d_cut cParts m_len
  obtain ⟨cLifted, cLifted1⟩ := cal_liftedX d_lifted cChHill1 cChNum c_MOST_TIMES c_UP c_DOWN
  have cRankTold := cal_rankTold d_rank_told cCut cRank1 m_len
  have cRowTold := cal_rowTold (cs := (eight c0 c1 c2 c3 c4 c5 c6 c7)) d_row_told cChNumA cChNumL cRowAt1 cLifted1 c_MOST_UPS
  have cMixed := cal_mixed (P := l.prog) (w := w) (base := base) d_law_mixed
  have cNum := cal_number d_law_number cMixed m_len
  have cLRow := cal_lrow d_law_row cMixed m_len m_min m_max m_sum m_range
  have cWord := cal_wordE (cs := (eight c0 c1 c2 c3 c4 c5 c6 c7)) (P := l.prog) (w := w) (base := base) d_law_word nk mc0 mc1 mc2 mc3 mc4 mc5 mc6 mc7 m_isinstance m_zip
  have ers : ∀ k, k = 1 ∨ k = 2 → IsErr K (eight c0 c1 c2 c3 c4 c5 c6 c7) k := fun k hk => hk.elim (fun e => e ▸ is1) (fun e => e ▸ is2)
  have exs : ∀ k, k = 1 ∨ k = 2 → PySem.W.exmOne K (.ref ((eight c0 c1 c2 c3 c4 c5 c6 c7) k)) (.ref CH) = some true := fun k hk => hk.elim (fun e => e ▸ ex1) (fun e => e ▸ ex2)
  have cAsked := cal_asked (cs := (eight c0 c1 c2 c3 c4 c5 c6 c7)) d_law_asked mH ers exs cRowTold cWord m_isinstance m_ValueError m_int
  have cEmpty := cal_empty (cs := (eight c0 c1 c2 c3 c4 c5 c6 c7)) d_law_empty mH is0 ex0 cRankTold cWord
  have cEnd := cal_end (P := l.prog) (w := w) (base := base) d_law_end m_int m_enumerate
  exact ok_law F cLRow cNum cEnd cRank1 cRankTold cRowTold cRowAt1 cC2 cAsked cEmpty m_len m_range m_set
end Hr
open PySem PySem.W PyProof.Rows
set_option maxHeartbeats 0 in
theorem PySem.Challenge.cw_hillrows_k12_whole_told_by_parts_holds : PySem.Challenge.rw_hillrows_k12_whole_told_by_parts.Holds := by
  w_on; o_law; k_head; (case hw => w_witness2)
  k_fill
  refine L2.walk_of (l := PySem.Challenge.rw_hillrows_k12_whole_told_by_parts) (n := 63) (k := 9) (x := "_law_script") (CX := fun _ => L2.CX0) (sp := fun w => Hr.spLaw _) rfl (by decide) rfl ⟨rfl, by decide, by decide⟩ (fun w h Y => PySem.W.kIn_of Y) ?F (fun _ _ a ns hl _ hS => ⟨a, ns, rfl, hS, hl, fun _ => rfl⟩) (fun _ _ _ _ _ h => h)
  case F =>
    intro w mg fa h KX G hmg
    refine' Hr.all_mk KX G hmg ?a ?l1 ?c ?k ?d_hill_table ?d_ways_table ?d_with_one_more_sign ?d_lower_of ?d_check_ceiling ?d_heights ?d_is_row ?d_number_of ?d_row_of_number ?d_ways_down ?d_row_count ?d_cut ?d_parts ?d_rank_told ?d_row_told ?d_law_mixed ?d_law_number ?d_law_row ?d_law_word ?d_law_asked ?d_law_empty ?d_law_end ?d_counted ?d_is_hill ?d_check_hill ?d_rank ?d_row_at ?d_is_number ?d_check_number ?d_lifted ?g_MOST_UPS ?g_MOST_HEIGHT ?g_UP ?g_DOWN ?g_MOST_TIMES ?z_ValueError ?z_all ?z_bool ?z_enumerate ?z_int ?z_isinstance ?z_len ?z_max ?z_min ?z_range ?z_reversed ?z_set ?z_str ?z_sum ?z_zip ?gc0 ?gc1 ?gc2 ?gc3 ?gc4 ?gc5 ?gc6 ?gc7 ?gH ?hHb ?hHd ?hHt ?on ?ot ?x0 ?k0 ?b0 ?t0 ?s0 ?eg0 ?ek0 ?ed0 ?ea0 ?em0 ?ve0 ?q0_0 ?q0_1 ?q0_2 ?q0_3 ?q0_4 ?q0_5 ?q0_6 ?q0_7 ?x1 ?k1 ?b1 ?t1 ?s1 ?eg1 ?ek1 ?ed1 ?ea1 ?em1 ?ve1 ?q1_0 ?q1_1 ?q1_2 ?q1_3 ?q1_4 ?q1_5 ?q1_6 ?q1_7 ?x2 ?k2 ?b2 ?t2 ?s2 ?eg2 ?ek2 ?ed2 ?ea2 ?em2 ?ve2 ?q2_0 ?q2_1 ?q2_2 ?q2_3 ?q2_4 ?q2_5 ?q2_6 ?q2_7 ?nk0 ?nk1 ?nk2 ?nk3 ?nk4 ?nk5 ?nk6 ?nk7
    (case a => k_is); (case l1 => k_is); (case c => k_is); (case k => k_is)
    case d_hill_table =>
      refine' Hr.def_mk KX G (fun _ _ _ _ _ _ us hl => match us, hl with | [_, _], _ => rfl) ?a ?l ?c ?k
      (case a => k_is); (case l => k_is); (case c => k_is); (case k => k_is)
    case d_ways_table =>
      refine' Hr.def_mk KX G (fun _ _ _ _ _ _ us hl => match us, hl with | [_, _], _ => rfl) ?a ?l ?c ?k
      (case a => k_is); (case l => k_is); (case c => k_is); (case k => k_is)
    case d_with_one_more_sign =>
      refine' Hr.def_mk KX G (fun _ _ _ _ _ _ us hl => match us, hl with | [_], _ => rfl) ?a ?l ?c ?k
      (case a => k_is); (case l => k_is); (case c => k_is); (case k => k_is)
    case d_lower_of =>
      refine' Hr.def_mk KX G (fun _ _ _ _ _ _ us hl => match us, hl with | [_, _], _ => rfl) ?a ?l ?c ?k
      (case a => k_is); (case l => k_is); (case c => k_is); (case k => k_is)
    case d_check_ceiling =>
      refine' Hr.def_mk KX G (fun _ _ _ _ _ _ us hl => match us, hl with | [_], _ => rfl) ?a ?l ?c ?k
      (case a => k_is); (case l => k_is); (case c => k_is); (case k => k_is)
    case d_heights =>
      refine' Hr.def_mk KX G (fun _ _ _ _ _ _ us hl => match us, hl with | [_], _ => rfl) ?a ?l ?c ?k
      (case a => k_is); (case l => k_is); (case c => k_is); (case k => k_is)
    case d_is_row =>
      refine' Hr.def_mk KX G (fun _ _ _ _ _ _ us hl => match us, hl with | [_], _ => rfl) ?a ?l ?c ?k
      (case a => k_is); (case l => k_is); (case c => k_is); (case k => k_is)
    case d_number_of =>
      refine' Hr.def_mk KX G (fun _ _ _ _ _ _ us hl => match us, hl with | [_, _], _ => rfl) ?a ?l ?c ?k
      (case a => k_is); (case l => k_is); (case c => k_is); (case k => k_is)
    case d_row_of_number =>
      refine' Hr.def_mk KX G (fun _ _ _ _ _ _ us hl => match us, hl with | [_, _], _ => rfl) ?a ?l ?c ?k
      (case a => k_is); (case l => k_is); (case c => k_is); (case k => k_is)
    case d_ways_down =>
      refine' Hr.def_mk KX G (fun _ _ _ _ _ _ us hl => match us, hl with | [_, _, _], _ => rfl) ?a ?l ?c ?k
      (case a => k_is); (case l => k_is); (case c => k_is); (case k => k_is)
    case d_row_count =>
      refine' Hr.def_mk KX G (fun _ _ _ _ _ _ us hl => match us, hl with | [_], _ => rfl) ?a ?l ?c ?k
      (case a => k_is); (case l => k_is); (case c => k_is); (case k => k_is)
    case d_cut =>
      refine' Hr.def_mk KX G (fun _ _ _ _ _ _ us hl => match us, hl with | [_], _ => rfl) ?a ?l ?c ?k
      (case a => k_is); (case l => k_is); (case c => k_is); (case k => k_is)
    case d_parts =>
      refine' Hr.def_mk KX G (fun _ _ _ _ _ _ us hl => match us, hl with | [_], _ => rfl) ?a ?l ?c ?k
      (case a => k_is); (case l => k_is); (case c => k_is); (case k => k_is)
    case d_rank_told =>
      refine' Hr.def_mk KX G (fun _ _ _ _ _ _ us hl => match us, hl with | [_], _ => rfl) ?a ?l ?c ?k
      (case a => k_is); (case l => k_is); (case c => k_is); (case k => k_is)
    case d_row_told =>
      refine' Hr.def_mk KX G (fun _ _ _ _ _ _ us hl => match us, hl with | [_, _, _, _], _ => rfl) ?a ?l ?c ?k
      (case a => k_is); (case l => k_is); (case c => k_is); (case k => k_is)
    case d_law_mixed =>
      refine' Hr.def_mk KX G (fun _ _ _ _ _ _ us hl => match us, hl with | [_, _], _ => rfl) ?a ?l ?c ?k
      (case a => k_is); (case l => k_is); (case c => k_is); (case k => k_is)
    case d_law_number =>
      refine' Hr.def_mk KX G (fun _ _ _ _ _ _ us hl => match us, hl with | [_, _], _ => rfl) ?a ?l ?c ?k
      (case a => k_is); (case l => k_is); (case c => k_is); (case k => k_is)
    case d_law_row =>
      refine' Hr.def_mk KX G (fun _ _ _ _ _ _ us hl => match us, hl with | [_, _], _ => rfl) ?a ?l ?c ?k
      (case a => k_is); (case l => k_is); (case c => k_is); (case k => k_is)
    case d_law_word =>
      refine' Hr.def_mk KX G (fun _ _ _ _ _ _ us hl => match us, hl with | [_], _ => rfl) ?a ?l ?c ?k
      (case a => k_is); (case l => k_is); (case c => k_is); (case k => k_is)
    case d_law_asked =>
      refine' Hr.def_mk KX G (fun _ _ _ _ _ _ us hl => match us, hl with | [_, _, _, _], _ => rfl) ?a ?l ?c ?k
      (case a => k_is); (case l => k_is); (case c => k_is); (case k => k_is)
    case d_law_empty =>
      refine' Hr.def_mk KX G (fun _ _ _ _ _ _ us hl => match us, hl with | [], _ => rfl) ?a ?l ?c ?k
      (case a => k_is); (case l => k_is); (case c => k_is); (case k => k_is)
    case d_law_end =>
      refine' Hr.def_mk KX G (fun _ _ _ _ _ _ us hl => match us, hl with | [_], _ => rfl) ?a ?l ?c ?k
      (case a => k_is); (case l => k_is); (case c => k_is); (case k => k_is)
    case d_counted =>
      refine' Hr.defD_mk (m := 1) KX G rfl (fun _ _ _ _ _ _ _ us its hu hi => match us, hu, its, hi with | [_, _], _, [_], _ => ⟨_, rfl, rfl⟩) (fun _ _ _ _ _ _ _ us its hu hi => match us, hu, its, hi with | [_], _, [_], _ => ⟨_, rfl, rfl⟩) ?a ?l ?c ?k ?t
      (case a => k_is); (case l => k_is); (case c => k_is); (case k => k_is); (case t => k_is)
    case d_is_hill =>
      refine' Hr.defD_mk (m := 1) KX G rfl (fun _ _ _ _ _ _ _ us its hu hi => match us, hu, its, hi with | [_, _], _, [_], _ => ⟨_, rfl, rfl⟩) (fun _ _ _ _ _ _ _ us its hu hi => match us, hu, its, hi with | [_], _, [_], _ => ⟨_, rfl, rfl⟩) ?a ?l ?c ?k ?t
      (case a => k_is); (case l => k_is); (case c => k_is); (case k => k_is); (case t => k_is)
    case d_check_hill =>
      refine' Hr.defD_mk (m := 1) KX G rfl (fun _ _ _ _ _ _ _ us its hu hi => match us, hu, its, hi with | [_, _], _, [_], _ => ⟨_, rfl, rfl⟩) (fun _ _ _ _ _ _ _ us its hu hi => match us, hu, its, hi with | [_], _, [_], _ => ⟨_, rfl, rfl⟩) ?a ?l ?c ?k ?t
      (case a => k_is); (case l => k_is); (case c => k_is); (case k => k_is); (case t => k_is)
    case d_rank =>
      refine' Hr.defD_mk (m := 1) KX G rfl (fun _ _ _ _ _ _ _ us its hu hi => match us, hu, its, hi with | [_, _], _, [_], _ => ⟨_, rfl, rfl⟩) (fun _ _ _ _ _ _ _ us its hu hi => match us, hu, its, hi with | [_], _, [_], _ => ⟨_, rfl, rfl⟩) ?a ?l ?c ?k ?t
      (case a => k_is); (case l => k_is); (case c => k_is); (case k => k_is); (case t => k_is)
    case d_row_at =>
      refine' Hr.defD_mk (m := 2) KX G rfl (fun _ _ _ _ _ _ _ us its hu hi => match us, hu, its, hi with | [_, _, _], _, [_], _ => ⟨_, rfl, rfl⟩) (fun _ _ _ _ _ _ _ us its hu hi => match us, hu, its, hi with | [_, _], _, [_], _ => ⟨_, rfl, rfl⟩) ?a ?l ?c ?k ?t
      (case a => k_is); (case l => k_is); (case c => k_is); (case k => k_is); (case t => k_is)
    case d_is_number =>
      refine' Hr.defV_mk (m := 2) KX G rfl (fun _ _ _ _ _ _ _ us its hu hi => match us, hu, its, hi with | [_, _, _], _, [_], _ => ⟨_, rfl, rfl⟩) (fun _ _ _ _ _ _ _ us its hu hi => match us, hu, its, hi with | [_, _], _, [_], _ => ⟨_, rfl, rfl⟩) ?a ?l ?c ?k ?hu ?t
      (case a => k_is); (case l => k_is); (case c => k_is); (case k => k_is); (case t => k_is); (case hu => exact ⟨_, rfl⟩)
    case d_check_number =>
      refine' Hr.defV_mk (m := 2) KX G rfl (fun _ _ _ _ _ _ _ us its hu hi => match us, hu, its, hi with | [_, _, _], _, [_], _ => ⟨_, rfl, rfl⟩) (fun _ _ _ _ _ _ _ us its hu hi => match us, hu, its, hi with | [_, _], _, [_], _ => ⟨_, rfl, rfl⟩) ?a ?l ?c ?k ?hu ?t
      (case a => k_is); (case l => k_is); (case c => k_is); (case k => k_is); (case t => k_is); (case hu => exact ⟨_, rfl⟩)
    case d_lifted =>
      refine' Hr.defV_mk (m := 1) KX G rfl (fun _ _ _ _ _ _ _ us its hu hi => match us, hu, its, hi with | [_, _], _, [_], _ => ⟨_, rfl, rfl⟩) (fun _ _ _ _ _ _ _ us its hu hi => match us, hu, its, hi with | [_], _, [_], _ => ⟨_, rfl, rfl⟩) ?a ?l ?c ?k ?hu ?t
      (case a => k_is); (case l => k_is); (case c => k_is); (case k => k_is); (case t => k_is); (case hu => exact ⟨_, rfl⟩)
    (case g_MOST_UPS => k_is)
    (case g_MOST_HEIGHT => k_is)
    (case g_UP => k_is)
    (case g_DOWN => k_is)
    (case g_MOST_TIMES => k_is)
    (case z_ValueError => k_is)
    (case z_all => k_is)
    (case z_bool => k_is)
    (case z_enumerate => k_is)
    (case z_int => k_is)
    (case z_isinstance => k_is)
    (case z_len => k_is)
    (case z_max => k_is)
    (case z_min => k_is)
    (case z_range => k_is)
    (case z_reversed => k_is)
    (case z_set => k_is)
    (case z_str => k_is)
    (case z_sum => k_is)
    (case z_zip => k_is)
    (case gc0 => k_is)
    (case gc1 => k_is)
    (case gc2 => k_is)
    (case gc3 => k_is)
    (case gc4 => k_is)
    (case gc5 => k_is)
    (case gc6 => k_is)
    (case gc7 => k_is)
    (case gH => k_is)
    (case hHb => k_is)
    (case hHd => k_is)
    (case hHt => k_is)
    (case on => k_is)
    (case ot => k_is)
    (case x0 => k_exc)
    (case k0 => k_is)
    (case b0 => k_is)
    (case t0 => k_is)
    (case s0 => k_is)
    (case eg0 => k_is)
    (case ek0 => k_is)
    (case ed0 => k_is)
    (case ea0 => k_is)
    (case em0 => k_is)
    (case ve0 => kit_is)
    (case q0_0 => kit_is)
    (case q0_1 => kit_is)
    (case q0_2 => kit_is)
    (case q0_3 => kit_is)
    (case q0_4 => kit_is)
    (case q0_5 => kit_is)
    (case q0_6 => kit_is)
    (case q0_7 => kit_is)
    (case x1 => k_exc)
    (case k1 => k_is)
    (case b1 => k_is)
    (case t1 => k_is)
    (case s1 => k_is)
    (case eg1 => k_is)
    (case ek1 => k_is)
    (case ed1 => k_is)
    (case ea1 => k_is)
    (case em1 => k_is)
    (case ve1 => kit_is)
    (case q1_0 => kit_is)
    (case q1_1 => kit_is)
    (case q1_2 => kit_is)
    (case q1_3 => kit_is)
    (case q1_4 => kit_is)
    (case q1_5 => kit_is)
    (case q1_6 => kit_is)
    (case q1_7 => kit_is)
    (case x2 => k_exc)
    (case k2 => k_is)
    (case b2 => k_is)
    (case t2 => k_is)
    (case s2 => k_is)
    (case eg2 => k_is)
    (case ek2 => k_is)
    (case ed2 => k_is)
    (case ea2 => k_is)
    (case em2 => k_is)
    (case ve2 => kit_is)
    (case q2_0 => kit_is)
    (case q2_1 => kit_is)
    (case q2_2 => kit_is)
    (case q2_3 => kit_is)
    (case q2_4 => kit_is)
    (case q2_5 => kit_is)
    (case q2_6 => kit_is)
    (case q2_7 => kit_is)
    (case nk0 => kit_is)
    (case nk1 => kit_is)
    (case nk2 => kit_is)
    (case nk3 => kit_is)
    (case nk4 => kit_is)
    (case nk5 => kit_is)
    (case nk6 => kit_is)
    (case nk7 => kit_is)
