import PyProof.Rows.All
import Wide.All
import OpenK.AllK
import Wide.FinOn
import HandS.ForMost
import HandS.IsInst
import HandS.Defaults
import HandS.Walk
import HandS.Codes
import HandS.RevRange
import HandS.ForExc
import KE.GoesMore
import HandS.ExcIs
import HandS.RaiseMore
import HandS.FStr
import HandS.ExcValue
import KE.RegKIsAll
import HandS.Rev
import HandS.Style
import HandS.TupSets
import PySem.Challenge.RW_hillrows_k08_pairs
set_option Elab.async false
set_option linter.all false
set_option maxRecDepth 100000
namespace Hr
/-- the ways to the ground with k signs from the height h, none above T (for h at most T) -/
def W (T : Nat) : Nat → Nat → Nat
  | 0, h => if h = 0 then 1 else 0
  | k + 1, h => (if h = 0 then 0 else W T k (h - 1)) + (if h < T then W T k (h + 1) else 0)
theorem W_zero (T : Nat) : ∀ k h, k < h → W T k h = 0
  | 0, h, e => by
    unfold W
    rw [if_neg (by omega)]
  | k + 1, h, e => by
    unfold W
    rw [if_neg (show ¬ h = 0 by omega), W_zero T k (h - 1) (by omega), W_zero T k (h + 1) (by omega)]
    split <;> rfl
theorem W_same {T T' : Nat} (hT : T ≤ T') : ∀ k h, h ≤ T → k + h ≤ 2 * T + 1 → W T k h = W T' k h
  | 0, h, _, _ => by simp only [W]
  | k + 1, h, e, l => by
    simp only [W]
    by_cases h0 : h = 0
    · rw [if_pos h0, if_pos h0]
      by_cases hl : h < T
      · rw [if_pos hl, if_pos (show h < T' by omega), W_same hT k (h + 1) (by omega) (by omega)]
      · rw [if_neg hl]
        by_cases hl' : h < T'
        · rw [if_pos hl', W_zero T' k (h + 1) (by omega)]
        · rw [if_neg hl']
    · rw [if_neg h0, if_neg h0, W_same hT k (h - 1) (by omega) (by omega)]
      by_cases hl : h < T
      · rw [if_pos hl, if_pos (show h < T' by omega), W_same hT k (h + 1) (by omega) (by omega)]
      · rw [if_neg hl]
        by_cases hl' : h < T'
        · rw [if_pos hl', W_zero T' k (h + 1) (by omega)]
        · rw [if_neg hl']
/-- one row of the table -/
def rowW (T k : Nat) : List Int := (List.range (T + 1)).map fun h => ((W T k h : Nat) : Int)
theorem rowW_len (T k : Nat) : (rowW T k).length = T + 1 := by
  unfold rowW
  rw [List.length_map, List.length_range]
theorem rowW_get {T k h : Nat} (e : h ≤ T) : (rowW T k)[h]? = some ((W T k h : Nat) : Int) := by
  unfold rowW
  rw [List.getElem?_map, List.getElem?_range (by omega)]
  rfl
theorem rowW_zero (T : Nat) : rowW T 0 = 1 :: List.replicate T 0 := by
  unfold rowW
  apply List.ext_getElem?
  intro i
  rw [List.getElem?_map]
  cases i with
  | zero => rw [List.getElem?_range (by omega)]; rfl
  | succ i =>
    rw [List.getElem?_cons_succ]
    by_cases h : i < T
    · rw [List.getElem?_range (by omega), List.getElem?_replicate, if_pos h]
      rfl
    · rw [List.getElem?_eq_none (by rw [List.length_range]; omega), List.getElem?_replicate, if_neg h]
      rfl
/-- the padded row -/
def padW (l : List Int) : List Int := 0 :: (l ++ [0])
theorem pad_lo {T k h : Nat} (e : h ≤ T) : (padW (rowW T k))[h]? = some (((if h = 0 then 0 else W T k (h - 1) : Nat)) : Int) := by
  unfold padW
  cases h with
  | zero => rfl
  | succ h =>
    rw [List.getElem?_cons_succ, List.getElem?_append_left (by rw [rowW_len]; omega), rowW_get (by omega)]
    rfl
theorem pad_hi {T k h : Nat} (e : h ≤ T) : (padW (rowW T k))[h + 2]? = some (((if h < T then W T k (h + 1) else 0 : Nat)) : Int) := by
  unfold padW
  rw [List.getElem?_cons_succ]
  by_cases hl : h < T
  · rw [List.getElem?_append_left (by rw [rowW_len]; omega), rowW_get (by omega), if_pos hl]
  · have e : h = T := by omega
    subst e
    rw [List.getElem?_append_right (by rw [rowW_len]; omega), rowW_len, Nat.sub_self, if_neg hl]
    rfl
theorem row_step {T k h : Nat} (e : h ≤ T) : ∃ a b : Int, (padW (rowW T k))[h]? = some a ∧ (padW (rowW T k))[h + 2]? = some b ∧ (rowW T (k + 1))[h]? = some (a + b) := by
  refine ⟨_, _, pad_lo e, pad_hi e, ?_⟩
  rw [rowW_get e]
  simp only [W]
  rw [Int.natCast_add]
theorem W_le (T : Nat) : ∀ k h, W T k h ≤ 2 ^ k
  | 0, h => by
    unfold W
    split <;> decide
  | k + 1, h => by
    have a := W_le T k (h - 1)
    have b := W_le T k (h + 1)
    unfold W
    rw [Nat.pow_succ]
    split <;> split <;> omega

/-! ### hill rows by growing beginnings -/
section
variable {α : Type} (d u : α → α)
/-- the ceiling: none or some k -/
def under : Option Nat → Nat → Bool
  | none, _ => true
  | some c, h => decide (h < c)
def low (h : Nat) : Option Nat → Nat
  | none => h
  | some c => min h c
def grow1 (c : Option Nat) (p : α × Nat) : List (α × Nat) :=
  (if 0 < p.2 then [(d p.1, p.2 - 1)] else []) ++ (if under c p.2 = true then [(u p.1, p.2 + 1)] else [])
def growAll (c : Option Nat) (l : List (α × Nat)) : List (α × Nat) := l.flatMap (grow1 d u c)
def grown (c : Option Nat) (a : α) : Nat → List (α × Nat)
  | 0 => [(a, 0)]
  | k + 1 => growAll d u c (grown c a k)
def cnt (h : Nat) (l : List (α × Nat)) : Nat := (l.filter fun p => p.2 == h).length
theorem cnt_nil (h : Nat) : cnt h ([] : List (α × Nat)) = 0 := rfl
theorem cnt_append (h : Nat) (l r : List (α × Nat)) : cnt h (l ++ r) = cnt h l + cnt h r := by
  unfold cnt
  rw [List.filter_append, List.length_append]
theorem cnt_one (h : Nat) (a : α) (k : Nat) : cnt h [(a, k)] = if k = h then 1 else 0 := by
  unfold cnt
  by_cases e : k = h
  · rw [if_pos e, List.filter_cons_of_pos (by simp [e])]
    rfl
  · rw [if_neg e, List.filter_cons_of_neg (by simp [e])]
    rfl
theorem cnt_cons (h : Nat) (p : α × Nat) (l : List (α × Nat)) : cnt h (p :: l) = (if p.2 = h then 1 else 0) + cnt h l := by
  rw [← List.singleton_append, cnt_append, show cnt h [p] = if p.2 = h then 1 else 0 from cnt_one h p.1 p.2]
theorem cnt_grow1 (c : Option Nat) (h : Nat) (p : α × Nat) : cnt h (grow1 d u c p) = (if p.2 = h + 1 then 1 else 0) + (if 0 < h ∧ under c (h - 1) = true ∧ p.2 = h - 1 then 1 else 0) := by
  unfold grow1
  rw [cnt_append]
  congr 1
  · by_cases e : 0 < p.2
    · rw [if_pos e, cnt_one]
      by_cases e2 : p.2 = h + 1
      · rw [if_pos e2, if_pos (by omega)]
      · rw [if_neg e2, if_neg (by omega)]
    · rw [if_neg e, cnt_nil, if_neg (by omega)]
  · by_cases e : under c p.2 = true
    · rw [if_pos e, cnt_one]
      by_cases e2 : p.2 + 1 = h
      · have : h - 1 = p.2 := by omega
        rw [if_pos e2, if_pos ⟨by omega, by rw [this]; exact e, by omega⟩]
      · rw [if_neg e2, if_neg (by omega)]
    · rw [if_neg e, cnt_nil]
      by_cases e2 : 0 < h ∧ under c (h - 1) = true ∧ p.2 = h - 1
      · rw [← e2.2.2] at e2
        exact absurd e2.2.1 e
      · rw [if_neg e2]
theorem cnt_growAll (c : Option Nat) (h : Nat) : ∀ l : List (α × Nat), cnt h (growAll d u c l) = cnt (h + 1) l + (if 0 < h ∧ under c (h - 1) = true then cnt (h - 1) l else 0)
  | [] => by
    show 0 = 0 + (if _ then 0 else 0)
    split <;> rfl
  | p :: l => by
    have e : growAll d u c (p :: l) = grow1 d u c p ++ growAll d u c l := rfl
    rw [e, cnt_append, cnt_grow1, cnt_growAll c h l, cnt_cons, cnt_cons]
    by_cases e1 : 0 < h ∧ under c (h - 1) = true
    · rw [if_pos e1, if_pos e1]
      by_cases e2 : p.2 = h - 1
      · rw [if_pos (show 0 < h ∧ under c (h - 1) = true ∧ p.2 = h - 1 from ⟨e1.1, e1.2, e2⟩), if_pos e2]
        omega
      · rw [if_neg (show ¬ (0 < h ∧ under c (h - 1) = true ∧ p.2 = h - 1) from fun z => e2 z.2.2), if_neg e2]
        omega
    · rw [if_neg e1, if_neg e1, if_neg (show ¬ (0 < h ∧ under c (h - 1) = true ∧ p.2 = h - 1) from fun z => e1 ⟨z.1, z.2.1⟩)]
      omega
/-- no row grown in k signs is higher than k -/
theorem cnt_grown (c : Option Nat) (a : α) (T : Nat) (hT : ∀ k, c = some k → T = k) : ∀ k h, (c = none → k + h ≤ 2 * T + 1) → h ≤ T → cnt h (grown d u c a k) = W T k h
  | 0, h, _, _ => by
    show cnt h [(a, 0)] = _
    rw [cnt_one]
    unfold W
    by_cases e : h = 0
    · rw [if_pos e, if_pos e.symm]
    · rw [if_neg e, if_neg (fun z => e z.symm)]
  | k + 1, h, hc, hl => by
    show cnt h (growAll d u c (grown d u c a k)) = _
    rw [cnt_growAll]
    simp only [W]
    rw [Nat.add_comm]
    congr 1
    · by_cases e0 : h = 0
      · rw [if_pos e0, if_neg (by omega)]
      · rw [if_neg e0]
        have hu : under c (h - 1) = true := by
          cases c with
          | none => rfl
          | some k =>
            have := hT k rfl
            unfold under
            exact decide_eq_true (by omega)
        rw [if_pos ⟨by omega, hu⟩, cnt_grown c a T hT k (h - 1) (fun z => by have := hc z; omega) (by omega)]
    · by_cases e : h < T
      · rw [if_pos e, cnt_grown c a T hT k (h + 1) (fun z => by have := hc z; omega) (by omega)]
      · rw [if_neg e]
        cases c with
        | none =>
          have z := hc rfl
          exact cnt_zero_len none a k (h + 1) (by omega)
        | some j =>
          have e3 := hT j rfl
          exact cnt_zero_top2 j a k (h + 1) (by omega)
where
  cnt_zero_len (c : Option Nat) (a : α) : ∀ k h, k < h → cnt h (grown d u c a k) = 0
    | 0, h, e => by
      show cnt h [(a, 0)] = 0
      rw [cnt_one, if_neg (by omega)]
    | k + 1, h, e => by
      show cnt h (growAll d u c (grown d u c a k)) = 0
      rw [cnt_growAll, cnt_zero_len c a k (h + 1) (by omega), cnt_zero_len c a k (h - 1) (by omega)]
      split <;> rfl
  cnt_zero_top2 (j : Nat) (a : α) : ∀ k h, j < h → cnt h (grown d u (some j) a k) = 0
    | 0, h, e => by
      show cnt h [(a, 0)] = 0
      rw [cnt_one, if_neg (by omega)]
    | k + 1, h, e => by
      show cnt h (growAll d u (some j) (grown d u (some j) a k)) = 0
      rw [cnt_growAll, cnt_zero_top2 j a k (h + 1) (by omega), if_neg (fun z => ?_)]
      have := z.2
      unfold under at this
      have := of_decide_eq_true this
      omega
theorem grown_len (c : Option Nat) (a : α) : ∀ k, (grown d u c a k).length ≤ 2 ^ k
  | 0 => Nat.le_refl 1
  | k + 1 => by
    have ih := grown_len c a k
    have g : ∀ l : List (α × Nat), (growAll d u c l).length ≤ 2 * l.length := by
      intro l
      induction l with
      | nil => exact Nat.le_refl _
      | cons p l il =>
        have e : growAll d u c (p :: l) = grow1 d u c p ++ growAll d u c l := rfl
        rw [e, List.length_append, List.length_cons]
        have : (grow1 d u c p).length ≤ 2 := by
          unfold grow1
          rw [List.length_append]
          split <;> split <;> simp
        omega
    have := g (grown d u c a k)
    show (growAll d u c (grown d u c a k)).length ≤ _
    rw [Nat.pow_succ]
    omega
/-- as many as the table counts -/
theorem counted_ok (c : Option Nat) (a : α) (n : Nat) : cnt 0 (grown d u c a (2 * n)) = W (low n c) (2 * n) 0 := by
  cases c with
  | none => exact cnt_grown d u none a n (fun _ z => nomatch z) _ _ (fun _ => by omega) (Nat.zero_le _)
  | some j =>
    rw [cnt_grown d u (some j) a j (fun k z => by cases z; rfl) _ _ (fun z => nomatch z) (Nat.zero_le _)]
    show W j (2 * n) 0 = W (min n j) (2 * n) 0
    by_cases h : j ≤ n
    · rw [Nat.min_eq_right h]
    · rw [Nat.min_eq_left (by omega)]
      exact (W_same (by omega) _ _ (Nat.zero_le _) (by omega)).symm
end
end Hr
namespace Hr
/-! ### rows as lists of signs: true is up -/
/-- all rows of k signs from the height h to the ground, none above T, in order -/
def rws (T : Nat) : Nat → Nat → List (List Bool)
  | 0, h => if h = 0 then [[]] else []
  | k + 1, h => (if h = 0 then [] else (rws T k (h - 1)).map (false :: ·)) ++ (if h < T then (rws T k (h + 1)).map (true :: ·) else [])
theorem rws_len (T : Nat) : ∀ k h, (rws T k h).length = W T k h
  | 0, h => by
    unfold rws W
    split <;> rfl
  | k + 1, h => by
    unfold rws W
    rw [List.length_append]
    congr 1
    · split
      · rfl
      · rw [List.length_map, rws_len T k (h - 1)]
    · split
      · rw [List.length_map, rws_len T k (h + 1)]
      · rfl
/-- the row of a rank -/
def unrank (T : Nat) : Nat → Nat → Nat → List Bool
  | 0, _, _ => []
  | k + 1, h, r => if r < (if h = 0 then 0 else W T k (h - 1)) then false :: unrank T k (h - 1) r else true :: unrank T k (h + 1) (r - (if h = 0 then 0 else W T k (h - 1)))
/-- the ways down -/
def dn (T k h : Nat) : Nat := if h = 0 then 0 else W T k (h - 1)
theorem unrank_succ (T k h r : Nat) : unrank T (k + 1) h r = if r < dn T k h then false :: unrank T k (h - 1) r else true :: unrank T k (h + 1) (r - dn T k h) := rfl
theorem W_succ (T k h : Nat) : W T (k + 1) h = dn T k h + (if h < T then W T k (h + 1) else 0) := rfl
/-- the rank of a row that goes on from h -/
def rankOf (T : Nat) : Nat → List Bool → Nat
  | _, [] => 0
  | h, true :: l => dn T l.length h + rankOf T (h + 1) l
  | h, false :: l => rankOf T (h - 1) l
/-- a row from h to the ground under the ceiling -/
def okb (c : Option Nat) : Nat → List Bool → Bool
  | h, [] => h == 0
  | h, true :: l => under c h && okb c (h + 1) l
  | h, false :: l => (h != 0) && okb c (h - 1) l
theorem okb_up {c : Option Nat} {h : Nat} {l : List Bool} (e : okb c h (true :: l) = true) : under c h = true ∧ okb c (h + 1) l = true := by
  unfold okb at e
  exact Bool.and_eq_true_iff.mp e
theorem okb_down {c : Option Nat} {h : Nat} {l : List Bool} (e : okb c h (false :: l) = true) : h ≠ 0 ∧ okb c (h - 1) l = true := by
  unfold okb at e
  obtain ⟨a, b⟩ := Bool.and_eq_true_iff.mp e
  exact ⟨by simpa using a, b⟩
theorem okb_len {c : Option Nat} : ∀ {l : List Bool} {h : Nat}, okb c h l = true → h ≤ l.length
  | [], h, e => by
    have : h = 0 := by simpa [okb] using e
    omega
  | true :: l, h, e => by
    have := okb_len (okb_up e).2
    rw [List.length_cons]
    omega
  | false :: l, h, e => by
    have := okb_len (okb_down e).2
    rw [List.length_cons]
    omega
theorem rank_lt {T : Nat} : ∀ {l : List Bool} {h : Nat}, okb (some T) h l = true → rankOf T h l < W T l.length h
  | [], h, e => by
    have e0 : h = 0 := by simpa [okb] using e
    rw [e0]
    exact Nat.zero_lt_one
  | true :: l, h, e => by
    obtain ⟨a, b⟩ := okb_up e
    have ih := rank_lt b
    have a' : h < T := of_decide_eq_true a
    rw [List.length_cons, W_succ, if_pos a']
    show dn T l.length h + rankOf T (h + 1) l < _
    omega
  | false :: l, h, e => by
    obtain ⟨a, b⟩ := okb_down e
    have ih := rank_lt b
    rw [List.length_cons, W_succ]
    show rankOf T (h - 1) l < _
    unfold dn
    rw [if_neg a]
    omega
theorem unrank_rank {T : Nat} : ∀ {l : List Bool} {h : Nat}, okb (some T) h l = true → unrank T l.length h (rankOf T h l) = l
  | [], h, e => rfl
  | true :: l, h, e => by
    obtain ⟨a, b⟩ := okb_up e
    rw [List.length_cons, unrank_succ]
    show (if dn T l.length h + rankOf T (h + 1) l < dn T l.length h then _ else true :: unrank T l.length (h + 1) (dn T l.length h + rankOf T (h + 1) l - dn T l.length h)) = _
    rw [if_neg (by omega), Nat.add_sub_cancel_left, unrank_rank b]
  | false :: l, h, e => by
    obtain ⟨a, b⟩ := okb_down e
    have := rank_lt b
    rw [List.length_cons, unrank_succ]
    show (if rankOf T (h - 1) l < dn T l.length h then false :: unrank T l.length (h - 1) (rankOf T (h - 1) l) else _) = _
    rw [if_pos (by unfold dn; rw [if_neg a]; exact this), unrank_rank b]
theorem unrank_ok {T : Nat} : ∀ {k h r : Nat}, r < W T k h → okb (some T) h (unrank T k h r) = true ∧ (unrank T k h r).length = k ∧ rankOf T h (unrank T k h r) = r
  | 0, h, r, e => by
    unfold W at e
    by_cases h0 : h = 0
    · rw [if_pos h0] at e
      refine ⟨?_, rfl, ?_⟩
      · rw [h0]
        rfl
      · show 0 = r
        omega
    · rw [if_neg h0] at e
      omega
  | k + 1, h, r, e => by
    rw [unrank_succ]
    rw [W_succ] at e
    by_cases hr : r < dn T k h
    · rw [if_pos hr]
      have h0 : h ≠ 0 := fun z => by
        unfold dn at hr
        rw [if_pos z] at hr
        omega
      have hr' : r < W T k (h - 1) := by
        unfold dn at hr
        rw [if_neg h0] at hr
        exact hr
      obtain ⟨a, b, c⟩ := unrank_ok hr'
      refine ⟨?_, by rw [List.length_cons, b], c⟩
      unfold okb
      rw [a, Bool.and_true]
      simpa using h0
    · rw [if_neg hr]
      by_cases hT : h < T
      · rw [if_pos hT] at e
        obtain ⟨a, b, c⟩ := unrank_ok (T := T) (k := k) (h := h + 1) (r := r - dn T k h) (by omega)
        refine ⟨?_, by rw [List.length_cons, b], ?_⟩
        · unfold okb
          rw [a, Bool.and_true]
          exact decide_eq_true hT
        · show dn T _ h + rankOf T (h + 1) _ = r
          rw [b, c]
          omega
      · rw [if_neg hT] at e
        omega
theorem unrank_get {T : Nat} : ∀ {k h r : Nat}, r < W T k h → (rws T k h)[r]? = some (unrank T k h r)
  | 0, h, r, e => by
    unfold W at e
    by_cases h0 : h = 0
    · rw [if_pos h0] at e
      have : r = 0 := by omega
      rw [this, h0]
      rfl
    · rw [if_neg h0] at e
      omega
  | k + 1, h, r, e => by
    rw [unrank_succ]
    rw [W_succ] at e
    unfold rws
    have hl : (if h = 0 then [] else (rws T k (h - 1)).map (false :: ·)).length = dn T k h := by
      unfold dn
      split
      · rfl
      · rw [List.length_map, rws_len]
    by_cases hr : r < dn T k h
    · rw [if_pos hr, List.getElem?_append_left (by rw [hl]; exact hr)]
      have h0 : h ≠ 0 := fun z => by
        unfold dn at hr
        rw [if_pos z] at hr
        omega
      have hr' : r < W T k (h - 1) := by
        unfold dn at hr
        rw [if_neg h0] at hr
        exact hr
      rw [if_neg h0, List.getElem?_map, unrank_get hr']
      rfl
    · rw [if_neg hr, List.getElem?_append_right (by rw [hl]; omega), hl]
      by_cases hT : h < T
      · rw [if_pos hT] at e ⊢
        rw [List.getElem?_map, unrank_get (T := T) (k := k) (h := h + 1) (r := r - dn T k h) (by omega)]
        rfl
      · rw [if_neg hT] at e
        omega
/-- a hill row of n ups is not higher than n -/
theorem okb_low {c : Option Nat} {n : Nat} : ∀ {l : List Bool} {h : Nat}, h + l.length ≤ 2 * n → okb c h l = true → okb (some (low n c)) h l = true
  | [], h, _, e => e
  | true :: l, h, hn, e => by
    obtain ⟨a, b⟩ := okb_up e
    rw [List.length_cons] at hn
    have := okb_len b
    unfold okb
    rw [okb_low (by omega) b, Bool.and_true]
    refine decide_eq_true ?_
    cases c with
    | none => show h < n; omega
    | some k =>
      have a' : h < k := of_decide_eq_true a
      show h < min n k
      omega
  | false :: l, h, hn, e => by
    obtain ⟨a, b⟩ := okb_down e
    rw [List.length_cons] at hn
    unfold okb
    rw [okb_low (by omega) b, Bool.and_true]
    simpa using a
theorem okb_up_of {c : Option Nat} {n : Nat} : ∀ {l : List Bool} {h : Nat}, okb (some (low n c)) h l = true → okb c h l = true
  | [], h, e => e
  | true :: l, h, e => by
    obtain ⟨a, b⟩ := okb_up e
    unfold okb
    rw [okb_up_of b, Bool.and_true]
    have a' : h < low n c := of_decide_eq_true a
    cases c with
    | none => rfl
    | some k =>
      have a' : h < min n k := a'
      exact decide_eq_true (by omega)
  | false :: l, h, e => by
    obtain ⟨a, b⟩ := okb_down e
    unfold okb
    rw [okb_up_of b, Bool.and_true]
    simpa using a
/-- how many ups -/
theorem okb_ups {c : Option Nat} : ∀ {l : List Bool} {h : Nat}, okb c h l = true → h + 2 * (l.filter id).length = l.length
  | [], h, e => by
    have e0 : h = 0 := by simpa [okb] using e
    rw [e0]
    rfl
  | true :: l, h, e => by
    have := okb_ups (okb_up e).2
    rw [List.length_cons, List.filter_cons_of_pos rfl, List.length_cons]
    omega
  | false :: l, h, e => by
    obtain ⟨a, b⟩ := okb_down e
    have := okb_ups b
    rw [List.length_cons, List.filter_cons_of_neg (by simp)]
    omega
theorem okb_even {c : Option Nat} {l : List Bool} (e : okb c 0 l = true) : l.length = 2 * (l.length / 2) := by
  have := okb_ups e
  omega
/-! ### heights -/
def sg (b : Bool) : Int := if b = true then 1 else -1
def hts : Int → List Bool → List Int
  | h, [] => [h]
  | h, b :: l => h :: hts (h + sg b) l
theorem hts_len : ∀ (l : List Bool) (h : Int), (hts h l).length = l.length + 1
  | [], _ => rfl
  | b :: l, h => by
    show (hts (h + sg b) l).length + 1 = _
    rw [hts_len l]
    rfl
theorem hts_ne (h : Int) (l : List Bool) : hts h l ≠ [] := by
  cases l <;> exact List.cons_ne_nil _ _
theorem hts_append : ∀ (l r : List Bool) (h : Int), hts h (l ++ r) = (hts h l).dropLast ++ hts (h + (l.map sg).sum) r
  | [], r, h => by
    show hts h r = [] ++ hts (h + 0) r
    rw [Int.add_zero]
    rfl
  | b :: l, r, h => by
    show h :: hts (h + sg b) (l ++ r) = (h :: hts (h + sg b) l).dropLast ++ _
    rw [hts_append l r, List.dropLast_cons_of_ne_nil (hts_ne _ _), List.map_cons, List.sum_cons, ← Int.add_assoc]
    rfl
theorem hts_snoc (l : List Bool) (b : Bool) (h : Int) : hts h (l ++ [b]) = hts h l ++ [h + (l.map sg).sum + sg b] := by
  have last : ∀ (l : List Bool) (h : Int), hts h l = (hts h l).dropLast ++ [h + (l.map sg).sum] := by
    intro l h
    have := hts_append l [] h
    rw [List.append_nil] at this
    exact this
  rw [hts_append, last l h]
  rw [List.dropLast_concat, List.append_assoc]
  rfl
theorem hts_last (l : List Bool) (h : Int) : (hts h l) = (hts h l).dropLast ++ [h + (l.map sg).sum] := by
  have := hts_append l [] h
  rw [List.append_nil] at this
  exact this
/-- a hill row by its heights -/
theorem okb_iff (c : Option Nat) : ∀ (l : List Bool) (h : Nat), (∀ k, c = some k → h ≤ k) → (okb c h l = true ↔ ((h : Int) + (l.map sg).sum = 0 ∧ (∀ x ∈ hts h l, 0 ≤ x) ∧ ∀ k, c = some k → ∀ x ∈ hts h l, x ≤ (k : Int)))
  | [], h, hc => by
    show ((h == 0) = true) ↔ _
    constructor
    · intro e
      have e0 : h = 0 := by simpa using e
      subst e0
      refine ⟨rfl, fun x hx => ?_, fun k hk x hx => ?_⟩
      · have := List.mem_singleton.mp hx
        omega
      · have := List.mem_singleton.mp hx
        omega
    · rintro ⟨e, _, _⟩
      have : (h : Int) + 0 = 0 := e
      have : h = 0 := by omega
      simp [this]
  | true :: l, h, hc => by
    have e1 : hts (h : Int) (true :: l) = (h : Int) :: hts ((h + 1 : Nat) : Int) l := rfl
    have e2 : ((true :: l).map sg).sum = 1 + (l.map sg).sum := by
      rw [List.map_cons, List.sum_cons]
      rfl
    rw [e1, e2]
    constructor
    · intro e
      obtain ⟨a, b⟩ := okb_up e
      have hc' : ∀ k, c = some k → h + 1 ≤ k := fun k hk => by
        rw [hk] at a
        exact of_decide_eq_true a
      obtain ⟨i1, i2, i3⟩ := (okb_iff c l (h + 1) hc').mp b
      refine ⟨by omega, fun x hx => ?_, fun k hk x hx => ?_⟩
      · rcases List.mem_cons.mp hx with z | z
        · omega
        · exact i2 x z
      · rcases List.mem_cons.mp hx with z | z
        · have := hc k hk
          omega
        · exact i3 k hk x z
    · rintro ⟨a, b, d⟩
      have hmem : ((h + 1 : Nat) : Int) ∈ hts ((h + 1 : Nat) : Int) l := by
        cases l <;> exact List.mem_cons_self ..
      have hc' : ∀ k, c = some k → h + 1 ≤ k := fun k hk => by
        have := d k hk _ (List.mem_cons_of_mem _ hmem)
        omega
      have := (okb_iff c l (h + 1) hc').mpr ⟨by omega, fun x hx => b x (List.mem_cons_of_mem _ hx), fun k hk x hx => d k hk x (List.mem_cons_of_mem _ hx)⟩
      unfold okb
      rw [this, Bool.and_true]
      cases c with
      | none => rfl
      | some k =>
        have := hc' k rfl
        exact decide_eq_true (by omega)
  | false :: l, h, hc => by
    have e2 : ((false :: l).map sg).sum = -1 + (l.map sg).sum := by
      rw [List.map_cons, List.sum_cons]
      rfl
    by_cases h0 : h = 0
    · subst h0
      have e1 : hts ((0 : Nat) : Int) (false :: l) = 0 :: hts (-1) l := rfl
      constructor
      · intro e
        exact absurd rfl (okb_down e).1
      · rintro ⟨a, b, d⟩
        have hmem : (-1 : Int) ∈ hts (-1) l := by
          cases l <;> exact List.mem_cons_self ..
        rw [e1] at b
        have := b _ (List.mem_cons_of_mem _ hmem)
        omega
    · have e1 : hts (h : Int) (false :: l) = (h : Int) :: hts ((h - 1 : Nat) : Int) l := by
        show (h : Int) :: hts ((h : Int) + -1) l = _
        rw [show (h : Int) + -1 = ((h - 1 : Nat) : Int) by omega]
      rw [e1, e2]
      have hc' : ∀ k, c = some k → h - 1 ≤ k := fun k hk => by
        have := hc k hk
        omega
      constructor
      · intro e
        obtain ⟨a, b⟩ := okb_down e
        obtain ⟨i1, i2, i3⟩ := (okb_iff c l (h - 1) hc').mp b
        refine ⟨by omega, fun x hx => ?_, fun k hk x hx => ?_⟩
        · rcases List.mem_cons.mp hx with z | z
          · omega
          · exact i2 x z
        · rcases List.mem_cons.mp hx with z | z
          · have := hc k hk
            omega
          · exact i3 k hk x z
      · rintro ⟨a, b, d⟩
        have := (okb_iff c l (h - 1) hc').mpr ⟨by omega, fun x hx => b x (List.mem_cons_of_mem _ hx), fun k hk x hx => d k hk x (List.mem_cons_of_mem _ hx)⟩
        unfold okb
        rw [this, Bool.and_true]
        simpa using h0
end Hr
/-! ### first hills, groves -/
namespace Hr
theorem okb_app {r : List Bool} {h : Nat} : ∀ {a : List Bool} {k : Nat}, okb none k a = true → okb none (h + k) (a ++ r) = okb none h r
  | [], k, e => by
    have e0 : k = 0 := by simpa [okb] using e
    rw [e0]
    rfl
  | true :: a, k, e => by
    show (true && okb none (h + k + 1) (a ++ r)) = _
    rw [Bool.true_and]
    exact okb_app (k := k + 1) (okb_up e).2
  | false :: a, k, e => by
    obtain ⟨k0, e1⟩ := okb_down e
    show ((h + k != 0) && okb none (h + k - 1) (a ++ r)) = _
    rw [show (h + k != 0) = true by simp; omega, Bool.true_and, show h + k - 1 = h + (k - 1) by omega]
    exact okb_app e1
/-- a walk down by one: the first down to there parts it -/
theorem okb_part : ∀ (m : Nat) {l : List Bool} {h : Nat}, l.length ≤ m → okb none (h + 1) l = true → ∃ a b, l = a ++ false :: b ∧ okb none 0 a = true ∧ okb none h b = true
  | m, [], h, _, e => by
    have : h + 1 = 0 := by simpa [okb] using e
    omega
  | m, false :: l, h, _, e => ⟨[], l, rfl, rfl, (okb_down e).2⟩
  | 0, true :: l, h, hm, e => absurd hm (by rw [List.length_cons]; omega)
  | m + 1, true :: l, h, hm, e => by
    rw [List.length_cons] at hm
    obtain ⟨a1, b1, e1, o1, p1⟩ := okb_part m (h := h + 1) (by omega) (okb_up e).2
    have h1 : b1.length ≤ m := by
      have := congrArg List.length e1
      rw [List.length_append, List.length_cons] at this
      omega
    obtain ⟨a2, b2, e2, o2, p2⟩ := okb_part m h1 p1
    refine ⟨true :: (a1 ++ false :: a2), b2, by rw [e1, e2, List.cons_append, List.append_assoc, List.cons_append], ?_, p2⟩
    show (true && okb none (0 + 1) (a1 ++ false :: a2)) = true
    rw [Bool.true_and]
    have := okb_app (r := false :: a2) (h := 1) o1
    rw [Nat.add_zero] at this
    rw [Nat.zero_add, this]
    show ((1 != 0) && okb none (1 - 1) a2) = true
    rw [Nat.sub_self, o2]
    rfl
theorem hill_part {l : List Bool} (e : okb none 0 (true :: l) = true) : ∃ a b, l = a ++ false :: b ∧ okb none 0 a = true ∧ okb none 0 b = true := okb_part l.length (Nat.le_refl _) (okb_up e).2
theorem hill_put {a b : List Bool} (ha : okb none 0 a = true) (hb : okb none 0 b = true) : okb none 0 (true :: (a ++ false :: b)) = true := by
  show (true && okb none (0 + 1) (a ++ false :: b)) = true
  have := okb_app (r := false :: b) (h := 1) ha
  rw [Nat.add_zero] at this
  rw [Bool.true_and, Nat.zero_add, this]
  show ((1 != 0) && okb none (1 - 1) b) = true
  rw [Nat.sub_self, hb]
  rfl
theorem hill_app {a b : List Bool} (ha : okb none 0 a = true) (hb : okb none 0 b = true) : okb none 0 (a ++ b) = true := by
  have := okb_app (r := b) (h := 0) ha
  rw [Nat.add_zero] at this
  rw [this]
  exact hb
/-- no hill row stands ahead of its own first down below -/
theorem part_one : ∀ {a a' b b' : List Bool} {h : Nat}, okb none h a = true → okb none h a' = true → a ++ false :: b = a' ++ false :: b' → a = a' ∧ b = b'
  | [], [], b, b', h, _, _, e => ⟨rfl, (List.cons.inj e).2⟩
  | [], x :: a', b, b', h, e1, e2, e => by
    have hx : x = false := (List.cons.inj e).1.symm
    have h0 : h = 0 := by simpa [okb] using e1
    rw [hx, h0] at e2
    exact absurd rfl (okb_down e2).1
  | x :: a, [], b, b', h, e1, e2, e => by
    have hx : x = false := (List.cons.inj e).1
    have h0 : h = 0 := by simpa [okb] using e2
    rw [hx, h0] at e1
    exact absurd rfl (okb_down e1).1
  | x :: a, y :: a', b, b', h, e1, e2, e => by
    obtain ⟨hx, he⟩ := List.cons.inj e
    subst hx
    cases x with
    | true =>
      obtain ⟨p, q⟩ := part_one (okb_up e1).2 (okb_up e2).2 he
      exact ⟨by rw [p], q⟩
    | false =>
      obtain ⟨p, q⟩ := part_one (okb_down e1).2 (okb_down e2).2 he
      exact ⟨by rw [p], q⟩
/-- a grove: none, or a tree (what hangs on it) and the trees behind it -/
inductive Gv where
  | no : Gv
  | tree : Gv → Gv → Gv
/-- its row -/
def Gv.row : Gv → List Bool
  | .no => []
  | .tree a b => true :: (a.row ++ false :: b.row)
/-- how deep it is -/
def Gv.deep : Gv → Nat
  | .no => 0
  | .tree a b => max (a.deep + 1) b.deep
/-- its trees -/
def Gv.trees : Gv → List Gv
  | .no => []
  | .tree a b => a :: b.trees
def Gv.of : List Gv → Gv
  | [] => .no
  | a :: r => .tree a (.of r)
theorem Gv.of_trees : ∀ g : Gv, Gv.of g.trees = g
  | .no => rfl
  | .tree a b => by
    show Gv.tree a (Gv.of b.trees) = _
    rw [of_trees b]
theorem Gv.trees_of : ∀ l : List Gv, (Gv.of l).trees = l
  | [] => rfl
  | a :: r => by
    show a :: (Gv.of r).trees = _
    rw [trees_of r]
def Gv.app : Gv → Gv → Gv
  | .no, g => g
  | .tree a b, g => .tree a (b.app g)
theorem Gv.trees_app : ∀ f g : Gv, (f.app g).trees = f.trees ++ g.trees
  | .no, _ => rfl
  | .tree a b, g => congrArg (a :: ·) (trees_app b g)
theorem Gv.row_app : ∀ f g : Gv, (f.app g).row = f.row ++ g.row
  | .no, _ => rfl
  | .tree a b, g => by
    show true :: (a.row ++ false :: (b.app g).row) = true :: (a.row ++ false :: b.row) ++ g.row
    rw [row_app b g, List.cons_append, List.append_assoc, List.cons_append]
theorem Gv.row_hill : ∀ g : Gv, okb none 0 g.row = true
  | .no => rfl
  | .tree a b => hill_put a.row_hill b.row_hill
theorem Gv.row_inj : ∀ {f g : Gv}, f.row = g.row → f = g
  | .no, .no, _ => rfl
  | .no, .tree _ _, e => by cases e
  | .tree _ _, .no, e => by cases e
  | .tree a b, .tree c d, e => by
    obtain ⟨p, q⟩ := part_one a.row_hill c.row_hill (List.cons.inj e).2
    rw [row_inj p, row_inj q]
theorem grove_of : ∀ (m : Nat) {l : List Bool}, l.length ≤ m → okb none 0 l = true → ∃ g : Gv, g.row = l
  | _, [], _, _ => ⟨.no, rfl⟩
  | _, false :: l, _, e => absurd rfl (okb_down e).1
  | 0, true :: l, hm, _ => absurd hm (by rw [List.length_cons]; omega)
  | m + 1, true :: l, hm, e => by
    obtain ⟨a, b, rfl, ha, hb⟩ := hill_part e
    rw [List.length_cons, List.length_append, List.length_cons] at hm
    obtain ⟨f, rfl⟩ := grove_of m (by omega) ha
    obtain ⟨g, rfl⟩ := grove_of m (by omega) hb
    exact ⟨.tree f g, rfl⟩
/-- every hill row is the row of just one grove -/
theorem grove_row {l : List Bool} (e : okb none 0 l = true) : ∃ g : Gv, g.row = l := grove_of l.length (Nat.le_refl _) e
theorem Gv.deep_le : ∀ g : Gv, 2 * g.deep ≤ g.row.length
  | .no => Nat.le_refl _
  | .tree a b => by
    have h1 := deep_le a
    have h2 := deep_le b
    show 2 * max (a.deep + 1) b.deep ≤ (true :: (a.row ++ false :: b.row)).length
    rw [List.length_cons, List.length_append, List.length_cons]
    omega
/-! ### turnings -/
/-- the law's walk: below 0 but at the end nowhere -/
def stayB : Int → List Bool → Bool
  | _, [] => false
  | h, b :: l => if h + sg b < 0 then l.isEmpty else stayB (h + sg b) l
theorem stayB_iff : ∀ (l : List Bool) (h : Int), stayB h l = true ↔ (l ≠ [] ∧ h + (l.map sg).sum < 0 ∧ ∀ i, 0 < i → i < l.length → 0 ≤ h + ((l.take i).map sg).sum)
  | [], h => ⟨fun e => (nomatch (show false = true from e)), fun e => absurd rfl e.1⟩
  | b :: l, h => by
    have ih := stayB_iff l (h + sg b)
    show (if h + sg b < 0 then l.isEmpty else stayB (h + sg b) l) = true ↔ _
    by_cases hn : h + sg b < 0
    · rw [if_pos hn]
      constructor
      · intro e
        have e : l = [] := by simpa using e
        subst e
        refine ⟨List.cons_ne_nil _ _, ?_, fun i h0 h1 => ?_⟩
        · show h + (sg b + 0) < 0
          omega
        · have h1 : i < 1 := h1
          omega
      · rintro ⟨_, _, h3⟩
        cases l with
        | nil => rfl
        | cons c l =>
          have := h3 1 (by omega) (by rw [List.length_cons, List.length_cons]; omega)
          have : 0 ≤ h + (sg b + 0) := this
          omega
    · rw [if_neg hn, ih]
      constructor
      · rintro ⟨_, h2, h3⟩
        refine ⟨List.cons_ne_nil _ _, ?_, fun i h0 h1 => ?_⟩
        · rw [List.map_cons, List.sum_cons]
          omega
        · obtain ⟨j, rfl⟩ : ∃ j, i = j + 1 := ⟨i - 1, by omega⟩
          rw [List.take_succ_cons, List.map_cons, List.sum_cons]
          rw [List.length_cons] at h1
          by_cases hj : j = 0
          · subst hj
            show 0 ≤ h + (sg b + 0)
            omega
          · have := h3 j (by omega) (by omega)
            omega
      · rintro ⟨_, h2, h3⟩
        rw [List.map_cons, List.sum_cons] at h2
        refine ⟨fun z => ?_, by omega, fun i h0 h1 => ?_⟩
        · subst z
          have h2 : h + (sg b + 0) < 0 := h2
          omega
        · have := h3 (i + 1) (by omega) (by rw [List.length_cons]; omega)
          rw [List.take_succ_cons, List.map_cons, List.sum_cons] at this
          omega
/-- the height at the place i -/
def hgt (l : List Bool) (i : Nat) : Int := ((l.take i).map sg).sum
def turned (l : List Bool) (k : Nat) : List Bool := l.drop k ++ l.take k
/-- the place k is the first lowest one -/
def Lowest (l : List Bool) (k : Nat) : Prop := (∀ i, i < k → hgt l k < hgt l i) ∧ ∀ i, k ≤ i → i ≤ l.length → hgt l k ≤ hgt l i
theorem hgt_drop (l : List Bool) (k j : Nat) : ((((l.drop k).take j)).map sg).sum = hgt l (k + j) - hgt l k := by
  unfold hgt
  rw [List.take_add, List.map_append, List.sum_append]
  omega
theorem hgt_len (l : List Bool) : hgt l l.length = (l.map sg).sum := by
  unfold hgt
  rw [List.take_length]
theorem hgt_drop_all (l : List Bool) {k : Nat} (hk : k ≤ l.length) : ((l.drop k).map sg).sum = hgt l l.length - hgt l k := by
  have := hgt_drop l k (l.length - k)
  rw [show k + (l.length - k) = l.length by omega, List.take_of_length_le (by rw [List.length_drop]; omega)] at this
  exact this
/-- a turning stays up just where it begins behind the first lowest place -/
theorem turned_iff {l : List Bool} (hs : (l.map sg).sum = -1) {k : Nat} (h0 : 0 < k) (hk : k ≤ l.length) : stayB 0 (turned l k) = true ↔ Lowest l k := by
  have hlen : (turned l k).length = l.length := by
    unfold turned
    rw [List.length_append, List.length_drop, List.length_take]
    omega
  have hsum : ((turned l k).map sg).sum = -1 := by
    unfold turned
    rw [List.map_append, List.sum_append, hgt_drop_all l hk, hgt_len, hs]
    show -1 - hgt l k + hgt l k = -1
    omega
  have hat : ∀ j, j ≤ l.length → (((turned l k).take j).map sg).sum = if j ≤ l.length - k then hgt l (k + j) - hgt l k else -1 - hgt l k + hgt l (j - (l.length - k)) := by
    intro j hj
    unfold turned
    rw [List.take_append, List.map_append, List.sum_append, List.length_drop]
    by_cases hc : j ≤ l.length - k
    · rw [if_pos hc, hgt_drop, show j - (l.length - k) = 0 by omega, List.take_zero]
      show _ + 0 = _
      omega
    · rw [if_neg hc, List.take_of_length_le (by rw [List.length_drop]; omega), hgt_drop_all l hk, hgt_len, hs, List.take_take, show min (j - (l.length - k)) k = j - (l.length - k) by omega]
      rfl
  rw [stayB_iff]
  constructor
  · rintro ⟨_, _, h3⟩
    refine ⟨fun i hi => ?_, fun i h1 h2 => ?_⟩
    · by_cases hi0 : i = 0 ∧ k = l.length
      · rw [hi0.1, hi0.2, hgt_len, hs]
        show -1 < (0 : Int)
        decide
      · have := h3 (l.length - k + i) (by omega) (by rw [hlen]; omega)
        rw [hat _ (by omega)] at this
        by_cases hi1 : i = 0
        · subst hi1
          rw [if_pos (by omega), show k + (l.length - k + 0) = l.length by omega, hgt_len, hs] at this
          show hgt l k < 0
          omega
        · rw [if_neg (by omega), show l.length - k + i - (l.length - k) = i by omega] at this
          omega
    · by_cases hki : i = k
      · rw [hki]
        exact Int.le_refl _
      · have := h3 (i - k) (by omega) (by rw [hlen]; omega)
        rw [hat _ (by omega), if_pos (by omega), show k + (i - k) = i by omega] at this
        omega
  · rintro ⟨h1, h2⟩
    refine ⟨fun z => ?_, by rw [hsum]; decide, fun i hi0 hi1 => ?_⟩
    · rw [z] at hlen
      have : l.length = 0 := hlen.symm
      omega
    · rw [hlen] at hi1
      rw [hat _ (by omega)]
      by_cases hc : i ≤ l.length - k
      · rw [if_pos hc]
        have := h2 (k + i) (by omega) (by omega)
        omega
      · rw [if_neg hc]
        have := h1 (i - (l.length - k)) (by omega)
        omega
theorem lowest_one {l : List Bool} {k k' : Nat} (hk : k ≤ l.length) (hk' : k' ≤ l.length) (h : Lowest l k) (h' : Lowest l k') : k = k' := by
  rcases Nat.lt_trichotomy k k' with z | z | z
  · have h1 := h'.1 k z
    have h2 := h.2 k' (by omega) hk'
    omega
  · exact z
  · have h1 := h.1 k' z
    have h2 := h'.2 k (by omega) hk
    omega
theorem turned_zero (l : List Bool) : turned l 0 = l := by
  unfold turned
  rw [List.drop_zero, List.take_zero, List.append_nil]
theorem turned_len (l : List Bool) : turned l l.length = l := by
  unfold turned
  rw [List.drop_length, List.take_length, List.nil_append]
/-- the first place of the lowest height there is -/
theorem lowest_is {l : List Bool} (hs : (l.map sg).sum = -1) : ∃ k, 0 < k ∧ k ≤ l.length ∧ Lowest l k := by
  have step : ∀ m, m ≤ l.length → ∃ k, k ≤ m ∧ (∀ i, i < k → hgt l k < hgt l i) ∧ ∀ i, k ≤ i → i ≤ m → hgt l k ≤ hgt l i := by
    intro m
    induction m with
    | zero =>
      intro _
      refine ⟨0, Nat.le_refl _, fun i hi => absurd hi (by omega), fun i h1 h2 => ?_⟩
      rw [show i = 0 by omega]
      exact Int.le_refl _
    | succ m ih =>
      intro hm
      obtain ⟨k, hk, h1, h2⟩ := ih (by omega)
      by_cases hc : hgt l (m + 1) < hgt l k
      · refine ⟨m + 1, Nat.le_refl _, fun i hi => ?_, fun i h3 h4 => ?_⟩
        · by_cases hik : i < k
          · have := h1 i hik
            omega
          · have := h2 i (by omega) (by omega)
            omega
        · rw [show i = m + 1 by omega]
          exact Int.le_refl _
      · refine ⟨k, by omega, h1, fun i h3 h4 => ?_⟩
        by_cases hi : i = m + 1
        · rw [hi]
          omega
        · exact h2 i h3 (by omega)
  obtain ⟨k, hk, h1, h2⟩ := step l.length (Nat.le_refl _)
  refine ⟨k, ?_, hk, h1, h2⟩
  by_cases h0 : k = 0
  · have := h2 l.length (by omega) (Nat.le_refl _)
    rw [h0, hgt_len, hs] at this
    have : (0 : Int) ≤ -1 := this
    omega
  · omega
/-- of the turnings by k below the length just one stays up -/
theorem turned_one {l : List Bool} (hs : (l.map sg).sum = -1) : ∃ k, k < l.length ∧ ∀ j, j < l.length → (stayB 0 (turned l j) = true ↔ j = k) := by
  obtain ⟨k, h0, hk, hL⟩ := lowest_is hs
  have key : ∀ j, 0 < j → j ≤ l.length → (stayB 0 (turned l j) = true ↔ j = k) := fun j j0 jl => by
    rw [turned_iff hs j0 jl]
    exact ⟨fun z => lowest_one jl hk z hL, fun z => z ▸ hL⟩
  have hlast : stayB 0 (turned l 0) = stayB 0 (turned l l.length) := by rw [turned_zero, turned_len]
  by_cases hkl : k = l.length
  · refine ⟨0, by omega, fun j jl => ?_⟩
    by_cases j0 : j = 0
    · subst j0
      rw [hlast, key l.length (by omega) (Nat.le_refl _)]
      exact ⟨fun _ => rfl, fun _ => hkl.symm⟩
    · rw [key j (by omega) (by omega)]
      omega
  · refine ⟨k, by omega, fun j jl => ?_⟩
    by_cases j0 : j = 0
    · subst j0
      rw [hlast, key l.length (by omega) (Nat.le_refl _)]
      omega
    · exact key j (by omega) (by omega)
end Hr
/-! ### the hills of a row, by the places of height 0 -/
namespace Hr
def hillsOf : Gv → List (List Bool)
  | .no => []
  | .tree a b => (true :: (a.row ++ [false])) :: hillsOf b
theorem hills_flat : ∀ g : Gv, (hillsOf g).flatten = g.row
  | .no => rfl
  | .tree a b => by
    show (true :: (a.row ++ [false])) ++ (hillsOf b).flatten = true :: (a.row ++ false :: b.row)
    rw [hills_flat b, List.cons_append, List.append_assoc]
    rfl
theorem hills_ok : ∀ (g : Gv) (x : List Bool), x ∈ hillsOf g → okb none 0 x = true
  | .no, x, h => by cases h
  | .tree a b, x, h => by
    rcases List.mem_cons.mp h with rfl | h
    · exact hill_put a.row_hill (b := []) rfl
    · exact hills_ok b x h
theorem hills_ne : ∀ (g : Gv), g.row ≠ [] → hillsOf g ≠ []
  | .no, h => absurd rfl h
  | .tree _ _, _ => List.cons_ne_nil _ _
theorem hills_len : ∀ (g : Gv), 2 * (hillsOf g).length ≤ g.row.length
  | .no => Nat.le_refl _
  | .tree a b => by
    have := hills_len b
    show 2 * ((hillsOf b).length + 1) ≤ (true :: (a.row ++ false :: b.row)).length
    rw [List.length_cons, List.length_append, List.length_cons]
    omega
theorem hts_get : ∀ (l : List Bool) (h : Int) (i : Nat), i ≤ l.length → (hts h l)[i]? = some (h + hgt l i)
  | [], h, i, hi => by
    have : i = 0 := by
      have : i ≤ 0 := hi
      omega
    subst this
    show some h = some (h + 0)
    rw [Int.add_zero]
  | b :: l, h, 0, _ => by
    show some h = some (h + 0)
    rw [Int.add_zero]
  | b :: l, h, i + 1, hi => by
    rw [List.length_cons] at hi
    have := hts_get l (h + sg b) i (by omega)
    show (hts (h + sg b) l)[i]? = _
    rw [this]
    unfold hgt
    rw [List.take_succ_cons, List.map_cons, List.sum_cons, ← Int.add_assoc]
/-- the places of height 0 up to n -/
def zerosTo (l : List Bool) (n : Nat) : List Nat := (List.range (n + 1)).filter fun i => decide (hgt l i = 0)
def zeros (l : List Bool) : List Nat := zerosTo l l.length
theorem zerosTo_zero (l : List Bool) : zerosTo l 0 = [0] := by
  unfold zerosTo
  show [0].filter _ = _
  rw [List.filter_cons_of_pos (by simp [hgt])]
  rfl
theorem zerosTo_succ (l : List Bool) (n : Nat) : zerosTo l (n + 1) = zerosTo l n ++ (if hgt l (n + 1) = 0 then [n + 1] else []) := by
  unfold zerosTo
  rw [List.range_succ (n := n + 1), List.filter_append]
  congr 1
  by_cases h : hgt l (n + 1) = 0
  · rw [if_pos h, List.filter_cons_of_pos (by simpa using h)]
    rfl
  · rw [if_neg h, List.filter_cons_of_neg (by simpa using h)]
    rfl
theorem zerosTo_le {l : List Bool} {n i : Nat} (h : i ∈ zerosTo l n) : i ≤ n := by
  unfold zerosTo at h
  have := List.mem_range.mp (List.mem_filter.mp h).1
  omega
def segs (l : List Bool) : List Nat → List (List Bool)
  | a :: b :: r => (l.drop a).take (b - a) :: segs l (b :: r)
  | [_] => []
  | [] => []
theorem segs_snoc (l : List Bool) (b e : Nat) : ∀ pre : List Nat, segs l (pre ++ [b, e]) = segs l (pre ++ [b]) ++ [(l.drop b).take (e - b)]
  | [] => rfl
  | [x] => rfl
  | x :: y :: pre => by
    have ih := segs_snoc l b e (y :: pre)
    show (l.drop x).take (y - x) :: segs l ((y :: pre) ++ [b, e]) = (l.drop x).take (y - x) :: segs l ((y :: pre) ++ [b]) ++ _
    rw [ih]
    rfl
theorem segs_len (l : List Bool) : ∀ zs : List Nat, (segs l zs).length = zs.length - 1
  | [] => rfl
  | [_] => rfl
  | x :: y :: r => by
    have ih := segs_len l (y :: r)
    show (segs l (y :: r)).length + 1 = _
    rw [ih]
    rfl
theorem segs_get (l : List Bool) : ∀ (zs : List Nat) (i a b : Nat), zs[i]? = some a → zs[i + 1]? = some b → (segs l zs)[i]? = some ((l.drop a).take (b - a))
  | [], i, a, b, h, _ => by cases h
  | [_], i, a, b, _, h => by cases h
  | x :: y :: r, 0, a, b, h1, h2 => by
    cases h1
    cases h2
    rfl
  | x :: y :: r, i + 1, a, b, h1, h2 => segs_get l (y :: r) i a b h1 h2
theorem segs_shift (p l : List Bool) : ∀ zs : List Nat, segs (p ++ l) (zs.map (p.length + ·)) = segs l zs
  | [] => rfl
  | [_] => rfl
  | x :: y :: r => by
    have ih := segs_shift p l (y :: r)
    show ((p ++ l).drop (p.length + x)).take (p.length + y - (p.length + x)) :: segs (p ++ l) ((y :: r).map (p.length + ·)) = _
    rw [ih, List.drop_length_add_append, Nat.add_sub_add_left]
    rfl
theorem hgt_app (p l : List Bool) (j : Nat) : hgt (p ++ l) (p.length + j) = hgt p p.length + hgt l j := by
  unfold hgt
  rw [List.take_length_add_append, List.map_append, List.sum_append, List.take_length]
theorem hgt_nonneg {l : List Bool} (h : okb none 0 l = true) {i : Nat} : 0 ≤ hgt l i := by
  have key : ∀ (l : List Bool) (k : Nat) (i : Nat), okb none k l = true → 0 ≤ (k : Int) + ((l.take i).map sg).sum := by
    intro l
    induction l with
    | nil =>
      intro k i e
      rw [List.take_nil]
      show 0 ≤ (k : Int) + 0
      omega
    | cons b l ih =>
      intro k i e
      cases i with
      | zero =>
        show 0 ≤ (k : Int) + 0
        omega
      | succ i =>
        rw [List.take_succ_cons, List.map_cons, List.sum_cons]
        cases b with
        | true =>
          have := ih (k + 1) i (okb_up e).2
          have e1 : sg true = 1 := rfl
          omega
        | false =>
          obtain ⟨k0, e⟩ := okb_down e
          have := ih (k - 1) i e
          have e1 : sg false = -1 := rfl
          omega
  have := key l 0 i h
  unfold hgt
  omega
theorem okb_sum {l : List Bool} (h : okb none 0 l = true) : (l.map sg).sum = 0 := by
  have := ((okb_iff none l 0 (fun k z => by cases z)).mp h).1
  omega
theorem hgt_all {l : List Bool} (h : okb none 0 l = true) : hgt l l.length = 0 := (hgt_len l).trans (okb_sum h)
theorem zeros_tree (a b : Gv) : zeros (Gv.tree a b).row = 0 :: (zeros b.row).map ((true :: (a.row ++ [false])).length + ·) := by
  have e0 : (Gv.tree a b).row = (true :: (a.row ++ [false])) ++ b.row := by
    show true :: (a.row ++ false :: b.row) = _
    rw [List.cons_append, List.append_assoc]
    rfl
  have hm : hgt (true :: (a.row ++ [false])) (true :: (a.row ++ [false])).length = 0 := hgt_all (hill_put a.row_hill (b := []) rfl)
  unfold zeros zerosTo
  have el : (Gv.tree a b).row.length + 1 = (true :: (a.row ++ [false])).length + (b.row.length + 1) := by
    rw [e0, List.length_append]
    omega
  rw [el, List.range_add, List.filter_append, List.filter_map]
  have p1 : (List.range (true :: (a.row ++ [false])).length).filter (fun i => decide (hgt (Gv.tree a b).row i = 0)) = [0] := by
    have em : (true :: (a.row ++ [false])).length = (a.row.length + 1) + 1 := by simp
    rw [em, List.range_succ_eq_map, List.filter_cons_of_pos (by simp [hgt]), List.filter_map]
    have : (List.range (a.row.length + 1)).filter ((fun i => decide (hgt (Gv.tree a b).row i = 0)) ∘ Nat.succ) = [] := by
      rw [List.filter_eq_nil_iff]
      intro i hi
      have hi := List.mem_range.mp hi
      have e2 : hgt (Gv.tree a b).row (i + 1) = 1 + hgt a.row i := by
        show (((true :: (a.row ++ false :: b.row)).take (i + 1)).map sg).sum = _
        rw [List.take_succ_cons, List.map_cons, List.sum_cons, List.take_append_of_le_length (by omega)]
        rfl
      have := hgt_nonneg a.row_hill (i := i)
      show ¬ (decide (hgt (Gv.tree a b).row (i + 1) = 0)) = true
      rw [e2]
      simp
      omega
    rw [this]
    rfl
  have p2 : (List.range (b.row.length + 1)).filter ((fun i => decide (hgt (Gv.tree a b).row i = 0)) ∘ ((true :: (a.row ++ [false])).length + ·)) = (List.range (b.row.length + 1)).filter (fun i => decide (hgt b.row i = 0)) := by
    refine List.filter_congr fun i _ => ?_
    show decide (hgt (Gv.tree a b).row ((true :: (a.row ++ [false])).length + i) = 0) = _
    rw [e0, hgt_app, hm, Int.zero_add]
  rw [p1, p2]
  rfl
theorem zeros_head : ∀ g : Gv, ∃ r, zeros g.row = 0 :: r
  | .no => ⟨[], rfl⟩
  | .tree a b => ⟨_, zeros_tree a b⟩
theorem segs_zeros : ∀ g : Gv, segs g.row (zeros g.row) = hillsOf g
  | .no => rfl
  | .tree a b => by
    obtain ⟨r, hr⟩ := zeros_head b
    have e0 : (Gv.tree a b).row = (true :: (a.row ++ [false])) ++ b.row := by
      show true :: (a.row ++ false :: b.row) = _
      rw [List.cons_append, List.append_assoc]
      rfl
    have ih := segs_zeros b
    rw [zeros_tree, hr, List.map_cons]
    show (((Gv.tree a b).row.drop 0).take ((true :: (a.row ++ [false])).length + 0 - 0)) :: segs (Gv.tree a b).row ((0 :: r).map ((true :: (a.row ++ [false])).length + ·)) = _
    rw [← hr, e0, segs_shift, ih, List.drop_zero, Nat.sub_zero, Nat.add_zero, List.take_left']
    · rfl
    · rfl
end Hr
/-! ### rows read from their end -/
namespace Hr
def mir (l : List Bool) : List Bool := l.reverse.map (! ·)
theorem mir_app (a b : List Bool) : mir (a ++ b) = mir b ++ mir a := by
  unfold mir
  rw [List.reverse_append, List.map_append]
theorem mir_mir (l : List Bool) : mir (mir l) = l := by
  unfold mir
  rw [← List.map_reverse, List.reverse_reverse, List.map_map]
  refine (List.map_congr_left fun b _ => ?_).trans (List.map_id l)
  cases b <;> rfl
theorem mir_len (l : List Bool) : (mir l).length = l.length := by
  unfold mir
  rw [List.length_map, List.length_reverse]
theorem mir_sum : ∀ l : List Bool, ((mir l).map sg).sum = -((l.map sg).sum)
  | [] => rfl
  | b :: l => by
    have ih := mir_sum l
    have e : mir (b :: l) = mir l ++ [!b] := mir_app [b] l
    rw [e, List.map_append, List.sum_append, ih, List.map_cons, List.sum_cons]
    cases b
    · show -(l.map sg).sum + (1 + 0) = -(-1 + (l.map sg).sum)
      omega
    · show -(l.map sg).sum + (-1 + 0) = -(1 + (l.map sg).sum)
      omega
theorem mir_take (l : List Bool) (i : Nat) : (mir l).take i = mir (l.drop (l.length - i)) := by
  unfold mir
  rw [← List.map_take, List.take_reverse]
theorem hgt_mir {l : List Bool} (h : (l.map sg).sum = 0) {i : Nat} (hi : i ≤ l.length) : hgt (mir l) i = hgt l (l.length - i) := by
  show (((mir l).take i).map sg).sum = _
  rw [mir_take, mir_sum, hgt_drop_all l (by omega), hgt_len, h]
  omega
theorem hts_mem0 {l : List Bool} {x : Int} (h : x ∈ hts 0 l) : ∃ i, i ≤ l.length ∧ x = hgt l i := by
  obtain ⟨i, hi, e⟩ := List.getElem_of_mem h
  rw [hts_len] at hi
  refine ⟨i, by omega, ?_⟩
  have := hts_get l 0 i (by omega)
  rw [List.getElem?_eq_getElem (by rw [hts_len]; exact hi), e, Int.zero_add] at this
  exact Option.some.inj this
theorem okb_of {l : List Bool} (h0 : (l.map sg).sum = 0) (h1 : ∀ i, i ≤ l.length → 0 ≤ hgt l i) : okb none 0 l = true := by
  refine (okb_iff none l 0 (fun k z => by cases z)).mpr ⟨?_, fun x hx => ?_, fun k z => by cases z⟩
  · show ((0 : Nat) : Int) + _ = 0
    omega
  · obtain ⟨i, hi, rfl⟩ := hts_mem0 hx
    exact h1 i hi
theorem mir_hill {l : List Bool} (h : okb none 0 l = true) : okb none 0 (mir l) = true := by
  have h0 := okb_sum h
  refine okb_of (by rw [mir_sum, h0]; rfl) fun i hi => ?_
  rw [mir_len] at hi
  rw [hgt_mir h0 hi]
  exact hgt_nonneg h
theorem hts_mir {l : List Bool} (h : okb none 0 l = true) : hts 0 (mir l) = (hts 0 l).reverse := by
  have h0 := okb_sum h
  apply List.ext_getElem?
  intro i
  by_cases hi : i ≤ l.length
  · rw [hts_get (mir l) 0 i (by rw [mir_len]; exact hi), hgt_mir h0 hi, List.getElem?_reverse (by rw [hts_len]; omega), hts_len, show l.length + 1 - 1 - i = l.length - i by omega, hts_get l 0 _ (by omega)]
  · rw [List.getElem?_eq_none (by rw [hts_len, mir_len]; omega), List.getElem?_eq_none (by rw [List.length_reverse, hts_len]; omega)]
/-- k ups, the row, k downs -/
def lift (k : Nat) (l : List Bool) : List Bool := List.replicate k true ++ l ++ List.replicate k false
theorem rep_sum (b : Bool) : ∀ k : Nat, ((List.replicate k b).map sg).sum = (k : Int) * sg b
  | 0 => by simp
  | k + 1 => by
    have ih := rep_sum b k
    rw [List.replicate_succ, List.map_cons, List.sum_cons, ih]
    cases b
    · show -1 + (k : Int) * -1 = ((k + 1 : Nat) : Int) * -1
      omega
    · show 1 + (k : Int) * 1 = ((k + 1 : Nat) : Int) * 1
      omega
theorem hgt_lift (k : Nat) (l : List Bool) {i : Nat} (hi : i ≤ l.length) : hgt (lift k l) (k + i) = hgt l i + k := by
  unfold lift
  rw [List.append_assoc]
  have h := hgt_app (List.replicate k true) (l ++ List.replicate k false) i
  rw [List.length_replicate] at h
  have h2 : hgt (List.replicate k true) k = (k : Int) := by
    have := hgt_len (List.replicate k true)
    rw [List.length_replicate, rep_sum] at this
    rw [this]
    show (k : Int) * 1 = k
    omega
  have h3 : hgt (l ++ List.replicate k false) i = hgt l i := by
    unfold hgt
    rw [List.take_append_of_le_length hi]
  rw [h, h2, h3]
  omega
theorem lift_len (k : Nat) (l : List Bool) : (lift k l).length = 2 * k + l.length := by
  unfold lift
  rw [List.length_append, List.length_append, List.length_replicate, List.length_replicate]
  omega
theorem hts_lift (k : Nat) (l : List Bool) : ((hts 0 (lift k l)).drop k).take (l.length + 1) = (hts 0 l).map (· + (k : Int)) := by
  apply List.ext_getElem?
  intro i
  by_cases hi : i ≤ l.length
  · rw [List.getElem?_take_of_lt (by omega), List.getElem?_drop, hts_get _ 0 _ (by rw [lift_len]; omega), hgt_lift k l hi, List.getElem?_map, hts_get l 0 i hi]
    show some ((0 : Int) + (hgt l i + k)) = some (0 + hgt l i + k)
    rw [Int.add_assoc]
  · rw [List.getElem?_eq_none (by rw [List.length_take, List.length_drop, hts_len]; omega), List.getElem?_eq_none (by rw [List.length_map, hts_len]; omega)]
theorem flat_hill : ∀ ls : List (List Bool), (∀ l ∈ ls, okb none 0 l = true) → okb none 0 ls.flatten = true
  | [], _ => rfl
  | l :: ls, h => by
    rw [List.flatten_cons]
    exact hill_app (h l (List.mem_cons_self ..)) (flat_hill ls fun x hx => h x (List.mem_cons_of_mem _ hx))
theorem flat_len (m : Nat) : ∀ ls : List (List Bool), (∀ l ∈ ls, l.length ≤ m) → ls.flatten.length ≤ m * ls.length
  | [], _ => Nat.zero_le _
  | l :: ls, h => by
    have h1 := h l (List.mem_cons_self ..)
    have h2 := flat_len m ls fun x hx => h x (List.mem_cons_of_mem _ hx)
    rw [List.flatten_cons, List.length_append, List.length_cons, Nat.mul_add]
    omega
end Hr
/-! ### pairs of places -/
namespace Hr
theorem hgt_zero (l : List Bool) : hgt l 0 = 0 := rfl
theorem hgt_succ {l : List Bool} {i : Nat} {b : Bool} (h : l[i]? = some b) : hgt l (i + 1) = hgt l i + sg b := by
  unfold hgt
  rw [List.take_add_one, h, List.map_append, List.sum_append]
  show _ + (sg b + 0) = _
  omega
theorem hgt_step {l : List Bool} {i : Nat} (h : i < l.length) : hgt l (i + 1) = hgt l i + 1 ∧ l[i]? = some true ∨ hgt l (i + 1) = hgt l i - 1 ∧ l[i]? = some false := by
  have e : l[i]? = some l[i] := List.getElem?_eq_getElem h
  have e2 := hgt_succ e
  cases hb : l[i] with
  | true =>
    rw [hb] at e e2
    exact .inl ⟨e2, e⟩
  | false =>
    rw [hb] at e e2
    exact .inr ⟨e2, e⟩
/-- the up at j and the down at i that ends its tree -/
def Pair (l : List Bool) (j i : Nat) : Prop := j < i ∧ i < l.length ∧ hgt l j = hgt l (i + 1) ∧ ∀ m, j < m → m ≤ i → hgt l j < hgt l m
def Mate (l : List Bool) (x y : Nat) : Prop := Pair l x y ∨ Pair l y x
theorem Mate.symm {l : List Bool} {x y : Nat} (h : Mate l x y) : Mate l y x := h.elim .inr .inl
theorem Pair.up {l : List Bool} {j i : Nat} (h : Pair l j i) : l[j]? = some true := by
  obtain ⟨h1, h2, h3, h4⟩ := h
  rcases hgt_step (l := l) (i := j) (by omega) with ⟨_, e⟩ | ⟨e, _⟩
  · exact e
  · have := h4 (j + 1) (by omega) (by omega)
    omega
theorem Pair.down {l : List Bool} {j i : Nat} (h : Pair l j i) : l[i]? = some false := by
  obtain ⟨h1, h2, h3, h4⟩ := h
  rcases hgt_step (l := l) (i := i) h2 with ⟨e, _⟩ | ⟨_, e⟩
  · have := h4 i h1 (Nat.le_refl _)
    omega
  · exact e
theorem Mate.uniq {l : List Bool} {x y y' : Nat} (h : Mate l x y) (h' : Mate l x y') : y = y' := by
  rcases h with h | h <;> rcases h' with h' | h'
  · rcases Nat.lt_trichotomy y y' with z | z | z
    · have := h'.2.2.2 (y + 1) (by have := h.1; omega) (by omega)
      have := h.2.2.1
      omega
    · exact z
    · have := h.2.2.2 (y' + 1) (by have := h'.1; omega) (by omega)
      have := h'.2.2.1
      omega
  · have := h.up.symm.trans h'.down
    cases this
  · have := h.down.symm.trans h'.up
    cases this
  · have e1 := h.2.2.1
    have e2 := h'.2.2.1
    rcases Nat.lt_trichotomy y y' with z | z | z
    · have := h.2.2.2 y' z (by have := h'.1; omega)
      omega
    · exact z
    · have := h'.2.2.2 y z (by have := h.1; omega)
      omega
theorem Mate.lt {l : List Bool} {x y : Nat} (h : Mate l x y) : x < l.length ∧ y < l.length ∧ y ≠ x := by
  rcases h with ⟨a, b, _⟩ | ⟨a, b, _⟩
  · exact ⟨by omega, b, by omega⟩
  · exact ⟨b, by omega, by omega⟩
theorem Mate.sign {l : List Bool} {x y : Nat} (h : Mate l x y) : l[x]? = some (decide (x < y)) := by
  rcases h with h | h
  · rw [h.up, decide_eq_true h.1]
  · rw [h.down, decide_eq_false (by have := h.1; omega)]
/-- the first place from a on that has a property -/
theorem first_from {p : Nat → Prop} : ∀ (n a : Nat), p (a + n) → ∃ m, a ≤ m ∧ m ≤ a + n ∧ p m ∧ ∀ k, a ≤ k → k < m → ¬ p k
  | 0, a, h => ⟨a, Nat.le_refl _, Nat.le_refl _, h, fun k h1 h2 => by omega⟩
  | n + 1, a, h => by
    rcases Classical.em (p a) with z | z
    · exact ⟨a, Nat.le_refl _, by omega, z, fun k h1 h2 => by omega⟩
    · obtain ⟨m, h1, h2, h3, h4⟩ := first_from (p := p) n (a + 1) (by rw [show a + 1 + n = a + (n + 1) by omega]; exact h)
      refine ⟨m, by omega, by omega, h3, fun k k1 k2 => ?_⟩
      by_cases e : k = a
      · rw [e]
        exact z
      · exact h4 k (by omega) k2
/-- the last one up to a -/
theorem last_to {p : Nat → Prop} : ∀ (a : Nat), p 0 → ∃ m, m ≤ a ∧ p m ∧ ∀ k, m < k → k ≤ a → ¬ p k
  | 0, h => ⟨0, Nat.le_refl _, h, fun k h1 h2 => by omega⟩
  | a + 1, h => by
    rcases Classical.em (p (a + 1)) with z | z
    · exact ⟨a + 1, Nat.le_refl _, z, fun k h1 h2 => by omega⟩
    · obtain ⟨m, h1, h2, h3⟩ := last_to (p := p) a h
      refine ⟨m, by omega, h2, fun k k1 k2 => ?_⟩
      by_cases e : k = a + 1
      · rw [e]
        exact z
      · exact h3 k k1 (by omega)
theorem mate_ex {l : List Bool} (ok : okb none 0 l = true) {x : Nat} (hx : x < l.length) : ∃ y, Mate l x y := by
  rcases hgt_step hx with ⟨e, _⟩ | ⟨e, _⟩
  · obtain ⟨m, h1, h2, h3, h4⟩ := first_from (p := fun m => hgt l m ≤ hgt l x) (l.length - (x + 1)) (x + 1) (by
      rw [show x + 1 + (l.length - (x + 1)) = l.length by omega, hgt_all ok]
      exact hgt_nonneg ok)
    have hm : x + 1 < m := by
      rcases Nat.lt_or_eq_of_le h1 with z | z
      · exact z
      · rw [← z, e] at h3
        omega
    refine ⟨m - 1, .inl ⟨by omega, by omega, ?_, fun k k1 k2 => ?_⟩⟩
    · rw [show m - 1 + 1 = m by omega]
      have hp := h4 (m - 1) (by omega) (by omega)
      rcases hgt_step (l := l) (i := m - 1) (by omega) with ⟨e2, _⟩ | ⟨e2, _⟩ <;> rw [show m - 1 + 1 = m by omega] at e2 <;> omega
    · have := h4 k (by omega) (by omega)
      omega
  · obtain ⟨m, h1, h2, h3⟩ := last_to (p := fun m => hgt l m ≤ hgt l (x + 1)) x (by
      rw [hgt_zero]
      exact hgt_nonneg ok)
    have hm : m < x := by
      rcases Nat.lt_or_eq_of_le h1 with z | z
      · exact z
      · rw [z] at h2
        omega
    refine ⟨m, .inr ⟨hm, hx, ?_, fun k k1 k2 => ?_⟩⟩
    · have hp := h3 (m + 1) (by omega) (by omega)
      rcases hgt_step (l := l) (i := m) (by omega) with ⟨e2, _⟩ | ⟨e2, _⟩ <;> omega
    · have := h3 k k1 k2
      have hp := h3 (m + 1) (by omega) (by omega)
      rcases hgt_step (l := l) (i := m) (by omega) with ⟨e2, _⟩ | ⟨e2, _⟩ <;> omega
/-- the list of the pairs of a hill row -/
def PairsOf (l : List Bool) (ps : List Int) : Prop := okb none 0 l = true ∧ ps.length = l.length ∧ ∀ x, x < l.length → ∃ y, ps[x]? = some ((y : Nat) : Int) ∧ Mate l x y
theorem PairsOf.same {l : List Bool} {ps qs : List Int} (h : PairsOf l ps) (h' : PairsOf l qs) : ps = qs := by
  apply List.ext_getElem?
  intro i
  by_cases hi : i < l.length
  · obtain ⟨y, e1, m1⟩ := h.2.2 i hi
    obtain ⟨y', e2, m2⟩ := h'.2.2 i hi
    rw [e1, e2, m1.uniq m2]
  · rw [List.getElem?_eq_none (by rw [h.2.1]; omega), List.getElem?_eq_none (by rw [h'.2.1]; omega)]
/-- the signs that such a list tells -/
def signsAt : Nat → List Int → List Bool
  | _, [] => []
  | i, p :: ps => decide ((i : Int) < p) :: signsAt (i + 1) ps
theorem signsAt_len : ∀ (ps : List Int) (i : Nat), (signsAt i ps).length = ps.length
  | [], _ => rfl
  | p :: ps, i => by
    show (signsAt (i + 1) ps).length + 1 = _
    rw [signsAt_len ps]
    rfl
theorem signsAt_get : ∀ (ps : List Int) (i j : Nat) (p : Int), ps[j]? = some p → (signsAt i ps)[j]? = some (decide (((i + j : Nat) : Int) < p))
  | [], i, j, p, h => by cases h
  | q :: ps, i, 0, p, h => by
    cases h
    rfl
  | q :: ps, i, j + 1, p, h => by
    have := signsAt_get ps (i + 1) j p h
    show (signsAt (i + 1) ps)[j]? = _
    rw [this, show i + 1 + j = i + (j + 1) by omega]
theorem PairsOf.signs {l : List Bool} {ps : List Int} (h : PairsOf l ps) : signsAt 0 ps = l := by
  apply List.ext_getElem?
  intro i
  by_cases hi : i < l.length
  · obtain ⟨y, e1, m1⟩ := h.2.2 i hi
    rw [signsAt_get ps 0 i _ e1, m1.sign]
    congr 1
    refine decide_eq_decide.mpr ?_
    omega
  · rw [List.getElem?_eq_none (by rw [signsAt_len, h.2.1]; omega), List.getElem?_eq_none (by omega)]
/-- the k-th place that is open after i signs -/
def Open (l : List Bool) (i k j : Nat) : Prop := j < i ∧ hgt l j = (k : Int) ∧ ∀ m, j < m → m ≤ i → (k : Int) < hgt l m
end Hr
namespace Hr
/-- a hill row of n ups under the ceiling c -/
def Hill (c : Option Nat) (n : Nat) (l : List Bool) : Prop := okb c 0 l = true ∧ l.length = 2 * n
end Hr
/-! ### defs of the text, by what they promise -/
namespace Hr
open PySem PySem.Spec PyProof.Rows L2
theorem same_upd {H : Hp} {p : Addr} {o : HO} (h : H p = none) : Same H (upd H p o) := fun b x e => by
  rw [upd_ne (ne_of_none e h)]
  exact e
/-- what was new may change -/
theorem same_updN {H0 H : Hp} {p : Addr} {o : HO} (s : Same H0 H) (n : H0 p = none) : Same H0 (upd H p o) := fun b x e => by
  rw [upd_ne (ne_of_none e n)]
  exact s b x e
theorem sz {n : Nat} (h : n ≤ 1000000) : n ≤ sizeLine := Nat.le_trans h (by decide)
theorem szl {n : Nat} (h : n < 1000000) : n < sizeLine := Nat.lt_of_lt_of_le h (by decide)
section
variable (K : PySem.W.Frag) (mg : Str → Option Value)
structure Def (x : Str) (st : Stmt) (ps : List Str) : Prop where
  ex : ∃ (f : Addr) (fd : FuncData), Fun K x x st f fd ∧ mg x = some (.ref f) ∧ Binds K fd ps []
/-- a def whose last parameter is None where it is left out -/
structure DefD (x : Str) (st : Stmt) (ps : List Str) : Prop where
  ex : ∃ (f : Addr) (fd : FuncData), FunD K x x (defArgs st) (defBody st) (defScope st) [V.non] [] f fd ∧ mg x = some (.ref f) ∧ Binds K fd ps [] ∧ ∃ ds, Vals [V.non] ds ∧ Binds K fd ps ds
/-- a def whose last parameter is dv where it is left out -/
structure DefV (x : Str) (st : Stmt) (ps : List Str) (dv : V) : Prop where
  ex : ∃ (f : Addr) (fd : FuncData), FunD K x x (defArgs st) (defBody st) (defScope st) [dv] [] f fd ∧ mg x = some (.ref f) ∧ Binds K fd ps [] ∧ ∃ ds, Vals [dv] ds ∧ Binds K fd ps ds
structure Cal (CX : CXT) (P : Program) (w : World) (base : Heap) (k : Nat) (x : Str) (dvs : List V) (sp : Sp) : Prop where
  ex : ∃ (f : Addr) (fd : FuncData) (ps : List Str) (ds : List Value), FnOk P w K mg base CX k f fd ps sp ∧ mg x = some (.ref f) ∧ PySem.W.keepIn K (.ref f) = true ∧ Binds K fd ps ds ∧ Vals dvs ds
end
section
variable {P : Program} {w : World} {K : PySem.W.Frag} {mg : Str → Option Value} {base : Heap}
theorem Def.cal {x : Str} {st : Stmt} {N ps : List Str} {k : Nat} {sp : Sp} (D : Def K mg x st ps) (S : FnScope N ps (defScope st)) (len : ∀ vs H Q E, sp vs H Q E → vs.length = ps.length)
    (hbody : ∀ (f : Addr) (cdv : Value) (A : Around) (outer : List Env) (s : Shared) (H : Hp) (vs : List V) (Q : VK) (E : XK), Room k (A.deeper (envOfC x (defScope st) s.heap.objs.size f cdv)) → sp vs H Q E →
      ∃ t, PSs (cxOf CX0 P w K mg base N x (defScope st) f cdv A outer s H E).nox (defBody st) t ∧ t { nx := fun _ H' => Q .non H', rt := Q } (start N vs) H) : Cal K mg CX0 P w base (k + 1) x [] sp := by
  obtain ⟨f, fd, F, hm, b⟩ := D.ex
  exact ⟨f, fd, ps, [], F.ok S len (hbody f), hm, F.kp, b, .nil⟩
theorem DefD.ok {x : Str} {st : Stmt} {N ps : List Str} {k : Nat} {sp : Sp} (D : DefD K mg x st ps) (S : FnScope N ps (defScope st)) (len : ∀ vs H Q E, sp vs H Q E → vs.length = ps.length)
    (hbody : ∀ (f : Addr) (cdv : Value) (A : Around) (outer : List Env) (s : Shared) (H : Hp) (vs : List V) (Q : VK) (E : XK), Room k (A.deeper (envOfC x (defScope st) s.heap.objs.size f cdv)) → sp vs H Q E →
      ∃ t, PSs (cxOf CX0 P w K mg base N x (defScope st) f cdv A outer s H E).nox (defBody st) t ∧ t { nx := fun _ H' => Q .non H', rt := Q } (start N vs) H) :
    Cal K mg CX0 P w base (k + 1) x [] sp ∧ Cal K mg CX0 P w base (k + 1) x [.non] sp := by
  obtain ⟨f, fd, F, hm, b, ds, vd, b2⟩ := D.ex
  have G : FnOk P w K mg base CX0 (k + 1) f fd ps sp := F.ok S len fun cdv A outer s H vs Q E hr hsp => by
    obtain ⟨t, h, q⟩ := hbody f cdv A outer s H vs Q E hr hsp
    exact ⟨t, h.nox, q⟩
  exact ⟨⟨f, fd, ps, [], G, hm, F.kp, b, .nil⟩, ⟨f, fd, ps, ds, G, hm, F.kp, b2, vd⟩⟩
theorem DefV.ok {x : Str} {st : Stmt} {N ps : List Str} {dv : V} {k : Nat} {sp : Sp} (D : DefV K mg x st ps dv) (S : FnScope N ps (defScope st)) (len : ∀ vs H Q E, sp vs H Q E → vs.length = ps.length)
    (hbody : ∀ (f : Addr) (cdv : Value) (A : Around) (outer : List Env) (s : Shared) (H : Hp) (vs : List V) (Q : VK) (E : XK), Room k (A.deeper (envOfC x (defScope st) s.heap.objs.size f cdv)) → sp vs H Q E →
      ∃ t, PSs (cxOf CX0 P w K mg base N x (defScope st) f cdv A outer s H E).nox (defBody st) t ∧ t { nx := fun _ H' => Q .non H', rt := Q } (start N vs) H) :
    Cal K mg CX0 P w base (k + 1) x [] sp ∧ Cal K mg CX0 P w base (k + 1) x [dv] sp := by
  obtain ⟨f, fd, F, hm, b, ds, vd, b2⟩ := D.ex
  have G : FnOk P w K mg base CX0 (k + 1) f fd ps sp := F.ok S len fun cdv A outer s H vs Q E hr hsp => by
    obtain ⟨t, h, q⟩ := hbody f cdv A outer s H vs Q E hr hsp
    exact ⟨t, h.nox, q⟩
  exact ⟨⟨f, fd, ps, [], G, hm, F.kp, b, .nil⟩, ⟨f, fd, ps, ds, G, hm, F.kp, b2, vd⟩⟩
/-- a weaker promise -/
theorem Cal.imp {CX : CXT} {x : Str} {dvs : List V} {k : Nat} {sp sp' : Sp} (C : Cal K mg CX P w base k x dvs sp) (h : ∀ vs H Q E, sp' vs H Q E → sp vs H Q E) : Cal K mg CX P w base k x dvs sp' := by
  obtain ⟨f, fd, ps, ds, G, hm, kp, b, d⟩ := C.ex
  exact ⟨f, fd, ps, ds, G.imp h, hm, kp, b, d⟩
end
section
variable {X : Cx}
theorem pe_c {k j : Nat} {x : Str} {dvs : List V} {sp : Sp} {e : Expr} {es : List Expr} {t : TA} {p pos : Pos} (c : Cal X.K X.mg CX0 X.prog X.w X.base k x dvs sp) (hr : Room j X.A) (ha : PA X (e :: es) t) (hk : k ≤ j := by decide) (hg : Gl X x := by rfl)
    (hdb : (x == ("__debug__" : Str)) = false := by decide) (he : starEach (e :: es) X.env = (false, eval e X.env) :: starEach es X.env := by rfl) (hpl : (backTo pos (starEach es X.env)).any (·.1) = false := by rfl) :
    PE X (.Call (.Name x p) (e :: es) [] pos) (tCall sp dvs E0 t) := by
  obtain ⟨f, fd, ps, ds, F, hm, kp, b, d⟩ := c.ex
  exact pe_call F (hr.mono hk) hg hm kp b d pass0 ha hdb he hpl
end
/-- from what the top has left -/
theorem def_mk {K : PySem.W.Frag} {mg : Str → Option Value} {h : Heap} {x : Str} {st : Stmt} {ps : List Str} {f : Addr} {oc : Value} {od an : Option Addr} {osl : Array (Option Value)} {kV doc pm cdv ct : Value} (X : K.In h) (G : h.Ns mainGlobals mg)
    (hb : ∀ (kV doc pm : Value) (an : Option Addr) (cdv ct : Value) (us : List Value), us.length = ps.length → bindArgs (PySem.W.fnOf x x (defArgs st) (defBody st) (defScope st) .none kV doc pm an cdv ct) ⟨us, []⟩ = pure (ps.zip us))
    (a : PySem.W.nsIn K mainGlobals x = some (some (.ref f))) (l : K.lookup f = some ⟨oc, od, .func (PySem.W.fnOf x x (defArgs st) (defBody st) (defScope st) .none kV doc pm an cdv ct), osl⟩)
    (c : PySem.W.codeIn K cdv x = true) (k : PySem.W.keepIn K (.ref f) = true) : Def K mg x st ps :=
  have F := fun_mk (st := st) l c k
  ⟨f, _, F, PySem.W.mg_of X G a, F.binds hb⟩
theorem defD_mk {K : PySem.W.Frag} {mg : Str → Option Value} {h : Heap} {x : Str} {st : Stmt} {ps : List Str} {f T : Addr} {oc tc : Value} {od an td : Option Addr} {osl tsl : Array (Option Value)} {kV doc pm cdv ct : Value} {n m : Nat} (X : K.In h) (G : h.Ns mainGlobals mg)
    (hn : ps.length = m + 1)
    (hb2 : ∀ (T : Addr) (kV doc pm : Value) (an : Option Addr) (cdv ct : Value) (us its : List Value), us.length = m + 1 → its.length = 1 →
      ∃ k, bindArgs (PySem.W.fnOf x x (defArgs st) (defBody st) (defScope st) (.ref T) kV doc pm an cdv ct) ⟨us, []⟩ = seqItems? (.ref T) >>= k ∧ k (some its.toArray) = pure (ps.zip (us ++ its.drop 1)))
    (hb1 : ∀ (T : Addr) (kV doc pm : Value) (an : Option Addr) (cdv ct : Value) (us its : List Value), us.length = m → its.length = 1 →
      ∃ k, bindArgs (PySem.W.fnOf x x (defArgs st) (defBody st) (defScope st) (.ref T) kV doc pm an cdv ct) ⟨us, []⟩ = seqItems? (.ref T) >>= k ∧ k (some its.toArray) = pure (ps.zip (us ++ its.drop 0)))
    (a : PySem.W.nsIn K mainGlobals x = some (some (.ref f))) (l : K.lookup f = some ⟨oc, od, .func (PySem.W.fnOf x x (defArgs st) (defBody st) (defScope st) (.ref T) kV doc pm an cdv ct), osl⟩)
    (c : PySem.W.codeIn K cdv x = true) (k : PySem.W.keepIn K (.ref f) = true) (lT : K.lookup T = some ⟨tc, td, .seq #[.none] n, tsl⟩) : DefD K mg x st ps := by
  have F : FunD K x x (defArgs st) (defBody st) (defScope st) [V.non] [] f (PySem.W.fnOf x x (defArgs st) (defBody st) (defScope st) (.ref T) kV doc pm an cdv ct) :=
    ⟨⟨oc, od, .ref T, kV, doc, pm, an, cdv, ct, osl, rfl, l, c, .inr ⟨List.cons_ne_nil _ _, T, _, [.none], n, rfl, lT, rfl, .cons rfl .nil⟩, .inl rfl⟩, k⟩
  obtain ⟨d2, v2, b2⟩ := F.binds1 (m + 1) 1 (List.cons_ne_nil _ _) (by rw [hn]; rfl) (fun T kV doc pm an cdv ct us its h1 h2 => hb2 T kV doc pm an cdv ct us its h1 h2)
  obtain ⟨d1, v1, b1⟩ := F.binds1 m 0 (List.cons_ne_nil _ _) (by rw [hn]; rfl) (fun T kV doc pm an cdv ct us its h1 h2 => hb1 T kV doc pm an cdv ct us its h1 h2)
  have e2 : d2 = [] := by
    cases v2
    rfl
  subst e2
  exact ⟨f, _, F, PySem.W.mg_of X G a, b2, d1, v1, b1⟩
theorem defV_mk {K : PySem.W.Frag} {mg : Str → Option Value} {h : Heap} {x : Str} {st : Stmt} {ps : List Str} {dv : V} {u : Value} {f T : Addr} {oc tc : Value} {od an td : Option Addr} {osl tsl : Array (Option Value)} {kV doc pm cdv ct : Value} {n m : Nat} (X : K.In h) (G : h.Ns mainGlobals mg)
    (hn : ps.length = m + 1)
    (hb2 : ∀ (T : Addr) (kV doc pm : Value) (an : Option Addr) (cdv ct : Value) (us its : List Value), us.length = m + 1 → its.length = 1 →
      ∃ k, bindArgs (PySem.W.fnOf x x (defArgs st) (defBody st) (defScope st) (.ref T) kV doc pm an cdv ct) ⟨us, []⟩ = seqItems? (.ref T) >>= k ∧ k (some its.toArray) = pure (ps.zip (us ++ its.drop 1)))
    (hb1 : ∀ (T : Addr) (kV doc pm : Value) (an : Option Addr) (cdv ct : Value) (us its : List Value), us.length = m → its.length = 1 →
      ∃ k, bindArgs (PySem.W.fnOf x x (defArgs st) (defBody st) (defScope st) (.ref T) kV doc pm an cdv ct) ⟨us, []⟩ = seqItems? (.ref T) >>= k ∧ k (some its.toArray) = pure (ps.zip (us ++ its.drop 0)))
    (a : PySem.W.nsIn K mainGlobals x = some (some (.ref f))) (l : K.lookup f = some ⟨oc, od, .func (PySem.W.fnOf x x (defArgs st) (defBody st) (defScope st) (.ref T) kV doc pm an cdv ct), osl⟩)
    (c : PySem.W.codeIn K cdv x = true) (k : PySem.W.keepIn K (.ref f) = true) (hu : RelV dv u) (lT : K.lookup T = some ⟨tc, td, .seq #[u] n, tsl⟩) : DefV K mg x st ps dv := by
  have F : FunD K x x (defArgs st) (defBody st) (defScope st) [dv] [] f (PySem.W.fnOf x x (defArgs st) (defBody st) (defScope st) (.ref T) kV doc pm an cdv ct) :=
    ⟨⟨oc, od, .ref T, kV, doc, pm, an, cdv, ct, osl, rfl, l, c, .inr ⟨List.cons_ne_nil _ _, T, _, [u], n, rfl, lT, rfl, .cons hu .nil⟩, .inl rfl⟩, k⟩
  obtain ⟨d2, v2, b2⟩ := F.binds1 (m + 1) 1 (List.cons_ne_nil _ _) (by rw [hn]; rfl) (fun T kV doc pm an cdv ct us its h1 h2 => hb2 T kV doc pm an cdv ct us its h1 h2)
  obtain ⟨d1, v1, b1⟩ := F.binds1 m 0 (List.cons_ne_nil _ _) (by rw [hn]; rfl) (fun T kV doc pm an cdv ct us its h1 h2 => hb1 T kV doc pm an cdv ct us its h1 h2)
  have e2 : d2 = [] := by
    cases v2
    rfl
  subst e2
  exact ⟨f, _, F, PySem.W.mg_of X G a, b2, d1, v1, b1⟩
end Hr
/-! ### the text of this law -/
namespace Hr
open PySem PySem.Spec PyProof.Rows L2
def topS (i : Nat) : Stmt := PySem.Challenge.pw_hillrows_k08_pairs.main.body.getD i (.Pass ⟨0, 0, 0, 0⟩)
abbrev sIsNum : Stmt := topS 11
abbrev sHeights : Stmt := topS 15
abbrev sIsHill : Stmt := topS 16
abbrev sIsRow : Stmt := topS 17
abbrev sChHill : Stmt := topS 18
abbrev s_pairs : Stmt := topS 20
abbrev s_row_of_pairs : Stmt := topS 21
abbrev s_is_list_of_places : Stmt := topS 22
abbrev sMixed : Stmt := topS 24
abbrev sNumber : Stmt := topS 25
abbrev sLRow : Stmt := topS 26
abbrev sWord : Stmt := topS 27
abbrev sPartner : Stmt := topS 28
abbrev sTold : Stmt := topS 29
abbrev sRight : Stmt := topS 30
abbrev sLaw : Stmt := topS 31
end Hr
/-! ### a text walked with its places -/
namespace Hr
open PySem PySem.Spec PyProof.Rows L2
/-- the signs of a text, each in a new pair behind its place -/
def ItEs (x : Str) : It :=
  { go := fun i _ => i < x.cps.size
    yld := fun i H v H' => ∃ T c, v = .ref T ∧ H T = none ∧ H' = upd H T (.tup [.int (i : Nat), .str ⟨#[c]⟩]) ∧ x.cps[i]? = some c
    stop := fun i _ => i = x.cps.size }
theorem two_mem {b e it : Addr} (h : b ∈ [e, it]) : b = e ∨ b = it := by simpa using h
theorem turn_es {P : Program} {w : World} {K : PySem.W.Frag} {elts : List Expr} {kk : Nat} {tpos : Pos} (x : Str) (t : Tok) (e it : Addr) :
    Turn P w K (.Tuple elts kk tpos) (ItEs x) [e, it] e (fun i h => (∃ old, IsEnum h e it ((i : Nat) : Int) old) ∧ h.IsStrIter it (strIterType x) x t i ∧ e ≠ it) := by
  refine { mem := List.mem_cons_self .., obj := ?_, keep := ?_, item := ?_, done := ?_, self := ?_ }
  · rintro i h ⟨⟨old, he⟩, ⟨o, ho, _, hd⟩, _⟩ b hb
    rcases two_mem hb with rfl | rfl
    · exact ⟨_, he, fun v q => (nomatch q)⟩
    · exact ⟨o, ho, fun v q => by rw [hd] at q; exact (nomatch q)⟩
  · rintro i h h' ⟨⟨old, he⟩, ⟨o, ho, r⟩, hne⟩ k
    exact ⟨⟨old, k e (by simp) _ he⟩, ⟨o, k it (by simp) o ho, r⟩, hne⟩
  · rintro X rfl rfl rfl hc i pins s σ H E I hf ⟨⟨old, he⟩, hit, hne⟩ hg
    have le : e < s.heap.objs.size := Heap.lt_size he
    have li : it < s.heap.objs.size := hit.elim fun _ q => Heap.lt_size q.1
    have D : Draws X.prog X.w X.A.in1 it [it] x.cps.size (fun i v => ∃ c u, x.cps[i]? = some c ∧ v = .str ⟨#[c]⟩ u) (fun i h => h.IsStrIter it (strIterType x) x t i) := Draws.text (A := X.A.in1) (show X.A.in1.handled = none from I.ok.hd hc) it x t
    refine wpAny_pyNext_enum_itemD D he hit hg hne (by simpa using hne) fun y h1 tk hy he1 hit1 hT hsz hk => ?_
    obtain ⟨c, u, hcx, rfl⟩ := hy
    refine ⟨_, rfl, wpAny_letOwnedTupleGo_enum (s := { s with heap := h1, toks := tk + 1 }) he1 fun h2 he2 sb => ?_⟩
    have hT2 := (sb.2 _ (Nat.ne_of_gt le)).trans hT
    have ok : ObjOk X.prog X.w (upd H s.heap.objs.size (.tup [.int (i : Nat), .str ⟨#[c]⟩])) h2 s.heap.objs.size (.tup [.int (i : Nat), .str ⟨#[c]⟩]) :=
      ⟨sz (show 2 ≤ 1000000 by decide), [.int i tk, .str ⟨#[c]⟩ u], .cons ⟨_, rfl⟩ (.cons ⟨_, rfl⟩ .nil), ⟨_, hT2, rfl, _, rfl⟩⟩
    have I2 := I.turnedNew (t' := tk + 1) (ch := [e, it]) (fun b ob hb q => (sb.2 b (fun z => hb (by simp [z]))).trans (hk b ob (fun z => hb (by simp [z])) (fun z => hb (by simp [z])) q)) hf (Nat.le_refl _) ok
    refine ⟨.ref s.heap.objs.size, _, I2, rfl, ⟨_, c, rfl, I.hok.fresh (Nat.le_refl _), rfl, hcx⟩, ⟨⟨.str ⟨#[c]⟩ u, ?_⟩, ?_, hne⟩, fun b hb => ?_⟩
    · rw [Int.natCast_add]
      exact he2
    · obtain ⟨o, ho, r⟩ := hit1
      exact ⟨o, (sb.2 it (Ne.symm hne)).trans ho, r⟩
    · have lb : b < s.heap.objs.size := by
        rcases two_mem hb with z | z
        · exact z ▸ le
        · exact z ▸ li
      rw [upd_ne (Nat.ne_of_lt lb)]
      exact (hf b hb).1
  · rintro X rfl rfl rfl hc i pins s σ H E I hf ⟨⟨old, he⟩, hit, hne⟩ hg
    have D : Draws X.prog X.w X.A.in1 it [it] x.cps.size (fun i v => ∃ c u, x.cps[i]? = some c ∧ v = .str ⟨#[c]⟩ u) (fun i h => h.IsStrIter it (strIterType x) x t i) := Draws.text (A := X.A.in1) (show X.A.in1.handled = none from I.ok.hd hc) it x t
    obtain ⟨f0, f1, f2, f3, f4, f5⟩ := hf it (by simp)
    have hit : s.heap.IsStrIter it (strIterType x) x t x.cps.size := (show i = x.cps.size from hg) ▸ hit
    exact wpAny_pyNext_enum_endD D he hit fun h1 eb => ⟨rfl, I.turned (t' := s.toks) (fun b o hb q => eb b o hb q) f0 f1 f3 f4 f5⟩
  · rintro A i s Q E ⟨⟨old, he⟩, _⟩ h
    exact wpAny_pyIter_enum he h
def iEs (ta : TA) : TI := fun σ H R => ta σ H fun vs H1 => ∃ x, vs = [.str x] ∧ R (ItEs x) H1
theorem pi_es {X : Cx} {e : Expr} {ta : TA} {p pos tpos : Pos} {elts : List Expr} {kk : Nat} (hg : Gl X "enumerate") (hm : X.mg "enumerate" = none) (ha : PA X [e] ta) (hs : starEach [e] X.env = [(false, eval e X.env)] := by rfl) :
    PI X (.Tuple elts kk tpos) (.Call (.Name "enumerate" p) [e] [] pos) (iEs ta) := by
  refine ⟨fun pins s σ H R I h => Call_ (ld_blt I hg hm boot_enumerate (PyProof.Rows.callWith_type1 (thn (ha.run pos pins s σ H _ I h) fun us s1 ⟨vs, H1, I1, r1, x, ex, q⟩ => ?_) hs rfl))⟩
  subst ex
  obtain ⟨u, rest, rfl⟩ : ∃ u rest, us = u :: rest := by
    cases r1
    exact ⟨_, _, rfl⟩
  cases r1 with
  | cons r rr =>
    cases rr
    obtain ⟨t, rfl⟩ := r
    refine call_enumerate_str fun h' he hit hsz hk => wpAny_pyIter_enum he ?_
    refine ⟨s1.heap.objs.size + 1, [s1.heap.objs.size + 1, s1.heap.objs.size], _, _, H1, rfl, I1.kept (t' := s1.toks) hk, turn_es x t (s1.heap.objs.size + 1) s1.heap.objs.size, ⟨⟨.none, he⟩, hit, Nat.succ_ne_self _⟩, fun b hb => ?_, q⟩
    have lb : s1.heap.objs.size ≤ b := by
      rcases two_mem hb with z | z
      · rw [z]
        exact Nat.le_succ _
      · rw [z]
        exact Nat.le_refl _
    exact I1.fpOk lb (I1.hok.fresh lb)
theorem walk_es {x : Str} : Walk (ItEs x) x.cps.size (fun _ => True) (YPair (fun i => some (.int (i : Nat))) (fun i => (x.cps[i]?).map fun c => V.str ⟨#[c]⟩)) := by
  refine ⟨fun _ _ hi _ => hi, fun _ _ => rfl, fun i H v H' _ _ y => ?_⟩
  obtain ⟨T, c, h1, h2, h3, h4⟩ := y
  exact ⟨T, .int (i : Nat), .str ⟨#[c]⟩, h1, h2, h3, rfl, by show (x.cps[i]?).map _ = _; rw [h4]; rfl⟩
end Hr
/-! ### errors that are caught and kept -/
namespace Hr
open PySem PySem.Spec PyProof.Rows L2
/-- an exception's object at a: its class, its own dict -/
def ExT (cls : Value) (d : Option Addr) (a : Addr) : HO := .ext fun h => ∃ (oe : Obj) (vs : Array Value), h.get? a = some oe ∧ Zc cls d oe ∧ oe.data = .fields vs
theorem exT_ok {P : Program} {w : World} {H : Hp} {h : Heap} {a : Addr} {cls : Value} {d : Option Addr} {oe : Obj} {vs : Array Value} (e : h.get? a = some oe) (z : Zc cls d oe) (dd : oe.data = .fields vs) : ObjOk P w H h a (ExT cls d a) :=
  ⟨⟨oe, vs, e, z, dd⟩, ⟨oe, e⟩, fun _ _ ⟨o, v, q, r⟩ k => ⟨o, v, k o q, r⟩⟩
/-- the wish of a try whose clause takes every error of its body and keeps it -/
def wKept (K : PySem.W.Frag) (c : Value) (i : Nat) (ts : Addr → TS) (D : Ends) : WX := fun cls d σ H =>
  PySem.W.exmOne K cls c = some true ∧ ∀ a, H a = none →
    ts a ⟨fun σ1 H1 => D.nx (σ1.set i none) (upd H1 a (ExT cls d a)), fun _ _ => False, fun _ _ => False, fun _ _ => False⟩ (σ.set i (some (.ref a))) H
section
variable {X : Cx} {x n : Str} {c : Value} {i : Nat} {body suite : List Stmt} {b₀ : Stmt} {np pos pos' : Pos} {tb : WX → TS} {ts : Addr → TS}
theorem unsuite2 {pins : List (Addr × Obj)} {σ : L2.St} {H : Hp} {s : Shared} {a : Addr} {oe : Obj} (I : Inv (X.suite a ((a, oe) :: (X.pn ++ pins))) [] σ H s) (ok : X.Ok) : Inv X ((a, oe) :: pins) σ H s :=
  ⟨ok, I.os, I.bare, I.base, I.loc, I.cell, I.free, I.freeC, fun p hp => I.pin p (List.mem_append_left _ (by
    rcases List.mem_append.mp hp with z | z
    · exact List.mem_cons_of_mem _ (List.mem_append_left _ z)
    · rcases List.mem_cons.mp z with z | z
      · rw [z]
        exact List.mem_cons_self
      · exact List.mem_cons_of_mem _ (List.mem_append_right _ z))), I.hok, I.len⟩
theorem track {pins : List (Addr × Obj)} {σ : L2.St} {H : Hp} {s : Shared} {a : Addr} {oe : Obj} {vs : Array Value} {cls : Value} {d : Option Addr} (I : Inv X ((a, oe) :: pins) σ H s) (hz : Zc cls d oe) (hd : oe.data = .fields vs) (n0 : X.s_0.heap.get? a = none)
    (np : ∀ p ∈ X.pn ++ pins, p.1 ≠ a) : Inv X pins σ (upd H a (ExT cls d a)) s := by
  obtain ⟨ha, na, nL, nF, _⟩ := I.pin (a, oe) (List.mem_append_right _ List.mem_cons_self)
  have ha : s.heap.get? a = some oe := ha
  have na : H a = none := na
  have nb0 : ∀ b o, X.s_0.heap.get? b = some o → b ≠ a := fun b o e z => by
    rw [z, n0] at e
    cases e
  refine ⟨I.ok, I.os, I.bare, ⟨I.base.keep, I.base.slot, fun b o e n hx => ?_, I.base.there, fun b xs e => ?_, fun b o u e => ?_, fun b ps e => ?_⟩, I.loc, I.cell, ?_, fun y cc e => ?_, fun p hp => ?_, ?_, I.len⟩
  · rw [upd_ne (nb0 b o e)]
    exact I.base.free b o e n hx
  · have q := I.base.tups b xs e
    rw [upd_ne (ne_of_none q na)]
    exact q
  · have q := I.base.frzs b o u e
    rw [upd_ne (ne_of_none q na)]
    exact q
  · obtain ⟨m, q⟩ := I.base.tbls b ps e
    exact ⟨m, by rw [upd_ne (ne_of_none q na)]; exact q⟩
  · rw [upd_ne (Ne.symm nL)]
    exact I.free
  · obtain ⟨v, o, q1, q2⟩ := I.cell y cc e
    have nc : cc ≠ a := fun z => by
      rw [z, ha] at q1
      cases q1
      rw [hd] at q2
      cases q2
    rw [upd_ne nc]
    exact I.freeC y cc e
  · obtain ⟨q1, q2, q3, q4, q5⟩ := I.pin p (by
      rcases List.mem_append.mp hp with z | z
      · exact List.mem_append_left _ z
      · exact List.mem_append_right _ (List.mem_cons_of_mem _ z))
    exact ⟨q1, by rw [upd_ne (np p hp)]; exact q2, q3, q4, q5⟩
  · exact I.hok.laidN (fun _ _ z => z) na (exT_ok ha hz hd)
/-- what is caught is new since the def began -/
theorem caught_new {pins : List (Addr × Obj)} {σ : L2.St} {H : Hp} {g : Shared} {G : Heap} {a : Addr} (J : Inv X pins σ H g)
    (kp : ∀ b o, g.heap.get? b = some o → b ∉ frs X.stack → G.get? b = some o) (out : G.get? a = none) (nf : a ∉ frs X.stack) (hex : X.ex = []) :
    X.s_0.heap.get? a = none ∧ ∀ p ∈ X.pn ++ pins, p.1 ≠ a := by
  have g0 : g.heap.get? a = none := by
    cases e : g.heap.get? a with
    | none => rfl
    | some o => exact absurd ((kp a o e nf).symm.trans out) (fun z => nomatch z)
  refine ⟨?_, fun p hp z => ?_⟩
  · cases e : X.s_0.heap.get? a with
    | none => rfl
    | some o =>
      obtain ⟨u, hu⟩ := J.base.there a o e (hex ▸ fun z => nomatch z)
      exact absurd (hu.symm.trans g0) (fun z => nomatch z)
  · have hp1 := (J.pin p hp).1
    rw [z, g0] at hp1
    exact nomatch hp1
theorem kept_try (hs : X.stack = X.env :: X.outer) (hf : X.env.frame = some X.env.locals)
    (hex : X.ex = []) (hN : X.N.Nodup) (hi : X.N[i]? = some n)
    (hln : X.env.kindOf n = some .local) (hc : Names X x c)
    (inner : ∀ W pn xe, Takes (X.tr pn xe) W → PassesOwn (model X.prog X.w) X.A X.env xe → PSs (X.tr pn xe) body (tb W))
    (clause : ∀ a q, PSs (X.suite a q) (b₀ :: suite) (ts a)) :
    PS X (.Try body [.ExceptHandler (some (.Name x np)) (some n) (b₀ :: suite) pos'] [] [] pos)
      (fun D σ H => tb (wKept X.K c i ts D) D σ H) := by
  constructor
  intro pins s σ H D I h
  have frames : X.A.frames = some (X.env :: X.outer) := by
    rw [← hs]
    exact I.ok.frames
  apply wpAny_Try_except
  refine wpAny_mono ((inner (wKept X.K c i ts D) (X.pn ++ pins) _ ?later PassesOwn.looking).run
    [] s σ H D (I.toTry _) h) ?done fun _ _ z => z
  case later =>
    rintro u t ⟨a, G, g, pq, σ1, H1, cls, d, rfl, J0, kp, up, sky, na, os, ag, hb, go⟩
    have J := J0.ofTry I.ok
    rw [hs] at sky
    refine Sky.land Zc.steady frames hf sky fun h3 f3 u3 => ?_
    obtain ⟨e3, v3, at3, z3, d3⟩ := f3.there
    -- it is none of the frames
    have away : a ∉ frs (X.env :: X.outer) := by
      intro z
      obtain ⟨_, o, ho, no⟩ := f3.2.2.1.mem z
      rw [at3] at ho
      injection ho with ho
      subst ho
      exact no _ d3
    have a1 : a ≠ X.env.locals := fun z =>
      away (List.mem_filterMap.mpr ⟨X.env, .head _, z ▸ hf⟩)
    have a2 : a ∉ X.fs := by
      intro z
      obtain ⟨e, he, q⟩ := List.mem_filterMap.mp z
      exact away (List.mem_filterMap.mpr ⟨e, .tail _ he, q⟩)
    obtain ⟨n0, apart⟩ := caught_new J kp f3.2.1 (hs ▸ away) hex
    have J3 := J.landed (s' := { t with heap := h3 }) kp f3.1 (up.trans u3) os ag
    have S3 := J3.suite at3 d3 na a1 a2
    refine wpAny_handleBy_cons (codeAny_handlers_test ?_) (fun z => nomatch z)
    have ty : PySem.W.Looks (model X.prog X.w) h3 (typeOf (.ref a)) cls := fun _ _ _ _ k q =>
      wpAny_typeOf_ref (k _ _ at3) (z3.1 ▸ q)
    have hit := PySem.W.exm_one J3.kIn ty hb
    have named : ∀ {Q E : Value → Shared → Prop}, Q c { t with heap := h3 } →
        wpAny (model X.prog X.w) (X.A.mark (some (.ref a))) (eval (.Name x np) X.env) Q E { t with heap := h3 } := by
      intro Q E q
      obtain ⟨gl, dbg, mine | ⟨none', boot, other⟩⟩ := hc
      · exact ld_glob S3 gl mine q dbg
      · exact ld_blt S3 gl none' boot q other dbg
    refine named (hit.here (codeAny_handlers_suite_as ?_))
    refine HandSPX.lands_againZ f3 fun h4 f4 u4 => ?_
    obtain ⟨e4, v4, at4, z4, d4⟩ := f4.there
    have J4 := J.landed (s' := { t with heap := h4 }) kp f4.1 ((up.trans u3).trans u4) os ag
    refine store_ok (X := X.suite a ((a, e4) :: (X.pn ++ pins)))
      (J4.suite at4 d4 na a1 a2) (v := .ref a) hN hi (.inl hln) rfl (fun s5 S5 => ?_) (.inr hln)
    have fin := (clause a ((a, e4) :: (X.pn ++ pins))).run [] s5 _ H1 _ S5 (go a na)
    refine wpAny_mono fin (fun fl s6 done => ?_) fun _ _ z => z.elim
    cases fl with
    | next =>
      obtain ⟨σ6, H6, S6, q6⟩ := done
      refine gone_ok (unsuite2 S6 I.ok) hN hi hln fun s7 J7 => ?_
      exact ⟨_, _, track J7 z4 d4 n0 apart, q6⟩
    | brk => exact (let ⟨_, _, _, z⟩ := done; z.elim)
    | cont => exact (let ⟨_, _, _, z⟩ := done; z.elim)
    | ret u => exact (let ⟨_, _, _, _, _, z⟩ := done; z.elim)
  intro fl s1 done
  cases fl with
  | next => exact (let ⟨_, _, J, z⟩ := done; wpAny_execs_nil ⟨_, _, J.ofTry I.ok, z⟩)
  | brk => exact (let ⟨_, _, J, z⟩ := done; ⟨_, _, J.ofTry I.ok, z⟩)
  | cont => exact (let ⟨_, _, J, z⟩ := done; ⟨_, _, J.ofTry I.ok, z⟩)
  | ret u => exact (let ⟨_, _, _, J, r, z⟩ := done; ⟨_, _, _, J.ofTry I.ok, r, z⟩)
/-- isinstance(e, c), e an error that was kept -/
def rIsT (K : PySem.W.Frag) : List V → Hp → VK → Prop := fun xs H Q => ∃ (a D : Addr) (cc : V) (cv : Value) (b : Bool), xs = [.ref a, cc] ∧ H a = some (ExT (.ref D) none a) ∧ ExcC K D ∧ (∀ u, RelV cc u → u = cv) ∧ PySem.W.kitOne K (.ref D) cv = some b ∧ Q (.bl b) H
theorem call_isT : CallR X (.builtin "isinstance") (rIsT X.K) := by
  intro pins s σ H xs us Q I r h
  obtain ⟨a, D, cc, cv, b, rfl, ea, C, hcv, e, q⟩ := h
  cases r with
  | cons rx rr =>
    cases rr with
    | cons rt rr =>
      cases rr
      cases rx
      have ec := hcv _ rt
      subst ec
      obtain ⟨⟨oe, vs, hget, hz, hv⟩, _⟩ := I.hok a _ ea
      have J : PySem.W.InstAt s.heap a oe D none := by
        obtain ⟨oc, od, oda, osl⟩ := oe
        obtain ⟨h1, h2⟩ := hz
        dsimp only at h1 h2 hv
        subst h1 h2 hv
        exact ⟨hget, rfl, rfl, trivial⟩
      exact PySem.W.kia_one (PySem.W.handS_kitx_exc C.hg C.hk C.hs C.hd C.ha C.hn C.ht C.hm) I.kIn J e (fun z => nomatch z) fun tk => ⟨.bl b, H, I.kept (t' := tk) fun _ _ z => z, rfl, q⟩
end
section
variable {X : Cx}
/-- a def that may raise, called where it does not -/
theorem pe_cL {k j : Nat} {x : Str} {dvs : List V} {sp : Sp} {e : Expr} {es : List Expr} {t : TA} {p pos : Pos} (c : Cal X.K X.mg (L2.CX X.prog X.w) X.prog X.w X.base k x dvs sp) (hr : Room j X.A) (ha : PA X (e :: es) t) (hk : k ≤ j := by decide) (hg : Gl X x := by rfl)
    (hdb : (x == ("__debug__" : Str)) = false := by decide) (he : starEach (e :: es) X.env = (false, eval e X.env) :: starEach es X.env := by rfl) (hpl : (backTo pos (starEach es X.env)).any (·.1) = false := by rfl) :
    PE X (.Call (.Name x p) (e :: es) [] pos) (tCall sp dvs E0 t) := by
  obtain ⟨f, fd, ps, ds, F, hm, kp, b, d⟩ := c.ex
  exact pe_call F (hr.mono hk) hg hm kp b d passL ha hdb he hpl
/-- .. in a def that lets it out -/
theorem pe_cX {k j : Nat} {x : Str} {dvs : List V} {sp : Sp} {E : XK} {e : Expr} {es : List Expr} {t : TA} {p pos : Pos} (c : Cal X.K X.mg (L2.CX X.prog X.w) X.prog X.w X.base k x dvs sp) (hr : Room j X.A) (tk : Takes X fun cls d _ H => E cls d H) (ha : PA X (e :: es) t) (hk : k ≤ j := by decide) (hg : Gl X x := by rfl)
    (hdb : (x == ("__debug__" : Str)) = false := by decide) (he : starEach (e :: es) X.env = (false, eval e X.env) :: starEach es X.env := by rfl) (hpl : (backTo pos (starEach es X.env)).any (·.1) = false := by rfl) :
    PE X (.Call (.Name x p) (e :: es) [] pos) (tCall sp dvs E t) := by
  obtain ⟨f, fd, ps, ds, F, hm, kp, b, d⟩ := c.ex
  exact pe_call F (hr.mono hk) hg hm kp b d (passes_call tk fun _ _ _ _ h => h) ha hdb he hpl
/-- .. in a try's body, at the slots -/
def tCallT (sp : Sp) (dvs : List V) (E : L2.St → XK) (t : TA) : TE := fun σ H Q => t σ H fun vs H1 => sp (vs ++ dvs) H1 Q (E σ)
end
end Hr
/-! ### errors of the text, defs that raise them -/
namespace Hr
open PySem PySem.Spec PyProof.Rows L2
/-- the class x of errors at C -/
structure Err (K : PySem.W.Frag) (mg : Str → Option Value) (x : Str) (C : Addr) : Prop where
  g : mg x = some (.ref C)
  x : PySem.W.excIn K C [.type "ValueError", .type "Exception", .type "BaseException", .type "object"] "ValueError.__new__" = true
  k : PySem.W.keepIn K (.ref C) = true
  b : PySem.W.subIn K (.ref C) (.type "BaseException") = some true
  t : PySem.W.typeIn K (.ref C) = some (.type "type")
section
variable {P : Program} {w : World} {K : PySem.W.Frag} {mg : Str → Option Value} {base : Heap}
theorem Def.calX {x : Str} {st : Stmt} {N ps : List Str} {k : Nat} {sp : Sp} (D : Def K mg x st ps) (S : FnScope N ps (defScope st)) (len : ∀ vs H Q E, sp vs H Q E → vs.length = ps.length)
    (hbody : ∀ (f : Addr) (cdv : Value) (A : Around) (outer : List Env) (s : Shared) (H : Hp) (vs : List V) (Q : VK) (E : XK), Room k (A.deeper (envOfC x (defScope st) s.heap.objs.size f cdv)) → sp vs H Q E →
      ∃ t, PSs (cxOf (L2.CX P w) P w K mg base N x (defScope st) f cdv A outer s H E) (defBody st) t ∧ t { nx := fun _ H' => Q .non H', rt := Q } (start N vs) H) : Cal K mg (L2.CX P w) P w base (k + 1) x [] sp := by
  obtain ⟨f, fd, F, hm, b⟩ := D.ex
  exact ⟨f, fd, ps, [], F.okX S len (hbody f), hm, F.kp, b, .nil⟩
theorem DefD.okX {x : Str} {st : Stmt} {N ps : List Str} {k : Nat} {sp : Sp} (D : DefD K mg x st ps) (S : FnScope N ps (defScope st)) (len : ∀ vs H Q E, sp vs H Q E → vs.length = ps.length)
    (hbody : ∀ (f : Addr) (cdv : Value) (A : Around) (outer : List Env) (s : Shared) (H : Hp) (vs : List V) (Q : VK) (E : XK), Room k (A.deeper (envOfC x (defScope st) s.heap.objs.size f cdv)) → sp vs H Q E →
      ∃ t, PSs (cxOf (L2.CX P w) P w K mg base N x (defScope st) f cdv A outer s H E) (defBody st) t ∧ t { nx := fun _ H' => Q .non H', rt := Q } (start N vs) H) :
    Cal K mg (L2.CX P w) P w base (k + 1) x [] sp ∧ Cal K mg (L2.CX P w) P w base (k + 1) x [.non] sp := by
  obtain ⟨f, fd, F, hm, b, ds, vd, b2⟩ := D.ex
  have G : FnOk P w K mg base (L2.CX P w) (k + 1) f fd ps sp := F.ok S len (hbody f)
  exact ⟨⟨f, fd, ps, [], G, hm, F.kp, b, .nil⟩, ⟨f, fd, ps, ds, G, hm, F.kp, b2, vd⟩⟩
theorem DefV.okX {x : Str} {st : Stmt} {N ps : List Str} {k : Nat} {sp : Sp} {dv : V} (D : DefV K mg x st ps dv) (S : FnScope N ps (defScope st)) (len : ∀ vs H Q E, sp vs H Q E → vs.length = ps.length)
    (hbody : ∀ (f : Addr) (cdv : Value) (A : Around) (outer : List Env) (s : Shared) (H : Hp) (vs : List V) (Q : VK) (E : XK), Room k (A.deeper (envOfC x (defScope st) s.heap.objs.size f cdv)) → sp vs H Q E →
      ∃ t, PSs (cxOf (L2.CX P w) P w K mg base N x (defScope st) f cdv A outer s H E) (defBody st) t ∧ t { nx := fun _ H' => Q .non H', rt := Q } (start N vs) H) :
    Cal K mg (L2.CX P w) P w base (k + 1) x [] sp ∧ Cal K mg (L2.CX P w) P w base (k + 1) x [dv] sp := by
  obtain ⟨f, fd, F, hm, b, ds, vd, b2⟩ := D.ex
  have G : FnOk P w K mg base (L2.CX P w) (k + 1) f fd ps sp := F.ok S len (hbody f)
  exact ⟨⟨f, fd, ps, [], G, hm, F.kp, b, .nil⟩, ⟨f, fd, ps, ds, G, hm, F.kp, b2, vd⟩⟩
end
end Hr
/-! ### the law's own numbers -/
namespace Hr
open PySem PySem.Spec PyProof.Rows L2
/-- what _law_mixed makes of a cell at its place -/
def mixed (z k : Int) : Int :=
  let m := (z % 2147483629 + 104729 * (k + 1)) * 16807 % 2147483647
  m * m % 2147483629 * 48271 % 2147483647
theorem mixed_nonneg (z k : Int) : 0 ≤ mixed z k := Int.emod_nonneg _ (by decide)
theorem mixed_lt (z k : Int) : mixed z k < 2147483647 := Int.emod_lt_of_pos _ (by decide)
theorem scMixed : FnScope ["_law_cell", "_law_k", "_law_mark"] ["_law_cell", "_law_k"] (defScope sMixed) := ⟨rfl, rfl, rfl, by decide +kernel, rfl, by decide +kernel, by decide +kernel⟩
section
variable {P : Program} {w : World} {K : PySem.W.Frag} {mg : Str → Option Value} {base : Heap}
def spMixed : Sp := fun vs H Q _ => ∃ (z k : Int), vs = [.int z, .int k] ∧ Q (.int (mixed z k)) H
theorem cal_mixed (D : Def K mg "_law_mixed" sMixed ["_law_cell", "_law_k"]) : Cal K mg CX0 P w base 1 "_law_mixed" [] spMixed := by
  refine D.cal scMixed (fun vs H Q E h => ?_) (fun f cdv A outer s H vs Q E hr h => ?_)
  · obtain ⟨z, k, rfl, _⟩ := h
    rfl
  · obtain ⟨z, k, rfl, q⟩ := h
    refine ⟨_, pss_cons (ps_set (i := 2) scMixed.nd rfl (.inl rfl) (pe_op op_mod (pe_op op_mul (pe_op op_add (pe_op op_mod (pv 0) pe_int) (pe_op op_mul pe_int (pe_op op_add (pv 1) pe_int))) pe_int) pe_int))
      (pss_one (ps_ret (pe_op op_mod (pe_op op_mul (pe_op op_mod (pe_op op_mul (pv 2) (pv 2)) pe_int) pe_int) pe_int))), ?_⟩
    refine ⟨.int z, rfl, z, 2147483629, rfl, rfl, (by show (0 : Int) < 2147483629; decide), .int k, rfl, k, 1, rfl, rfl, 104729, k + 1, rfl, rfl, .inl ⟨by decide, by decide⟩, z % 2147483629, 104729 * (k + 1), rfl, rfl, _, 16807, rfl, rfl, .inr ⟨by decide, by decide⟩,
      _, 2147483647, rfl, rfl, (by show (0 : Int) < 2147483647; decide), ?_⟩
    have h0 : 0 ≤ (z % 2147483629 + 104729 * (k + 1)) * 16807 % 2147483647 := Int.emod_nonneg _ (by decide)
    have h1 : (z % 2147483629 + 104729 * (k + 1)) * 16807 % 2147483647 < 2147483647 := Int.emod_lt_of_pos _ (by decide)
    refine ⟨_, rfl, _, rfl, _, _, rfl, rfl, .inl ⟨by omega, by omega⟩, _, 2147483629, rfl, rfl, (by show (0 : Int) < 2147483629; decide), _, 48271, rfl, rfl, .inr ⟨by decide, by decide⟩, _, 2147483647, rfl, rfl, (by show (0 : Int) < 2147483647; decide), ?_⟩
    exact q
end
end Hr
namespace Hr
open PySem PySem.Spec PyProof.Rows L2
/-- a ceiling as a value -/
def cV : Option Nat → V
  | none => .non
  | some k => .int (k : Int)
/-- a ceiling in its bounds -/
def cOk (m : Nat) : Option Nat → Prop
  | none => True
  | some k => k ≤ m
end Hr
/-! ### counts and ranks, with what they refuse -/
namespace Hr
open PySem PySem.Spec PyProof.Rows L2
/-- a whole number from 0 to m -/
def numL : V → Int → Int → Bool
  | .int i, l, m => decide (l ≤ i ∧ i ≤ m)
  | _, _, _ => false
def numB (v : V) (m : Int) : Bool := numL v 0 m
def ceilB : V → Bool
  | .non => true
  | v => numB v 200
theorem numB_of {v : V} {m : Int} (h : numB v m = true) : ∃ n : Nat, v = .int (n : Int) ∧ (n : Int) ≤ m := by
  cases v with
  | int i =>
    have := of_decide_eq_true h
    exact ⟨i.toNat, by rw [Int.toNat_of_nonneg this.1], by omega⟩
  | _ => cases h
theorem numB_nat {n : Nat} {m : Int} (h : (n : Int) ≤ m) : numB (.int (n : Int)) m = true := decide_eq_true ⟨by omega, h⟩
theorem ceilB_of {v : V} (h : ceilB v = true) : ∃ c : Option Nat, v = cV c ∧ cOk 200 c := by
  cases v with
  | non => exact ⟨none, rfl, trivial⟩
  | int i =>
    obtain ⟨n, e, hn⟩ := numB_of (v := .int i) (m := 200) h
    exact ⟨some n, e, by show n ≤ 200; omega⟩
  | _ => cases h
theorem ceilB_cV {c : Option Nat} (h : cOk 200 c) : ceilB (cV c) = true := by
  cases c with
  | none => rfl
  | some k =>
    have h : k ≤ 200 := h
    exact numB_nat (by omega)
theorem flat_cV (c : Option Nat) : flatV (cV c) = true := by cases c <;> rfl
theorem scIsNum : FnScope ["value", "most", "least"] ["value", "most", "least"] (defScope sIsNum) := ⟨rfl, rfl, rfl, by decide +kernel, rfl, by decide +kernel, by decide +kernel⟩
section
variable {P : Program} {w : World} {K : PySem.W.Frag} {mg : Str → Option Value} {base : Heap} {CC CN CR CP : Addr}
def spIsNumV : Sp := fun vs H Q _ => ∃ (v : V) (m : Int), vs = [v, .int m, .int 0] ∧ flatV v = true ∧ Q (.bl (numB v m)) H
def spIsNumL : Sp := fun vs H Q _ => ∃ (v : V) (m l : Int), vs = [v, .int m, .int l] ∧ flatV v = true ∧ Q (.bl (numL v l m)) H
theorem cal_isNumL (D : DefV K mg "is_number" sIsNum ["value", "most", "least"] (.int 0)) (misi : mg "isinstance" = none) (mint : mg "int" = none) (mbool : mg "bool" = none) : Cal K mg CX0 P w base 1 "is_number" [] spIsNumL ∧ Cal K mg CX0 P w base 1 "is_number" [.int 0] spIsNumL := by
  refine D.ok scIsNum (fun vs H Q E h => ?_) (fun f cdv A outer s H vs Q E hr h => ?_)
  · obtain ⟨i, m, l, rfl, _⟩ := h
    rfl
  · obtain ⟨v, m, l, rfl, hv, q⟩ := h
    refine ⟨_, pss_one (ps_ret (pe_and (pe_callB call_isi (by rfl) misi (by decide +kernel) (pa_cons (pv 0) (pa_cons (pe_bltn (v := .ty "int") (u := .type "int") (by rfl) mint (by decide +kernel) rfl) pa_nil)))
      (pe_and (pe_not (pe_callB call_isi (by rfl) misi (by decide +kernel) (pa_cons (pv 0) (pa_cons (pe_bltn (v := .ty "bool") (u := .type "bool") (by rfl) mbool (by decide +kernel) rfl) pa_nil))))
      (pe_one (pe_chain op_le op_le (pv 2) (pv 0) (pv 1)))))), ?_⟩
    cases v with
    | int i =>
      refine ⟨.int i, rfl, .int i, .ty "int", _, _, true, rfl, .ty "int", .base (.int i), kit_ty (by decide +kernel), true, rfl, iteT ?_⟩
      refine ⟨.int i, rfl, .int i, .ty "bool", _, _, false, rfl, .ty "bool", .base (.int i), kit_ty (by decide +kernel), false, rfl, true, rfl, iteT ?_⟩
      refine ⟨.int l, rfl, .int i, rfl, l, i, rfl, rfl, decide (l ≤ i), rfl, ite2 (fun e => ?_) (fun e => ?_)⟩
      · refine ⟨.int m, rfl, i, m, rfl, rfl, ?_⟩
        have e0 : l ≤ i := of_decide_eq_true e
        show Q (.bl (decide (i ≤ m))) H
        rw [show decide (i ≤ m) = decide (l ≤ i ∧ i ≤ m) from decide_eq_decide.mpr ⟨fun z => ⟨e0, z⟩, fun z => z.2⟩]
        exact q
      · have e0 : ¬ l ≤ i := fun z => e (decide_eq_true z)
        have en : numL (.int i) l m = false := decide_eq_false (fun z => e0 z.1)
        rw [en] at q
        exact q
    | bl b =>
      refine ⟨.bl b, rfl, .bl b, .ty "int", _, _, true, rfl, .ty "int", .base (.bl b), kit_ty (by decide +kernel), true, rfl, iteT ?_⟩
      refine ⟨.bl b, rfl, .bl b, .ty "bool", _, _, true, rfl, .ty "bool", .base (.bl b), kit_ty (by decide +kernel), true, rfl, false, rfl, iteF ?_⟩
      exact q
    | non =>
      refine ⟨.non, rfl, .non, .ty "int", _, _, false, rfl, .ty "int", .base .non, kit_ty (by decide +kernel), false, rfl, iteF ?_⟩
      exact q
    | str z =>
      refine ⟨.str z, rfl, .str z, .ty "int", _, _, false, rfl, .ty "int", .base (.str z), kit_ty (by decide +kernel), false, rfl, iteF ?_⟩
      exact q
    | byt _ => cases hv
    | flt _ => cases hv
    | ref _ => cases hv
    | ty _ => cases hv
theorem cal_isNumV (D : DefV K mg "is_number" sIsNum ["value", "most", "least"] (.int 0)) (misi : mg "isinstance" = none) (mint : mg "int" = none) (mbool : mg "bool" = none) : Cal K mg CX0 P w base 1 "is_number" [] spIsNumL ∧ Cal K mg CX0 P w base 1 "is_number" [.int 0] spIsNumV := by
  obtain ⟨C1, C2⟩ := cal_isNumL (P := P) (w := w) (base := base) D misi mint mbool
  exact ⟨C1, C2.imp fun vs H Q E ⟨v, m, e, hv, q⟩ => ⟨v, m, 0, e, hv, q⟩⟩
end
end Hr
/-! ### rows as texts -/
namespace Hr
open PySem PySem.Spec PyProof.Rows L2
def code (b : Bool) : Nat := if b = true then 117 else 100
def txt (l : List Bool) : Str := ⟨(l.map code).toArray⟩
def sgn (b : Bool) : Str := ⟨#[code b]⟩
theorem txt_len (l : List Bool) : (txt l).length = l.length := by
  show ((l.map code).toArray).size = _
  rw [List.size_toArray, List.length_map]
theorem txt_size (l : List Bool) : (txt l).cps.size = l.length := txt_len l
theorem txt_at (l : List Bool) (i : Nat) : (txt l).cps[i]? = (l[i]?).map code := by
  show ((l.map code).toArray)[i]? = _
  rw [List.getElem?_toArray, List.getElem?_map]
theorem code_inj {a b : Bool} (h : code a = code b) : a = b := by
  cases a <;> cases b <;> first | rfl | (exact absurd h (by decide))
theorem map_code_inj : ∀ {a b : List Bool}, a.map code = b.map code → a = b
  | [], [], _ => rfl
  | [], _ :: _, e => by cases e
  | _ :: _, [], e => by cases e
  | x :: a, y :: b, e => by
    rw [List.map_cons, List.map_cons] at e
    injection e with e1 e2
    rw [code_inj e1, map_code_inj e2]
theorem txt_inj {a b : List Bool} (h : txt a = txt b) : a = b := by
  have := congrArg (fun z : Str => z.cps.toList) h
  exact map_code_inj (by simpa [txt] using this)
theorem txt_append (a b : List Bool) : txt a ++ txt b = txt (a ++ b) := by
  have := SX.S_cat (a.map code) (b.map code)
  rw [← List.map_append] at this
  exact this
theorem eU : ("u" : Str) = ⟨#[117]⟩ := by decide +kernel
theorem eD : ("d" : Str) = ⟨#[100]⟩ := by decide +kernel
theorem eE : ("" : Str) = ⟨#[]⟩ := by decide +kernel
theorem sgn_u : sgn true = ("u" : Str) := eU.symm
theorem sgn_d : sgn false = ("d" : Str) := eD.symm
theorem one_inj {a b : Nat} : ((⟨#[a]⟩ : Str) = ⟨#[b]⟩) ↔ a = b := by
  constructor
  · intro h
    have := congrArg (fun z : Str => z.cps.toList) h
    simpa using this
  · intro h
    rw [h]
theorem is_u (c : Nat) : decide (V.str ⟨#[c]⟩ = V.str ("u" : Str)) = decide (c = 117) := by
  refine decide_eq_decide.mpr ?_
  rw [eU]
  exact ⟨fun z => one_inj.mp (V.str.inj z), fun z => by rw [z]⟩
theorem code_u (b : Bool) : decide (code b = 117) = b := by cases b <;> rfl
/-- a text of ups and downs alone -/
def isS (c : Nat) : Bool := decide (c = 117) || decide (c = 100)
def isRowB (z : Str) : Bool := z.cps.toList.all isS
theorem isRowB_txt (l : List Bool) : isRowB (txt l) = true := by
  show (l.map code).toArray.toList.all isS = true
  rw [List.all_eq_true]
  intro c hc
  have hc : c ∈ l.map code := hc
  obtain ⟨b, _, rfl⟩ := List.mem_map.mp hc
  cases b <;> rfl
/-- the signs of a text -/
def signs (z : Str) : List Bool := z.cps.toList.map fun c => decide (c = 117)
theorem signs_txt (l : List Bool) : signs (txt l) = l := by
  show (l.map code).map _ = l
  rw [List.map_map]
  refine (List.map_congr_left fun b _ => ?_).trans (List.map_id l)
  exact code_u b
theorem txt_signs {z : Str} (h : isRowB z = true) : txt (signs z) = z := by
  obtain ⟨⟨l⟩⟩ := z
  have h : l.all isS = true := h
  show (⟨((l.map fun c => decide (c = 117)).map code).toArray⟩ : Str) = ⟨l.toArray⟩
  congr 2
  rw [List.map_map]
  refine (List.map_congr_left fun c hc => ?_).trans (List.map_id l)
  have := List.all_eq_true.mp h c hc
  unfold isS at this
  show code (decide (c = 117)) = c
  by_cases e : c = 117
  · rw [e]
    rfl
  · have e2 : c = 100 := by simpa [e] using this
    rw [e2]
    rfl
theorem signs_len (z : Str) : (signs z).length = z.length := by
  unfold signs
  rw [List.length_map, Array.length_toList]
  rfl
/-- whether a text is a hill row under a ceiling -/
def hillB (c : Option Nat) (z : Str) : Bool := isRowB z && okb c 0 (signs z)
theorem hillB_txt (c : Option Nat) (l : List Bool) : hillB c (txt l) = okb c 0 l := by
  unfold hillB
  rw [isRowB_txt, signs_txt, Bool.true_and]
theorem in_signs (c : Nat) : inV (.str ⟨#[c]⟩) [.str "u", .str "d"] = isS c := by
  have e : ∀ (k : Nat), ((⟨#[k]⟩ : Str) == ⟨#[c]⟩) = decide (c = k) := fun k => by
    by_cases h : c = k
    · rw [h]
      simp
    · rw [decide_eq_false h]
      refine beq_eq_false_iff_ne.mpr fun z => h (one_inj.mp z).symm
  show (("u" : Str) == ⟨#[c]⟩ || (("d" : Str) == ⟨#[c]⟩ || false)) = _
  rw [eU, eD, e, e, Bool.or_false]
  rfl
theorem take_snoc {α : Type} {l : List α} {i : Nat} {x : α} (h : l[i]? = some x) : l.take (i + 1) = l.take i ++ [x] := by
  rw [List.take_add_one, h]
  rfl
theorem scIsRow : FnScope ["text", "sign"] ["text"] (defScope sIsRow) := ⟨rfl, rfl, rfl, by decide +kernel, rfl, by decide +kernel, by decide +kernel⟩
theorem scHeights : FnScope ["row", "height", "found", "sign"] ["row"] (defScope sHeights) := ⟨rfl, rfl, rfl, by decide +kernel, rfl, by decide +kernel, by decide +kernel⟩
theorem scIsHill : FnScope ["row", "ceiling", "found"] ["row", "ceiling"] (defScope sIsHill) := ⟨rfl, rfl, rfl, by decide +kernel, rfl, by decide +kernel, by decide +kernel⟩
section
variable {P : Program} {w : World} {K : PySem.W.Frag} {mg : Str → Option Value} {base : Heap}
def spIsRow : Sp := fun vs H Q _ => ∃ (z : Str), vs = [.str z] ∧ z.length ≤ 1000 ∧ ∀ H', Same H H' → Q (.bl (isRowB z)) H'
theorem cal_isRow (D : Def K mg "is_row" sIsRow ["text"]) (misi : mg "isinstance" = none) (mstr : mg "str" = none) (mall : mg "all" = none) {t1 t2 : Tok} (gU : mg "UP" = some (.str "u" t1)) (gD : mg "DOWN" = some (.str "d" t2)) : Cal K mg CX0 P w base 1 "is_row" [] spIsRow := by
  refine D.cal scIsRow (fun vs H Q E h => ?_) (fun f cdv A outer s H vs Q E hr h => ?_)
  · obtain ⟨z, rfl, _⟩ := h
    rfl
  · obtain ⟨z, rfl, hz, q⟩ := h
    refine ⟨_, pss_one (ps_ret (pe_and (pe_callB call_isi (by rfl) misi (by decide +kernel) (pa_cons (pv 0) (pa_cons (pe_bltn (v := .ty "str") (u := .type "str") (by rfl) mstr (by decide +kernel) rfl) pa_nil)))
      (pe_one (pe_callB (cr_all rfl) (by rfl) mall (by decide +kernel) (pa_cons (pe_lc (own := [("sign", 1)]) (g := gName 1) (tt := tYes) rfl scIsRow.nd (pi_str (pv 0))
        (blkOk_by (N := ["text", "sign"]) (sc := defScope sIsRow) (by decide +kernel)) (fun _ _ _ _ _ => pg_name (i := 1) scIsRow.nd rfl (Or.inl rfl)) (fun _ _ _ _ _ => pts_nil)
        (fun _ _ _ _ _ => pe_cmpR (r := rIn K false) op_in_seq (pv 1) (pe_tup (pa_cons (pe_glob (v := .str "u") (by rfl) gU ⟨_, rfl⟩) (pa_cons (pe_glob (v := .str "d") (by rfl) gD ⟨_, rfl⟩) pa_nil))) (by rfl))) pa_nil))))), ?_⟩
    refine ⟨.str z, rfl, .str z, .ty "str", _, _, true, rfl, .ty "str", .base (.str z), kit_ty (by decide +kernel), true, rfl, iteT ?_⟩
    refine ⟨.str z, rfl, z, rfl, fun D nD => ?_⟩
    refine lc_it walk_str (fun i H' => Same H H' ∧ H' D = some (.lst (((z.cps.toList.take i).map isS).map V.bl))) ⟨same_upd nD, upd_same⟩ (fun _ _ _ _ => trivial) ?_ ?_
    · rintro i x H1 H2 hi ⟨sm, eD⟩ ⟨rfl, c, hc, rfl⟩
      have hc' : z.cps.toList[i]? = some c := by rw [Array.getElem?_toList]; exact hc
      refine ⟨rfl, ?_⟩
      unfold tYes
      refine iteT ?_
      refine ⟨_, rfl, sz (show 2 ≤ 1000000 by decide), fun t nt => ?_⟩
      have nDt : D ≠ t := ne_of_none eD nt
      refine ⟨t, _, rfl, .inr (.inl (.inl upd_same)), rfl, rfl, _, by rw [upd_ne nDt]; exact eD, szl ?_, same_updN (sm.trans (same_upd nt)) nD, ?_⟩
      · rw [List.length_map, List.length_map, List.length_take]
        have : z.cps.toList.length = z.length := rfl
        omega
      · rw [upd_same, take_snoc hc', List.map_append, List.map_append]
        show some (HO.lst (_ ++ [V.bl (inV (.str ⟨#[c]⟩) [.str "u", .str "d"])])) = _
        rw [in_signs]
        rfl
    · rintro H1 ⟨sm, eD⟩
      refine ⟨D, _, rfl, .inl (.inl eD), ?_⟩
      have e : (((z.cps.toList.take z.cps.size).map isS).all id) = isRowB z := by
        rw [List.take_of_length_le (by rw [Array.length_toList]; exact Nat.le_refl _), List.all_map]
        rfl
      rw [e]
      exact q H1 sm
end
end Hr
namespace Hr
open PySem PySem.Spec PyProof.Rows L2
section
variable {P : Program} {w : World} {K : PySem.W.Frag} {mg : Str → Option Value} {base : Heap}
def spHeightsX (CN : Addr) : Sp := fun vs H Q E => ∃ (z : Str), vs = [.str z] ∧ z.length ≤ 1000 ∧ (isRowB z = true → ∀ H' p, Same H H' → H p = none → H' p = some (.lst ((hts 0 (signs z)).map V.int)) → Q (.ref p) H') ∧ (isRowB z = false → ∀ H', Same H H' → E (.ref CN) none H')
theorem cal_heightsX {CN : Addr} (er : Err K mg "NoRow" CN) (D : Def K mg "heights" sHeights ["row"]) (C : Cal K mg CX0 P w base 1 "is_row" [] spIsRow) {t1 : Tok} (gU : mg "UP" = some (.str "u" t1)) : Cal K mg (L2.CX P w) P w base 2 "heights" [] (spHeightsX CN) := by
  refine D.calX scHeights (fun vs H Q E h => ?_) (fun f cdv A outer s H vs Q E hr h => ?_)
  · obtain ⟨z, rfl, _⟩ := h
    rfl
  · obtain ⟨z, rfl, hz, q, qe⟩ := h
    have nd := scHeights.nd
    refine ⟨_, pss_cons (ps_if (pt_not (pt_val (pe_c C hr (pa_cons (pv 0) pa_nil)))) (pss_one (ps_raise rfl (takes_of rfl rfl rfl rfl) (pmk_own PySem.F.excBase_ValueError er.x er.g er.k (raises_own er.b er.t) rfl))) pss_nil)
      (pss_cons (ps_set (i := 1) nd rfl (.inl rfl) pe_int)
      (pss_cons (ps_set (i := 2) nd rfl (.inl rfl) (pe_lst (pa_cons (pv 1) pa_nil)))
      (pss_cons (ps_for PassesOwn.leaving rfl (pi_str (pv 0)) (pg_name (i := 3) nd rfl (.inl rfl))
        (pss_cons (ps_aug (i := 1) nd rfl (.inl rfl) (pe_ifExp (pt_cmpR op_eq (pv 3) (pe_glob (v := .str "u") (by rfl) gU ⟨_, rfl⟩) (nomark _)) pe_int (pe_un un_neg pe_int)) ip_add)
        (pss_one (ps_expr (pe_bm PySem.F.plainAttrs_list PySem.F.slot_list_append PySem.F.type_list_append mt_append (pv 2) (pa_cons (pv 1) pa_nil))))))
      (pss_one (ps_ret (pv 2)))))), ?_⟩
    refine ⟨.str z, rfl, z, rfl, hz, fun H1 s1 => ⟨isRowB z, rfl, ?_⟩⟩
    by_cases hrow : isRowB z = true
    rotate_left
    · have hrow : isRowB z = false := by simpa using hrow
      rw [hrow]
      refine iteT ?_
      exact qe hrow H1 s1
    rw [hrow]
    refine iteF ?_
    obtain ⟨l, rfl⟩ : ∃ l, z = txt l := ⟨signs z, (txt_signs hrow).symm⟩
    rw [txt_len] at hz
    have hl := hz
    have q := q hrow
    rw [signs_txt] at q
    refine ⟨.int 0, rfl, sz (show 1 ≤ 1000000 by decide), fun o no => ?_⟩
    have n0 : H o = none := s1.free no
    refine ⟨.str (txt l), rfl, txt l, rfl, ?_⟩
    refine for_it walk_str (fun i σ H' => ∃ y, σ = [some (.str (txt l)), some (.int ((l.take i).map sg).sum), some (.ref o), y] ∧ Same H H' ∧ H' o = some (.lst ((hts 0 (l.take i)).map V.int))) ?_ (fun _ _ _ _ _ => trivial) ?_ ?_
    · exact ⟨none, rfl, same_updN s1 n0, upd_same⟩
    · rintro i x σ H2 H3 hi ⟨y, rfl, sm, eo⟩ ⟨rfl, c, hc, rfl⟩
      rw [txt_at] at hc
      obtain ⟨b, hb, rfl⟩ := Option.map_eq_some_iff.mp hc
      have e1 : ((l.take (i + 1)).map sg).sum = ((l.take i).map sg).sum + sg b := by
        rw [take_snoc hb, List.map_append, List.sum_append]
        show _ + (sg b + 0) = _
        omega
      have e2 : hts 0 (l.take (i + 1)) = hts 0 (l.take i) ++ [((l.take (i + 1)).map sg).sum] := by
        rw [e1, take_snoc hb, hts_snoc, Int.zero_add]
      have hlen : ((hts 0 (l.take i)).map V.int).length < sizeLine := szl (by rw [List.length_map, hts_len, List.length_take]; omega)
      refine ⟨_, rfl, .str ⟨#[code b]⟩, rfl, rfl, decide (code b = 117), congrArg V.bl (is_u _), ?_⟩
      rw [code_u]
      cases b with
      | true =>
        refine iteT ?_
        refine ⟨_, 1, rfl, rfl, .ref o, rfl, .inl ⟨rfl, _, .inl (.inl eo)⟩, _, rfl, o, _, _, rfl, rfl, eo, hlen, some (.str ⟨#[code true]⟩), ?_, same_updN sm n0, ?_⟩
        · rw [e1]
          rfl
        · rw [upd_same, e2, e1, List.map_append]
          rfl
      | false =>
        refine iteF ?_
        refine ⟨1, rfl, _, -1, rfl, rfl, .ref o, rfl, .inl ⟨rfl, _, .inl (.inl eo)⟩, _, rfl, o, _, _, rfl, rfl, eo, hlen, some (.str ⟨#[code false]⟩), ?_, same_updN sm n0, ?_⟩
        · rw [e1]
          rfl
        · rw [upd_same, e2, e1, List.map_append]
          rfl
    · rintro σ H2 ⟨y, rfl, sm, eo⟩
      rw [txt_size, List.take_length] at eo
      exact ⟨.ref o, rfl, q H2 o sm n0 eo⟩
def spIsHill : Sp := fun vs H Q _ => ∃ (z : Str) (c : Option Nat), vs = [.str z, cV c] ∧ z.length ≤ 1000 ∧ ∀ H', Same H H' → Q (.bl (hillB c z)) H'
theorem cal_isHill {CN : Addr} (D : DefD K mg "is_hill" sIsHill ["row", "ceiling"]) (C : Cal K mg CX0 P w base 1 "is_row" [] spIsRow) (C2 : Cal K mg (L2.CX P w) P w base 2 "heights" [] (spHeightsX CN)) (mmin : mg "min" = none) (mmax : mg "max" = none) :
    Cal K mg CX0 P w base 3 "is_hill" [] spIsHill ∧ Cal K mg CX0 P w base 3 "is_hill" [.non] spIsHill := by
  refine D.ok scIsHill (fun vs H Q E h => ?_) (fun f cdv A outer s H vs Q E hr h => ?_)
  · obtain ⟨z, c, rfl, _⟩ := h
    rfl
  · obtain ⟨z, c, rfl, hz, q⟩ := h
    have nd := scIsHill.nd
    refine ⟨_, pss_cons (ps_if (pt_not (pt_val (pe_c C hr (pa_cons (pv 0) pa_nil)))) (pss_one (ps_ret pe_bl)) pss_nil)
      (pss_cons (ps_set (i := 2) nd rfl (.inl rfl) (pe_cL C2 hr (pa_cons (pv 0) pa_nil)))
      (pss_cons (ps_if (PW.pt (pw_or (pt_cmpR op_ne (pe_ix ix_list (pv 2) (pe_un un_neg pe_int) (fun _ _ => rfl)) pe_int (nomark _)) (pw_or1 (pt_cmpR op_lt (pe_callB (cr_min rfl) (by rfl) mmin boot_min (pa_cons (pv 2) pa_nil)) pe_int (nomark _))))) (pss_one (ps_ret pe_bl)) pss_nil)
      (pss_one (ps_ret (pe_or (pe_cmp (pc_isN (pv 1))) (pe_one (pe_cmpR op_le (pe_callB (cr_max rfl) (by rfl) mmax boot_max (pa_cons (pv 2) pa_nil)) (pv 1) (nomark _)))))))), ?_⟩
    refine ⟨.str z, rfl, z, rfl, hz, fun H1 s1 => ⟨isRowB z, rfl, ?_⟩⟩
    by_cases hrow : isRowB z = true
    · rw [hrow]
      refine iteF ?_
      obtain ⟨l, rfl⟩ : ∃ l, z = txt l := ⟨signs z, (txt_signs hrow).symm⟩
      rw [txt_len] at hz
      refine ⟨.str (txt l), rfl, txt l, rfl, by rw [txt_len]; exact hz, fun _ H2 p s2 np ep => ?_, fun z => absurd (z.symm.trans (isRowB_txt l)) (by decide)⟩
      rw [signs_txt] at ep
      have hS : SqL K H2 p ((hts 0 l).map V.int) := .inl (.inl ep)
      have hne : 0 < (hts 0 l).length := by rw [hts_len]; omega
      have hlast : (hts 0 l).map V.int = ((hts 0 l).dropLast).map V.int ++ [.int (l.map sg).sum] := by
        conv => lhs; rw [hts_last l 0]
        rw [List.map_append, Int.zero_add]
        rfl
      have iff := okb_iff c l 0 (fun k _ => Nat.zero_le _)
      have qq : ∀ b : Bool, (b = true ↔ okb c 0 l = true) → ∀ H', Same H H' → Q (.bl b) H' := fun b hb H' sm => by
        have := q H' sm
        rw [hillB_txt] at this
        have e : b = okb c 0 l := Bool.eq_iff_iff.mpr hb
        rw [e]
        exact this
      have sm := s1.trans s2
      refine ⟨.ref p, rfl, 1, rfl, p, _, -1, .int (l.map sg).sum, rfl, rfl, hS, by rw [hlast]; exact atI_last _ _, rfl, _, rfl, ite2 (fun e => ?_) (fun e => ?_)⟩
      · refine iteT ?_
        refine qq false ⟨fun z => (nomatch z), fun z => ?_⟩ H2 sm
        have := (iff.mp z).1
        have e' : ¬ (V.int (l.map sg).sum = V.int 0) := by simpa using e
        exact absurd (congrArg V.int (by have : ((0 : Nat) : Int) + (l.map sg).sum = 0 := this; omega)) e'
      · have e0 : (l.map sg).sum = 0 := by
          have : V.int (l.map sg).sum = V.int 0 := by simpa using e
          exact V.int.inj this
        refine ⟨.ref p, rfl, p, hts 0 l, rfl, hS, hne, fun m hm hmin => ⟨_, _, rfl, rfl, _, rfl, ite2 (fun g => ?_) (fun g => ?_)⟩⟩
        · have g0 : m < 0 := of_decide_eq_true g
          refine qq false ⟨fun z => (nomatch z), fun z => ?_⟩ H2 sm
          have := (iff.mp z).2.1 m hm
          omega
        · have g0 : ¬ m < 0 := fun z => g (decide_eq_true z)
          have hpos : ∀ x ∈ hts 0 l, 0 ≤ x := fun x hx => by
            have := hmin x hx
            omega
          cases c with
          | none =>
            refine ⟨.non, rfl, true, rfl, iteT ?_⟩
            refine qq true ⟨fun _ => iff.mpr ⟨by show ((0 : Nat) : Int) + _ = 0; omega, hpos, fun k z => by cases z⟩, fun _ => rfl⟩ H2 sm
          | some k =>
            refine ⟨.int (k : Int), rfl, false, rfl, iteF ?_⟩
            refine ⟨.ref p, rfl, p, hts 0 l, rfl, hS, hne, fun M hM hmax => ⟨.int (k : Int), rfl, M, (k : Int), rfl, rfl, ?_⟩⟩
            refine qq (decide (M ≤ (k : Int))) ⟨fun z => ?_, fun z => ?_⟩ H2 sm
            · have hk := of_decide_eq_true z
              refine iff.mpr ⟨by show ((0 : Nat) : Int) + _ = 0; omega, hpos, fun k' z' x hx => ?_⟩
              cases z'
              have := hmax x hx
              omega
            · exact decide_eq_true ((iff.mp z).2.2 k rfl M hM)
    · have hrow' : isRowB z = false := by simpa using hrow
      rw [hrow']
      refine iteT ?_
      have e : hillB c z = false := by
        unfold hillB
        rw [hrow', Bool.false_and]
      have := q H1 s1
      rw [e] at this
      exact this
end
end Hr
namespace Hr
open PySem PySem.Spec PyProof.Rows L2
theorem scChHill : FnScope ["row", "ceiling"] ["row", "ceiling"] (defScope sChHill) := ⟨rfl, rfl, rfl, by decide +kernel, rfl, by decide +kernel, by decide +kernel⟩
section
variable {P : Program} {w : World} {K : PySem.W.Frag} {mg : Str → Option Value} {base : Heap} {CC CN CR CP : Addr}
def spChHillX (CN : Addr) : Sp := fun vs H Q E => ∃ (z : Str) (c : Option Nat), vs = [.str z, cV c] ∧ z.length ≤ 1000 ∧ (hillB c z = true → ∀ H', Same H H' → Q .non H') ∧ (hillB c z = false → ∀ H', Same H H' → E (.ref CN) none H')
theorem cal_chHillX (er : Err K mg "NoRow" CN) (D : DefD K mg "check_hill" sChHill ["row", "ceiling"]) (C : Cal K mg CX0 P w base 3 "is_hill" [] spIsHill) : Cal K mg (L2.CX P w) P w base 4 "check_hill" [] (spChHillX CN) ∧ Cal K mg (L2.CX P w) P w base 4 "check_hill" [.non] (spChHillX CN) := by
  refine D.okX scChHill (fun vs H Q E h => ?_) (fun f cdv A outer s H vs Q E hr h => ?_)
  · obtain ⟨l, c, rfl, _⟩ := h
    rfl
  · obtain ⟨z, c, rfl, hz, q, qe⟩ := h
    refine ⟨_, pss_one (ps_if (pt_not (pt_val (pe_c C hr (pa_cons (pv 0) (pa_cons (pv 1) pa_nil))))) (pss_one (ps_raise rfl (takes_of rfl rfl rfl rfl) (pmk_own PySem.F.excBase_ValueError er.x er.g er.k (raises_own er.b er.t) rfl))) pss_nil), ?_⟩
    refine ⟨.str z, rfl, cV c, rfl, z, c, rfl, hz, fun H' sm => ⟨hillB c z, rfl, ?_⟩⟩
    cases hh : hillB c z with
    | true =>
      refine iteF ?_
      exact q hh H' sm
    | false =>
      refine iteT ?_
      exact qe hh H' sm
end
end Hr
/-! ### cut texts -/
namespace Hr
open PySem PySem.Spec PyProof.Rows L2
theorem cutS_from {l : List Bool} {k : Nat} (h : k ≤ l.length) : cutS (txt l) (some (k : Int)) none = txt (l.drop k) := by
  unfold cutS
  rw [txt_len, HT.sIx_nat, Nat.min_eq_left h]
  show (⟨(((l.map code).drop k).take (l.length - k)).toArray⟩ : Str) = _
  rw [List.take_of_length_le (by rw [List.length_drop, List.length_map]; exact Nat.le_refl _), ← List.map_drop]
  rfl
theorem cutS_to {l : List Bool} {k : Nat} (h : k ≤ l.length) : cutS (txt l) none (some (k : Int)) = txt (l.take k) := by
  unfold cutS
  rw [txt_len, HT.sIx_nat, Nat.min_eq_left h]
  show (⟨(((l.map code).drop 0).take (k - 0)).toArray⟩ : Str) = _
  rw [List.drop_zero, Nat.sub_zero, ← List.map_take]
  rfl
theorem is_d (b : Bool) : decide (V.str ⟨#[code b]⟩ = V.str ("d" : Str)) = !b := by
  cases b
  · exact decide_eq_true (by rw [eD]; rfl)
  · refine decide_eq_false fun z => ?_
    rw [eD] at z
    exact absurd (one_inj.mp (V.str.inj z)) (by decide)
theorem cutS_mid {l : List Bool} {a b : Nat} (ha : a ≤ b) (hb : b ≤ l.length) : cutS (txt l) (some (a : Int)) (some (b : Int)) = txt ((l.drop a).take (b - a)) := by
  unfold cutS
  rw [txt_len, HT.sIx_nat, HT.sIx_nat, Nat.min_eq_left hb, Nat.min_eq_left (Nat.le_trans ha hb)]
  show (⟨(((l.map code).drop a).take (b - a)).toArray⟩ : Str) = _
  rw [← List.map_drop, ← List.map_take]
  rfl
/-- text[1:-1] -/
theorem cutS_in (x y : Bool) (l : List Bool) : cutS (txt (x :: (l ++ [y]))) (some 1) (some (-1)) = txt l := by
  unfold cutS
  have e1 : (txt (x :: (l ++ [y]))).length = l.length + 2 := by
    rw [txt_len, List.length_cons, List.length_append]
    rfl
  have e2 : HT.sIx (l.length + 2) 0 (some 1) = 1 := by
    rw [show (1 : Int) = ((1 : Nat) : Int) from rfl, HT.sIx_nat]
    omega
  have e3 : HT.sIx (l.length + 2) (l.length + 2) (some (-1)) = l.length + 1 := by
    show (if (-1 : Int) < 0 then ((-1 : Int) + ((l.length + 2 : Nat) : Int)).toNat else min (-1 : Int).toNat (l.length + 2)) = _
    rw [if_pos (by decide)]
    omega
  rw [e1, e2, e3]
  show (⟨((((x :: (l ++ [y])).map code).drop 1).take (l.length + 1 - 1)).toArray⟩ : Str) = _
  rw [← List.map_drop, ← List.map_take, List.drop_succ_cons, List.drop_zero, Nat.add_sub_cancel, List.take_left']
  · rfl
  · rfl
end Hr
/-! ### which error it is -/
namespace Hr
open PySem PySem.Spec PyProof.Rows L2
section
variable {X : Cx}
/-- a call in a try's body -/
theorem pe_cT {k j : Nat} {x : Str} {sp : Sp} {W : WX} {e : Expr} {es : List Expr} {t : TA} {p pos : Pos} (c : Cal X.K X.mg (L2.CX X.prog X.w) X.prog X.w X.base k x [] sp) (hr : Room j X.A) (tk : Takes X W) (ha : PA X (e :: es) t) (hk : k ≤ j := by decide) (hg : Gl X x := by rfl)
    (hdb : (x == ("__debug__" : Str)) = false := by decide) (he : starEach (e :: es) X.env = (false, eval e X.env) :: starEach es X.env := by rfl) (hpl : (backTo pos (starEach es X.env)).any (·.1) = false := by rfl) :
    PE X (.Call (.Name x p) (e :: es) [] pos) (tCallS sp (WE W) t) := by
  obtain ⟨f, fd, ps, ds, F, hm, kp, b, d⟩ := c.ex
  cases d
  exact pe_callS F (hr.mono hk) hg hm kp b (fun σ => passAt tk σ) ha hdb he hpl
end
def errWords : List Str := ["row", "count", "rank", "place", "tree", "pairs", "turn", "text"]
def wordAt (k : Nat) : Str := errWords.getD k ""
theorem errWords_at {i : Nat} (h : i < 8) : (errWords.map V.str)[i]? = some (.str (wordAt i)) := by
  have h' : i < errWords.length := h
  unfold wordAt
  rw [List.getElem?_map, List.getElem?_eq_getElem h', List.getD_eq_getElem?_getD, List.getElem?_eq_getElem h']
  rfl
def flagsOf (k : Nat) : List V := (List.range 8).map fun j => V.bl (decide (j = k))
theorem flags_at {i k : Nat} (h : i < 8) : (flagsOf k)[i]? = some (.bl (decide (i = k))) := by
  unfold flagsOf
  rw [List.getElem?_map, List.getElem?_range h]
  rfl
theorem join_one (y w : Str) : Txt.join y [w] = w := by
  rw [TL.join_eq]
  rfl
/-- an error of the k-th class among the eight at cs -/
structure IsErr (K : PySem.W.Frag) (cs : Nat → Addr) (k : Nat) : Prop where
  lt : k < 8
  c : ExcC K (cs k)
  kit : ∀ j, j < 8 → PySem.W.kitOne K (.ref (cs k)) (.ref (cs j)) = some (decide (j = k))
  ve : PySem.W.kitOne K (.ref (cs k)) (.type "ValueError") = some true
theorem ref_only {C : Addr} : ∀ u, RelV (.ref C) u → u = Value.ref C := fun _ h => h
theorem scWord : FnScope ["_law_error", "_law_words", "_law_one", "_law_other", "_law_flags", "_law_word_here", "_law_flag"] ["_law_error"] (defScope sWord) := ⟨rfl, rfl, rfl, by decide +kernel, rfl, by decide +kernel, by decide +kernel⟩
section
variable {P : Program} {w : World} {K : PySem.W.Frag} {mg : Str → Option Value} {base : Heap} {cs : Nat → Addr}
def spWord (K : PySem.W.Frag) (cs : Nat → Addr) : Sp := fun vs H Q _ => ∃ (a : Addr) (k : Nat), vs = [.ref a] ∧ H a = some (ExT (.ref (cs k)) none a) ∧ IsErr K cs k ∧ ∀ H', Same H H' → Q (.str (wordAt k)) H'
theorem cal_word (D : Def K mg "_law_word" sWord ["_law_error"]) (g0 : mg "NoRow" = some (.ref (cs 0))) (g1 : mg "NoCount" = some (.ref (cs 1))) (g2 : mg "NoRank" = some (.ref (cs 2))) (g3 : mg "NoPlace" = some (.ref (cs 3)))
    (g4 : mg "NoTree" = some (.ref (cs 4))) (g5 : mg "NoPairs" = some (.ref (cs 5))) (g6 : mg "NoTurn" = some (.ref (cs 6))) (g7 : mg "NoText" = some (.ref (cs 7))) (misi : mg "isinstance" = none) (mzip : mg "zip" = none) : Cal K mg CX0 P w base 1 "_law_word" [] (spWord K cs) := by
  refine D.cal scWord (fun vs H Q E h => ?_) (fun f cdv A outer s H vs Q E hr h => ?_)
  · obtain ⟨a, k, rfl, _⟩ := h
    rfl
  · obtain ⟨a, k, rfl, ea, er, q⟩ := h
    have nd := scWord.nd
    refine ⟨_, (pss_cons (ps_set (i := 1) nd rfl (.inl rfl) (pe_lst (pa_cons pe_str (pa_cons pe_str (pa_cons pe_str (pa_cons pe_str (pa_cons pe_str (pa_cons pe_str (pa_cons pe_str (pa_cons pe_str pa_nil))))))))))
    (pss_cons (ps_set (i := 2) nd rfl (.inl rfl) (pe_lst (pa_cons (pe_callB call_isT (by rfl) misi (by decide +kernel) (pa_cons (pv 0) (pa_cons (pe_glob (v := .ref (cs 0)) (by rfl) g0 rfl) pa_nil)))
      (pa_cons (pe_callB call_isT (by rfl) misi (by decide +kernel) (pa_cons (pv 0) (pa_cons (pe_glob (v := .ref (cs 1)) (by rfl) g1 rfl) pa_nil)))
      (pa_cons (pe_callB call_isT (by rfl) misi (by decide +kernel) (pa_cons (pv 0) (pa_cons (pe_glob (v := .ref (cs 2)) (by rfl) g2 rfl) pa_nil)))
      (pa_cons (pe_callB call_isT (by rfl) misi (by decide +kernel) (pa_cons (pv 0) (pa_cons (pe_glob (v := .ref (cs 3)) (by rfl) g3 rfl) pa_nil))) pa_nil))))))
    (pss_cons (ps_set (i := 3) nd rfl (.inl rfl) (pe_lst (pa_cons (pe_callB call_isT (by rfl) misi (by decide +kernel) (pa_cons (pv 0) (pa_cons (pe_glob (v := .ref (cs 4)) (by rfl) g4 rfl) pa_nil)))
      (pa_cons (pe_callB call_isT (by rfl) misi (by decide +kernel) (pa_cons (pv 0) (pa_cons (pe_glob (v := .ref (cs 5)) (by rfl) g5 rfl) pa_nil)))
      (pa_cons (pe_callB call_isT (by rfl) misi (by decide +kernel) (pa_cons (pv 0) (pa_cons (pe_glob (v := .ref (cs 6)) (by rfl) g6 rfl) pa_nil))) pa_nil)))))
    (pss_cons (ps_set (i := 4) nd rfl (.inl rfl) (pe_op op_cat (pe_op op_cat (pv 2) (pv 3)) (pe_lst (pa_cons (pe_callB call_isT (by rfl) misi (by decide +kernel) (pa_cons (pv 0) (pa_cons (pe_glob (v := .ref (cs 7)) (by rfl) g7 rfl) pa_nil))) pa_nil))))
    (pss_one (ps_ret (pe_join pe_str (pe_lc (own := [("_law_word_here", 5), ("_law_flag", 6)]) (g := gTup K 2 (gCons (gName 5) (gCons (gName 6) gNil))) rfl nd (pi_zip (by rfl) mzip (pa_cons (pv 1) (pa_cons (pv 4) pa_nil)))
      (blkOk_by (N := ["_law_error", "_law_words", "_law_one", "_law_other", "_law_flags", "_law_word_here", "_law_flag"]) (sc := defScope sWord) (by decide +kernel))
      (fun _ _ _ _ _ => (pg_tup rfl (pgs_cons (pg_name (i := 5) nd rfl (Or.inl rfl) (Or.inr rfl)) (pgs_cons (pg_name (i := 6) nd rfl (Or.inl rfl) (Or.inr rfl)) pgs_nil)))) (fun _ _ _ _ _ => pts_one (pt_val (pv 6))) (fun _ _ _ _ _ => (pv 5)))))))))), ?_⟩
    have S8 : ∀ {n : Nat}, n ≤ 100 → n ≤ sizeLine := fun h => sz (by omega)
    refine ⟨S8 (show 8 ≤ 100 by decide), fun p1 n1 => ?_⟩
    have s1 := same_upd (o := .lst (errWords.map V.str)) n1
    refine ⟨.ref a, rfl, a, cs k, _, _, _, rfl, s1 _ _ ea, er.c, ref_only, er.kit 0 (by decide), .ref a, rfl, a, cs k, _, _, _, rfl, s1 _ _ ea, er.c, ref_only, er.kit 1 (by decide), .ref a, rfl, a, cs k, _, _, _, rfl, s1 _ _ ea, er.c, ref_only, er.kit 2 (by decide), .ref a, rfl, a, cs k, _, _, _, rfl, s1 _ _ ea, er.c, ref_only, er.kit 3 (by decide), S8 (show 4 ≤ 100 by decide), fun p2 n2 => ?_⟩
    have e12 : p1 ≠ p2 := ne_of_none upd_same n2
    have s2 := s1.trans (same_upd (o := .lst [.bl (decide (0 = k)), .bl (decide (1 = k)), .bl (decide (2 = k)), .bl (decide (3 = k))]) n2)
    refine ⟨.ref a, rfl, a, cs k, _, _, _, rfl, s2 _ _ ea, er.c, ref_only, er.kit 4 (by decide), .ref a, rfl, a, cs k, _, _, _, rfl, s2 _ _ ea, er.c, ref_only, er.kit 5 (by decide), .ref a, rfl, a, cs k, _, _, _, rfl, s2 _ _ ea, er.c, ref_only, er.kit 6 (by decide), S8 (show 3 ≤ 100 by decide), fun p3 n3 => ?_⟩
    have e23 : p2 ≠ p3 := ne_of_none upd_same n3
    have e13 : p1 ≠ p3 := ne_of_none (by rw [upd_ne e12]; exact upd_same) n3
    have s3 := s2.trans (same_upd (o := .lst [.bl (decide (4 = k)), .bl (decide (5 = k)), .bl (decide (6 = k))]) n3)
    refine ⟨.ref p2, rfl, .ref p3, rfl, p2, p3, _, _, rfl, rfl, (upd_ne e23).trans upd_same, upd_same, S8 (show 7 ≤ 100 by decide), fun p4 n4 => ?_⟩
    have e14 : p1 ≠ p4 := ne_of_none (by rw [upd_ne e13, upd_ne e12]; exact upd_same) n4
    have s4 := s3.trans (same_upd (o := .lst ([.bl (decide (0 = k)), .bl (decide (1 = k)), .bl (decide (2 = k)), .bl (decide (3 = k))] ++ [.bl (decide (4 = k)), .bl (decide (5 = k)), .bl (decide (6 = k))])) n4)
    refine ⟨.ref a, rfl, a, cs k, _, _, _, rfl, s4 _ _ ea, er.c, ref_only, er.kit 7 (by decide), S8 (show 1 ≤ 100 by decide), fun p5 n5 => ?_⟩
    have e15 : p1 ≠ p5 := ne_of_none (by rw [upd_ne e14, upd_ne e13, upd_ne e12]; exact upd_same) n5
    have e45 : p4 ≠ p5 := ne_of_none upd_same n5
    have s5 := s4.trans (same_upd (o := .lst [.bl (decide (7 = k))]) n5)
    refine ⟨p4, p5, _, _, rfl, rfl, (upd_ne e45).trans upd_same, upd_same, S8 (show 8 ≤ 100 by decide), fun p6 n6 => ?_⟩
    have s6 := s5.trans (same_upd (o := .lst (flagsOf k)) n6)
    have e16 : p1 ≠ p6 := ne_of_none (by rw [upd_ne e15, upd_ne e14, upd_ne e13, upd_ne e12]; exact upd_same) n6
    have w6 : ∀ o, upd (upd (upd (upd (upd (upd H p1 (.lst (errWords.map V.str))) p2 (.lst [.bl (decide (0 = k)), .bl (decide (1 = k)), .bl (decide (2 = k)), .bl (decide (3 = k))])) p3 (.lst [.bl (decide (4 = k)), .bl (decide (5 = k)), .bl (decide (6 = k))]))
        p4 (.lst ([.bl (decide (0 = k)), .bl (decide (1 = k)), .bl (decide (2 = k)), .bl (decide (3 = k))] ++ [.bl (decide (4 = k)), .bl (decide (5 = k)), .bl (decide (6 = k))]))) p5 (.lst [.bl (decide (7 = k))])) p6 o p1 = some (.lst (errWords.map V.str)) := fun o => by
      rw [upd_ne e16, upd_ne e15, upd_ne e14, upd_ne e13, upd_ne e12]
      exact upd_same
    refine ⟨⟨_, rfl⟩, .ref p1, rfl, .ref p6, rfl, p1, p6, errWords.map V.str, flagsOf k, rfl, .inl (.inl (w6 _)), .inl (.inl upd_same), fun D nD => ?_⟩
    have w6 := w6 (.lst (flagsOf k))
    have s6 : Same H (upd (upd (upd (upd (upd (upd H p1 (.lst (errWords.map V.str))) p2 (.lst [.bl (decide (0 = k)), .bl (decide (1 = k)), .bl (decide (2 = k)), .bl (decide (3 = k))])) p3 (.lst [.bl (decide (4 = k)), .bl (decide (5 = k)), .bl (decide (6 = k))]))
        p4 (.lst ([.bl (decide (0 = k)), .bl (decide (1 = k)), .bl (decide (2 = k)), .bl (decide (3 = k))] ++ [.bl (decide (4 = k)), .bl (decide (5 = k)), .bl (decide (6 = k))]))) p5 (.lst [.bl (decide (7 = k))])) p6 (.lst (flagsOf k))) := s6
    have f6 : upd (upd (upd (upd (upd (upd H p1 (.lst (errWords.map V.str))) p2 (.lst [.bl (decide (0 = k)), .bl (decide (1 = k)), .bl (decide (2 = k)), .bl (decide (3 = k))])) p3 (.lst [.bl (decide (4 = k)), .bl (decide (5 = k)), .bl (decide (6 = k))]))
        p4 (.lst ([.bl (decide (0 = k)), .bl (decide (1 = k)), .bl (decide (2 = k)), .bl (decide (3 = k))] ++ [.bl (decide (4 = k)), .bl (decide (5 = k)), .bl (decide (6 = k))]))) p5 (.lst [.bl (decide (7 = k))])) p6 (.lst (flagsOf k)) p6 = some (.lst (flagsOf k)) := upd_same
    refine lc_it (walk_zip (K := K) (a := p1) (b := p6) (xs := errWords.map V.str) (ys := flagsOf k) (n := 8) rfl) (fun i H' => Same H H' ∧ H' p1 = some (.lst (errWords.map V.str)) ∧ H' p6 = some (.lst (flagsOf k)) ∧ H' D = some (.lst (if k < i then [V.str (wordAt k)] else []))) ?_ ?_ ?_ ?_
    · have nD' := nD
      refine ⟨same_updN s6 (s6.free nD), ?_, ?_, ?_⟩
      · rw [upd_ne (ne_of_none w6 nD)]
        exact w6
      · rw [upd_ne (ne_of_none f6 nD)]
        exact f6
      · rw [upd_same, if_neg (Nat.not_lt_zero _)]
    · rintro i H' _ ⟨_, h1, h2, _⟩
      exact ⟨.inl (.inl h1), .inl (.inl h2)⟩
    · rintro i x H1 H2 hi ⟨sm, h1, h2, hD⟩ ⟨T, u, v, rfl, nT, rfl, eu, ev⟩
      have eu : u = .str (wordAt i) := by
        have : (errWords.map V.str)[i]? = some u := eu
        rw [errWords_at hi] at this
        exact (Option.some.inj this).symm
      have ev : v = .bl (decide (i = k)) := by
        have : (flagsOf k)[i]? = some v := ev
        rw [flags_at hi] at this
        exact (Option.some.inj this).symm
      subst eu ev
      have st := same_upd (o := .tup [.str (wordAt i), .bl (decide (i = k))]) nT
      refine ⟨T, _, rfl, .inl (.inl upd_same), rfl, _, _, rfl, _, _, rfl, rfl, rfl, ?_⟩
      refine ⟨_, rfl, decide (i = k), rfl, ?_⟩
      have g1 := st _ _ h1
      have g2 := st _ _ h2
      have gD := st _ _ hD
      have sT := sm.trans st
      generalize upd H1 T (.tup [.str (wordAt i), .bl (decide (i = k))]) = H3 at g1 g2 gD sT ⊢
      have nD0 : H D = none := s6.free nD
      have d1 : p1 ≠ D := ne_of_none w6 nD
      have d6 : p6 ≠ D := ne_of_none f6 nD
      by_cases hk : i = k
      · rw [decide_eq_true hk]
        refine iteT ?_
        rw [if_neg (by omega)] at gD
        refine ⟨_, rfl, [], gD, szl (show 0 < 1000000 by decide), same_updN sT nD0, by rw [upd_ne d1]; exact g1, by rw [upd_ne d6]; exact g2, ?_⟩
        rw [upd_same, if_pos (by omega), hk]
        rfl
      · rw [decide_eq_false hk]
        refine iteF ?_
        refine ⟨sT, g1, g2, ?_⟩
        rw [gD]
        by_cases h : k < i
        · rw [if_pos h, if_pos (by omega)]
        · rw [if_neg h, if_neg (by omega)]
    · rintro H1 ⟨sm, h1, h2, hD⟩
      rw [if_pos er.lt] at hD
      refine ⟨_, D, [wordAt k], rfl, rfl, .inl (.inl (.inl hD)), ?_, ?_⟩
      · show ((wordAt k).length + 0) + 1 * _ ≤ 16777216
        have : (wordAt k).length ≤ 5 := by
          have hk := er.lt
          have : ∀ k, k < 8 → (wordAt k).length ≤ 5 := by decide +kernel
          exact this k hk
        have e1 : (" " : Str).length = 1 := by decide +kernel
        rw [e1]
        omega
      · rw [join_one]
        exact q H1 sm
end
end Hr
namespace Hr
open PySem PySem.Spec PyProof.Rows L2
theorem sgn_sum : ∀ l : List Bool, ((l.map sgn).map (·.length)).sum = l.length
  | [] => rfl
  | b :: r => by
    rw [List.map_cons, List.map_cons, List.sum_cons, sgn_sum r, List.length_cons]
    show 1 + _ = _
    omega
theorem join_signs (l : List Bool) : Txt.join ("" : Str) (l.map sgn) = txt l := by
  have h := SX.join_S [] (l.map fun b => [code b])
  have e1 : (l.map fun b => [code b]).map SX.S = l.map sgn := by
    rw [List.map_map]
    rfl
  rw [e1] at h
  have e2 : ∀ l : List Bool, TL.joinL [] (l.map fun b => [code b]) = l.map code := by
    intro l
    induction l with
    | nil => rfl
    | cons b l ih =>
      cases l with
      | nil => rfl
      | cons b2 l =>
        show [code b] ++ ([] ++ TL.joinL [] ((b2 :: l).map fun b => [code b])) = _
        rw [ih]
        rfl
  rw [e2] at h
  rw [eE]
  exact h
end Hr
/-! ### lists as data -/
namespace Hr
open PySem PySem.Spec PyProof.Rows L2
section
variable {K : PySem.W.Frag} {H : Hp}
theorem dp_ints : ∀ ns : List Int, DpAll K H (ns.map V.int) (ns.map PyData.int)
  | [] => .nil
  | n :: r => .cons (.int n) (dp_ints r)
theorem dp_strs : ∀ xs : List Str, DpAll K H (xs.map V.str) (xs.map PyData.str)
  | [] => .nil
  | x :: r => .cons (.str x) (dp_strs r)
end
theorem lay_ints : ∀ ns : List Int, PyData.canLayAll0 (ns.map PyData.int) = true
  | [] => rfl
  | n :: r => by
    show (true && PyData.canLayAll0 (r.map PyData.int)) = true
    rw [lay_ints r]
    rfl
theorem dep_ints : ∀ ns : List Int, PyData.depthAll (ns.map PyData.int) = 0
  | [] => rfl
  | n :: r => by
    show max 0 (PyData.depthAll (r.map PyData.int)) = 0
    rw [dep_ints r]
    rfl
theorem lay_txts : ∀ ls : List (List Bool), PyData.canLayAll0 ((ls.map txt).map PyData.str) = true
  | [] => rfl
  | l :: r => by
    show (PyData.strOk (txt l) && PyData.canLayAll0 ((r.map txt).map PyData.str)) = true
    rw [lay_txts r, Bool.and_true]
    show (l.map code).toArray.all (· < 0x110000) = true
    rw [List.all_toArray, List.all_eq_true]
    intro c hc
    obtain ⟨b, _, rfl⟩ := List.mem_map.mp hc
    cases b <;> rfl
theorem dep_strs : ∀ xs : List Str, PyData.depthAll (xs.map PyData.str) = 0
  | [] => rfl
  | n :: r => by
    show max 0 (PyData.depthAll (r.map PyData.str)) = 0
    rw [dep_strs r]
    rfl
theorem sh_ints (ns : List Int) : SeqAt.shaped (.list (ns.map PyData.int)) = true := by
  show (PyData.canLayAll0 (ns.map PyData.int) && decide (PyData.depthAll (ns.map PyData.int) + 1 ≤ 64)) = true
  rw [lay_ints, dep_ints]
  rfl
theorem sh_txts (ls : List (List Bool)) : SeqAt.shaped (.list ((ls.map txt).map PyData.str)) = true := by
  show (PyData.canLayAll0 ((ls.map txt).map PyData.str) && decide (PyData.depthAll ((ls.map txt).map PyData.str) + 1 ≤ 64)) = true
  rw [lay_txts, dep_strs]
  rfl
end Hr
namespace Hr
open PySem PySem.Spec PyProof.Rows L2
theorem scNumber : FnScope ["_law_script", "_law_k"] ["_law_script", "_law_k"] (defScope sNumber) := ⟨rfl, rfl, rfl, by decide +kernel, rfl, by decide +kernel, by decide +kernel⟩
section
variable {P : Program} {w : World} {K : PySem.W.Frag} {mg : Str → Option Value} {base : Heap}
def spNumber (K : PySem.W.Frag) : Sp := fun vs H Q _ => ∃ (a : Addr) (ns : List Int) (k : Nat), vs = [.ref a, .int (k : Int)] ∧ SqL K H a (ns.map V.int) ∧ Q (.int (mixed (ns.getD k 0) k)) H
theorem cal_number (D : Def K mg "_law_number" sNumber ["_law_script", "_law_k"]) (C : Cal K mg CX0 P w base 1 "_law_mixed" [] spMixed) (mlen : mg "len" = none) : Cal K mg CX0 P w base 2 "_law_number" [] (spNumber K) := by
  refine D.cal scNumber (fun vs H Q E h => ?_) (fun f cdv A outer s H vs Q E hr h => ?_)
  · obtain ⟨a, ns, k, rfl, _⟩ := h
    rfl
  · obtain ⟨a, ns, k, rfl, hS, q⟩ := h
    refine ⟨_, pss_one (ps_ret (pe_c C hr (pa_cons (pe_ifExp (pt_cmpR op_lt (pv 1) (pe_callB call_len_seq (by rfl) mlen PySem.boot_len (pa_cons (pv 0) pa_nil)) (nomark _)) (pe_ix ix_list (pv 0) (pv 1) (fun _ _ => rfl)) pe_int) (pa_cons (pv 1) pa_nil)))), ?_⟩
    refine ⟨.int (k : Int), rfl, .ref a, rfl, a, _, rfl, .inl hS, _, _, rfl, rfl, _, rfl, ite2 (fun e => ?_) (fun e => ?_)⟩
    · have hk : k < ns.length := by
        have := of_decide_eq_true e
        rw [List.length_map] at this
        omega
      refine ⟨.ref a, rfl, .int (k : Int), rfl, a, _, _, .int (ns.getD k 0), rfl, rfl, hS, atI_nat ?_, .int (k : Int), rfl, _, _, rfl, q⟩
      rw [List.getElem?_map, List.getElem?_eq_getElem hk, List.getD_eq_getElem?_getD, List.getElem?_eq_getElem hk]
      rfl
    · have hk : ns.length ≤ k := by
        have : ¬ (k : Int) < ((ns.map V.int).length : Int) := fun z => e (decide_eq_true z)
        rw [List.length_map] at this
        omega
      refine ⟨.int (k : Int), rfl, 0, (k : Int), rfl, ?_⟩
      rw [List.getD_eq_getElem?_getD, List.getElem?_eq_none hk] at q
      exact q
end
end Hr
/-! ### how often a sign stands in a text; a sign so many times -/
namespace Hr
open PySem PySem.Spec PyProof.Rows L2
open PySem.Builtin PySem.Builtin.Str in
theorem occ_run (x : Str) (c : Nat) : ∀ (m a : Nat) (acc : Array Nat) (free : Nat), a + m = x.length + 1 → free ≤ a → acc.size ≤ a →
    (forIn (List.range' a m) (acc, free) (StrLaws.occBody x ⟨#[c]⟩ x.length (x.length + 1))).run.fst.size = acc.size + ((x.cps.toList.drop a).filter fun k => k == c).length
  | 0, a, acc, free, e, _, _ => by
    have : x.cps.toList.drop a = [] := List.drop_eq_nil_of_le (by
      have : x.cps.toList.length = x.length := rfl
      omega)
    rw [this]
    rfl
  | m + 1, a, acc, free, e, hf, hs => by
    rw [List.range'_succ, List.forIn_cons]
    unfold StrLaws.occBody
    by_cases hc : x.cps.toList[a]? = some c
    · obtain ⟨h1, h2⟩ := (StrLaws.subAt_one x c a).mpr hc
      rw [if_pos ⟨⟨⟨(show acc.size < x.length + 1 by omega), hf⟩, h1⟩, h2⟩]
      have ih := occ_run x c m (a + 1) (acc.push a) (a + (⟨#[c]⟩ : Str).length) (by omega) (Nat.le_refl _) (by rw [Array.size_push]; omega)
      have hlt : a < x.cps.toList.length := (List.getElem?_eq_some_iff.mp hc).1
      rw [List.drop_eq_getElem_cons hlt, List.filter_cons_of_pos (by rw [(List.getElem?_eq_some_iff.mp hc).2]; simp), List.length_cons]
      rw [Array.size_push] at ih
      exact ih.trans (by omega)
    · rw [if_neg (fun z => hc ((StrLaws.subAt_one x c a).mp ⟨z.1.2, z.2⟩))]
      have ih := occ_run x c m (a + 1) acc free (by omega) (by omega) (by omega)
      have hd : ((x.cps.toList.drop a).filter fun k => k == c).length = ((x.cps.toList.drop (a + 1)).filter fun k => k == c).length := by
        by_cases hlt : a < x.cps.toList.length
        · rw [List.drop_eq_getElem_cons hlt, List.filter_cons_of_neg (by
            intro z
            have z : x.cps.toList[a] = c := by simpa using z
            exact hc (by rw [List.getElem?_eq_getElem hlt, z]))]
        · rw [List.drop_eq_nil_of_le (by omega), List.drop_eq_nil_of_le (by omega)]
      rw [hd]
      exact ih
theorem count_one (x : Str) (c : Nat) : Txt.count x ⟨#[c]⟩ = ((x.cps.toList.filter fun k => k == c).length : Nat) := by
  have h := occ_run x c (x.length + 1) 0 #[] 0 (by omega) (Nat.le_refl _) (Nat.le_refl _)
  show (((Builtin.Str.occurrences x ⟨#[c]⟩ 0 x.length (x.length + 1)).length : Nat) : Int) = _
  rw [StrLaws.occ_eq, Array.length_toList]
  rw [show x.length + 1 - 0 = x.length + 1 from rfl]
  have h2 : ((#[] : Array Nat).size + ((x.cps.toList.drop 0).filter fun k => k == c).length) = (x.cps.toList.filter fun k => k == c).length := by
    rw [List.drop_zero]
    exact Nat.zero_add _
  exact congrArg (fun n : Nat => (n : Int)) (h.trans h2)
theorem count_u (l : List Bool) : Txt.count (txt l) ("u" : Str) = ((l.filter id).length : Nat) := by
  rw [eU, count_one]
  show ((((l.map code).filter fun k => k == 117).length : Nat) : Int) = _
  rw [List.filter_map, List.length_map]
  congr 2
  refine List.filter_congr fun b _ => ?_
  cases b <;> rfl
theorem rep_txt (b : Bool) : ∀ k, (⟨(List.replicate k (sgn b).cps).foldl (· ++ ·) #[]⟩ : Str) = txt (List.replicate k b)
  | k => by
    have h : ∀ (k : Nat) (acc : Array Nat), (List.replicate k (sgn b).cps).foldl (· ++ ·) acc = acc ++ (List.replicate k (code b)).toArray := by
      intro k
      induction k with
      | zero => intro acc; simp
      | succ k ih =>
        intro acc
        rw [List.replicate_succ, List.foldl_cons, ih, List.replicate_succ]
        apply Array.ext'
        show (acc ++ #[code b] ++ (List.replicate k (code b)).toArray).toList = (acc ++ (code b :: List.replicate k (code b)).toArray).toList
        rw [Array.toList_append, Array.toList_append, Array.toList_append, List.append_assoc]
        rfl
    rw [h]
    unfold txt
    rw [List.map_replicate]
    simp
theorem op_mul_sgn {X : Cx} : OpR X (binaryOp .Mult) (fun x y H Q => ∃ (b : Bool) (k : Nat), x = .str (sgn b) ∧ y = .int (k : Int) ∧ k ≤ 1000 ∧ Q (.str (txt (List.replicate k b))) H) := by
  intro pins s σ H x y v u Q I rx ry h
  obtain ⟨b, k, rfl, rfl, hk, q⟩ := h
  obtain ⟨t, rfl⟩ := rx
  obtain ⟨t', rfl⟩ := ry
  have hz : ((sgn b).length : Int) = 1 := rfl
  refine PySem.P.mul_str ?_ (fun h1 _ => ?_) (fun h1 _ => ?_) ?_
  · rw [decide_eq_false (by omega), decide_eq_false (by omega)]
    rfl
  · rw [hz]
    have h3 : (1 : Int) ≤ (2 ^ 63 - 1) / (k : Int) := by
      refine (Int.le_ediv_iff_mul_le (by omega)).mpr ?_
      omega
    omega
  · rw [Int.toNat_natCast]
    show decide (sizeLine < 1 * k) = false
    exact decide_eq_false (by have := sz (show k ≤ 1000000 by omega); omega)
  · by_cases h1 : (k : Int) < 1
    · rw [if_pos h1]
      have e0 : k = 0 := by omega
      subst e0
      exact ⟨by decide, .str (txt []), H, I.tok _, ⟨_, rfl⟩, q⟩
    · rw [if_neg h1]
      by_cases h2 : ((k : Int) == 1 || (sgn b).length == 0) = true
      · rw [if_pos h2]
        have e1 : k = 1 := by
          have : (sgn b).length = 1 := rfl
          rw [this] at h2
          simp at h2
          omega
        subst e1
        exact ⟨.str (sgn b), H, I, ⟨_, rfl⟩, q⟩
      · rw [if_neg h2, Int.toNat_natCast, rep_txt]
        refine ⟨?_, .str (txt (List.replicate k b)), H, I.tok _, ⟨_, rfl⟩, q⟩
        rw [txt_len, List.length_replicate]
        exact sz (by omega)
end Hr
/-! ### the law's own hill row -/
namespace Hr
open PySem PySem.Spec PyProof.Rows L2
theorem scLRow : FnScope ["_law_script", "_law_ceiling", "_law_ups", "_law_row_here", "_law_height", "_law_k", "_law_mark"] ["_law_script", "_law_ceiling"] (defScope sLRow) := ⟨rfl, rfl, rfl, by decide +kernel, rfl, by decide +kernel, by decide +kernel⟩
theorem cut_map (ns : List Int) (lo hi : Option Int) : ∃ ms : List Int, cutV (ns.map V.int) lo hi = ms.map V.int := by
  unfold cutV
  exact ⟨_, by rw [← List.map_drop, ← List.map_take]⟩
theorem eqv_nil : ∀ ns : List Int, PyData.eqv (.list (ns.map PyData.int)) (.list []) = decide (ns = [])
  | [] => rfl
  | _ :: _ => rfl
/-- a ceiling that is not 0 -/
def cPos : Option Nat → Prop
  | none => True
  | some k => 1 ≤ k
section
variable {P : Program} {w : World} {K : PySem.W.Frag} {mg : Str → Option Value} {base : Heap}
def spLRow (K : PySem.W.Frag) : Sp := fun vs H Q _ => ∃ (a : Addr) (ns : List Int) (c : Option Nat), vs = [.ref a, cV c] ∧ SqL K H a (ns.map V.int) ∧ ns.length ≤ 63 ∧ cPos c ∧ ∀ H' l n, Same H H' → Hill c n l → n ≤ 60 → Q (.str (txt l)) H'
theorem cal_lrow (D : Def K mg "_law_row" sLRow ["_law_script", "_law_ceiling"]) (C : Cal K mg CX0 P w base 1 "_law_mixed" [] spMixed) (mlen : mg "len" = none) (mmin : mg "min" = none) (mmax : mg "max" = none) (msum : mg "sum" = none) (mrange : mg "range" = none) : Cal K mg CX0 P w base 2 "_law_row" [] (spLRow K) := by
  refine D.cal scLRow (fun vs H Q E h => ?_) (fun f cdv A outer s H vs Q E hr h => ?_)
  · obtain ⟨a, ns, c, rfl, _⟩ := h
    rfl
  · obtain ⟨a, ns, c, rfl, hS, hlen, hcp, q⟩ := h
    have nd := scLRow.nd
    refine ⟨_, pss_cons (ps_set (i := 2) nd rfl (.inl rfl) (pe_callB (call_min2 rfl) (by rfl) mmin boot_min (pa_cons pe_int (pa_cons (pe_callB (call_max2 rfl) (by rfl) mmax boot_max (pa_cons (pe_op op_fdiv (pe_callB call_len_seq (by rfl) mlen PySem.boot_len (pa_cons (pv 0) pa_nil)) pe_int)
        (pa_cons (pe_op op_mod (pe_op op_fdiv (pe_c C hr (pa_cons (pe_callB (cr_sum rfl) (by rfl) msum (by decide +kernel) (pa_cons (pe_slice sl_list (pv 0) po_none (po_some pe_int)) pa_nil)) (pa_cons (pe_callB call_len_seq (by rfl) mlen PySem.boot_len (pa_cons (pv 0) pa_nil)) pa_nil))) pe_int) pe_int) pa_nil))) pa_nil))))
      (pss_cons (ps_set (i := 3) nd rfl (.inl rfl) pe_str) (pss_cons (ps_set (i := 4) nd rfl (.inl rfl) pe_int)
      (pss_cons (ps_for PassesOwn.never rfl (pi_range1 (by rfl) mrange (pa_cons (pe_op op_mul pe_int (pv 2)) pa_nil)) (pg_name (i := 5) nd rfl (.inl rfl))
        (pss_cons (ps_set (i := 6) nd rfl (.inl rfl) (pe_c C hr (pa_cons (pe_ifExp (pt_cmpR (op_neD hr.units) (pv 0) (pe_lst pa_nil) (nomark _)) (pe_ix ix_list (pv 0) (pe_op op_mod (pv 5) (pe_callB call_len_seq (by rfl) mlen PySem.boot_len (pa_cons (pv 0) pa_nil))) (fun _ _ => rfl)) pe_int) (pa_cons (pv 5) pa_nil))))
        (pss_one (ps_if (PW.pt (pw_or (pt_cmpR op_eq (pv 4) pe_int (nomark _)) (pw_or1 (PW.pt (pw_and (pt_cmpR op_lt (pe_m1 PySem.F.slot_str_count PySem.F.type_str_count mt_count (pv 3) pe_str) (pv 2) (nomark _)) (pw_and (pt_cmpR op_ne (pv 4) (pv 1) (nomark _)) (pw_and1 (pt_cmpR op_gt (pe_op op_mod (pv 6) pe_int) pe_int (nomark _)))))))))
          (pss_cons (ps_set (i := 3) nd rfl (.inl rfl) (pe_op op_add_str (pv 3) pe_str)) (pss_one (ps_set (i := 4) nd rfl (.inl rfl) (pe_op op_add (pv 4) pe_int))))
          (pss_cons (ps_set (i := 3) nd rfl (.inl rfl) (pe_op op_add_str (pv 3) pe_str)) (pss_one (ps_set (i := 4) nd rfl (.inl rfl) (pe_op op_sub (pv 4) pe_int))))))))
      (pss_one (ps_ret (pv 3)))))), ?_⟩
    refine ⟨.ref a, rfl, a, _, rfl, .inl hS, _, 2, rfl, rfl, ⟨by decide, by decide⟩, ?_⟩
    refine ⟨.ref a, rfl, 2, rfl, a, ns.map V.int, rfl, hS, fun p1 n1 => ?_⟩
    obtain ⟨ms, ems⟩ := cut_map ns none (some 2)
    rw [ems]
    have s1 := same_upd (o := .lst (ms.map V.int)) n1
    have S2 : SqL K (upd H p1 (.lst (ms.map V.int))) p1 (ms.map V.int) := .inl (.inl upd_same)
    generalize upd H p1 (.lst (ms.map V.int)) = H1 at s1 S2 ⊢
    refine ⟨p1, ms, rfl, S2, .ref a, rfl, a, _, rfl, .inl (s1.seq hS), _, _, rfl, ?_⟩
    generalize hmx : mixed ms.sum _ = mx
    have hm0 : 0 ≤ mx := hmx ▸ mixed_nonneg _ _
    refine ⟨mx, 7, rfl, rfl, ⟨by decide, by decide⟩, mx / 7, 61, rfl, rfl, (by show (0 : Int) < 61; decide), _, _, rfl, _, _, rfl, ?_⟩
    obtain ⟨u, eu, hu⟩ : ∃ u : Nat, (if (if (mx / 7 % 61 : Int) > ((ns.map V.int).length : Int) / 2 then (mx / 7 % 61 : Int) else ((ns.map V.int).length : Int) / 2) < 60 then (if (mx / 7 % 61 : Int) > ((ns.map V.int).length : Int) / 2 then (mx / 7 % 61 : Int) else ((ns.map V.int).length : Int) / 2) else 60) = (u : Int) ∧ u ≤ 60 := by
      refine ⟨(if (if (mx / 7 % 61 : Int) > ((ns.map V.int).length : Int) / 2 then (mx / 7 % 61 : Int) else ((ns.map V.int).length : Int) / 2) < 60 then (if (mx / 7 % 61 : Int) > ((ns.map V.int).length : Int) / 2 then (mx / 7 % 61 : Int) else ((ns.map V.int).length : Int) / 2) else 60).toNat, ?_, ?_⟩ <;> split <;> split <;> omega
    show gName 2 (V.int (if (if (mx / 7 % 61 : Int) > ((ns.map V.int).length : Int) / 2 then (mx / 7 % 61 : Int) else ((ns.map V.int).length : Int) / 2) < 60 then (if (mx / 7 % 61 : Int) > ((ns.map V.int).length : Int) / 2 then (mx / 7 % 61 : Int) else ((ns.map V.int).length : Int) / 2) else 60)) _ _ _
    rw [eu]
    have hS1 := s1.seq hS
    refine ⟨_, rfl, 2, (u : Int), rfl, rfl, .inl ⟨by decide, by decide⟩, 2 * (u : Int), rfl, by omega, by omega, ?_⟩
    refine for_range (lo := 0) (n := 2 * u) (fun i σ H' => ∃ (z : Str) (hh : Int) (l : List Bool) (h : Nat) (y5 y6 : Option V), σ = [some (.ref a), some (cV c), some (.int (u : Int)), some (.str z), some (.int hh), y5, y6] ∧ Same H H' ∧
      z = txt l ∧ hh = (h : Int) ∧ l.length = i ∧ h + i = 2 * (l.filter id).length ∧ (l.filter id).length ≤ u ∧ (∀ k, c = some k → h ≤ k) ∧ ∀ r, okb c h r = okb c 0 (l ++ r)) ?_ ?_ ?_
    · exact ⟨_, _, [], 0, none, none, rfl, s1, eE, rfl, rfl, rfl, Nat.zero_le _, fun k _ => Nat.zero_le _, fun r => rfl⟩
    · rintro i σ H2 hi ⟨z, hh, l, h, y5, y6, rfl, s2, ez, eh, el, eu2, hu2, hc, ok⟩
      have hS2 := s2.seq hS
      have hz1 : z.length + 1 ≤ sizeLine := sz (by rw [ez, txt_len]; omega)
      -- the mark
      refine ⟨.ref a, rfl, Nat.zero_le _, fun p2 n2 => ?_⟩
      have s3 := same_upd (o := .lst []) n2
      have s2 := s2.trans s3
      have hS2 := s3.seq hS2
      have hE : SqL K (upd H2 p2 (.lst [])) p2 ([] : List V) := .inl (.inl upd_same)
      generalize upd H2 p2 (.lst []) = H3 at s2 hS2 hE ⊢
      refine ⟨.list (ns.map PyData.int), .list [], .lst hS2 (dp_ints ns), .lst hE .nil, sh_ints ns, sh_ints [], _, rfl, ?_⟩
      rw [eqv_nil]
      by_cases hns : ns = []
      · rw [decide_eq_true hns]
        refine iteF ?_
        refine ⟨_, rfl, _, _, rfl, ?_⟩
        generalize mixed 0 _ = mk
        refine ⟨_, rfl, rfl, _, rfl, ite2 (fun e0 => ?_) (fun e0 => ?_)⟩
        · have h0 : h = 0 := by
            have := V.int.inj (of_decide_eq_true e0)
            omega
          have un : ∀ k, c = some k → h < k := fun k hk => by
            rw [hk] at hcp
            have : 1 ≤ k := hcp
            omega
          have ub : under c h = true := by
            cases c with
            | none => rfl
            | some k => exact decide_eq_true (un k rfl)
          refine iteT ?_
          refine ⟨_, rfl, z, "u", rfl, rfl, hz1, ?_⟩
          refine ⟨_, rfl, hh, 1, rfl, rfl, ?_⟩
          exact ⟨_, _, l ++ [true], h + 1, _, _, rfl, s2, by rw [ez, ← txt_append, ← sgn_u]; rfl, by show hh + 1 = _; omega, by rw [List.length_append, el]; rfl, by rw [List.filter_append, List.length_append]; show _ = 2 * (_ + 1); omega, by rw [List.filter_append, List.length_append]; show _ + 1 ≤ u; omega, fun k hk => by have := un k hk; omega, fun r => by
            rw [List.append_assoc]
            show _ = okb c 0 (l ++ (true :: r))
            rw [← ok (true :: r)]
            show _ = (under c h && okb c (h + 1) r)
            rw [ub, Bool.true_and]⟩
        · have h0 : h ≠ 0 := fun zz => e0 (decide_eq_true (by rw [eh, zz]; rfl))
          refine ⟨.str z, rfl, ⟨_, rfl⟩, z, "u", rfl, rfl, .int (u : Int), rfl, _, _, rfl, rfl, _, rfl, ?_⟩
          rw [ez, count_u, ← ez]
          refine ite2 (fun e1 => ?_) (fun e1 => ?_)
          · have u1 : (l.filter id).length < u := by
              have := of_decide_eq_true e1
              omega
            refine ⟨.int hh, rfl, cV c, rfl, by cases c <;> rfl, _, rfl, ite2 (fun e2 => ?_) (fun e2 => ?_)⟩
            · have un : ∀ k, c = some k → h < k := fun k hk => by
                have h1 := hc k hk
                have h2 : ¬ (V.int hh = cV c) := by simpa using e2
                rw [hk] at h2
                have : ¬ hh = (k : Int) := fun zz => h2 (by rw [zz]; rfl)
                omega
              have ub : under c h = true := by
                cases c with
                | none => rfl
                | some k => exact decide_eq_true (un k rfl)
              refine ⟨_, rfl, mk, 5, rfl, rfl, (by show (0 : Int) < 5; decide), _, _, rfl, rfl, _, rfl, ite2 (fun e3 => ?_) (fun e3 => ?_)⟩
              · skip
                refine ⟨_, rfl, z, "u", rfl, rfl, hz1, ?_⟩
                refine ⟨_, rfl, hh, 1, rfl, rfl, ?_⟩
                exact ⟨_, _, l ++ [true], h + 1, _, _, rfl, s2, by rw [ez, ← txt_append, ← sgn_u]; rfl, by show hh + 1 = _; omega, by rw [List.length_append, el]; rfl, by rw [List.filter_append, List.length_append]; show _ = 2 * (_ + 1); omega, by rw [List.filter_append, List.length_append]; show _ + 1 ≤ u; omega, fun k hk => by have := un k hk; omega, fun r => by
                  rw [List.append_assoc]
                  show _ = okb c 0 (l ++ (true :: r))
                  rw [← ok (true :: r)]
                  show _ = (under c h && okb c (h + 1) r)
                  rw [ub, Bool.true_and]⟩
              · skip
                refine ⟨_, rfl, z, "d", rfl, rfl, hz1, ?_⟩
                refine ⟨_, rfl, hh, 1, rfl, rfl, ?_⟩
                exact ⟨_, _, l ++ [false], h - 1, _, _, rfl, s2, by rw [ez, ← txt_append, ← sgn_d]; rfl, by show hh - 1 = _; omega, by rw [List.length_append, el]; rfl, by rw [List.filter_append, List.length_append]; show _ = 2 * (_ + 0); omega, by rw [List.filter_append, List.length_append]; show _ + 0 ≤ u; omega, fun k hk => by have := hc k hk; omega, fun r => by
                  rw [List.append_assoc]
                  show _ = okb c 0 (l ++ (false :: r))
                  rw [← ok (false :: r)]
                  show _ = ((h != 0) && okb c (h - 1) r)
                  rw [show (h != 0) = true by simpa using h0, Bool.true_and]⟩
            · refine iteF ?_
              refine ⟨_, rfl, z, "d", rfl, rfl, hz1, ?_⟩
              refine ⟨_, rfl, hh, 1, rfl, rfl, ?_⟩
              exact ⟨_, _, l ++ [false], h - 1, _, _, rfl, s2, by rw [ez, ← txt_append, ← sgn_d]; rfl, by show hh - 1 = _; omega, by rw [List.length_append, el]; rfl, by rw [List.filter_append, List.length_append]; show _ = 2 * (_ + 0); omega, by rw [List.filter_append, List.length_append]; show _ + 0 ≤ u; omega, fun k hk => by have := hc k hk; omega, fun r => by
                rw [List.append_assoc]
                show _ = okb c 0 (l ++ (false :: r))
                rw [← ok (false :: r)]
                show _ = ((h != 0) && okb c (h - 1) r)
                rw [show (h != 0) = true by simpa using h0, Bool.true_and]⟩
          · refine iteF ?_
            refine ⟨_, rfl, z, "d", rfl, rfl, hz1, ?_⟩
            refine ⟨_, rfl, hh, 1, rfl, rfl, ?_⟩
            exact ⟨_, _, l ++ [false], h - 1, _, _, rfl, s2, by rw [ez, ← txt_append, ← sgn_d]; rfl, by show hh - 1 = _; omega, by rw [List.length_append, el]; rfl, by rw [List.filter_append, List.length_append]; show _ = 2 * (_ + 0); omega, by rw [List.filter_append, List.length_append]; show _ + 0 ≤ u; omega, fun k hk => by have := hc k hk; omega, fun r => by
              rw [List.append_assoc]
              show _ = okb c 0 (l ++ (false :: r))
              rw [← ok (false :: r)]
              show _ = ((h != 0) && okb c (h - 1) r)
              rw [show (h != 0) = true by simpa using h0, Bool.true_and]⟩
      · rw [decide_eq_false hns]
        refine iteT ?_
        have hpos : 0 < ns.length := List.length_pos_iff.mpr hns
        have hml : (ns.map V.int).length = ns.length := List.length_map ..
        obtain ⟨j, ej, hj⟩ : ∃ j : Nat, (0 + (i : Int)) % ((ns.map V.int).length : Int) = (j : Int) ∧ j < ns.length := by
          have h1 := Int.emod_nonneg (0 + (i : Int)) (show ((ns.map V.int).length : Int) ≠ 0 by omega)
          have h2 := Int.emod_lt_of_pos (0 + (i : Int)) (show 0 < ((ns.map V.int).length : Int) by omega)
          exact ⟨((0 + (i : Int)) % ((ns.map V.int).length : Int)).toNat, by omega, by omega⟩
        refine ⟨.ref a, rfl, _, rfl, .ref a, rfl, a, _, rfl, .inl hS2, _, _, rfl, rfl, (by show (0 : Int) < ((ns.map V.int).length : Int); omega), a, _, _, .int ns[j], rfl, rfl, hS2, at_of ej (by rw [List.getElem?_map, List.getElem?_eq_getElem hj]; rfl), ?_⟩
        refine ⟨_, rfl, _, _, rfl, ?_⟩
        generalize mixed ns[j] _ = mk
        refine ⟨_, rfl, rfl, _, rfl, ite2 (fun e0 => ?_) (fun e0 => ?_)⟩
        · have h0 : h = 0 := by
            have := V.int.inj (of_decide_eq_true e0)
            omega
          have un : ∀ k, c = some k → h < k := fun k hk => by
            rw [hk] at hcp
            have : 1 ≤ k := hcp
            omega
          have ub : under c h = true := by
            cases c with
            | none => rfl
            | some k => exact decide_eq_true (un k rfl)
          refine iteT ?_
          refine ⟨_, rfl, z, "u", rfl, rfl, hz1, ?_⟩
          refine ⟨_, rfl, hh, 1, rfl, rfl, ?_⟩
          exact ⟨_, _, l ++ [true], h + 1, _, _, rfl, s2, by rw [ez, ← txt_append, ← sgn_u]; rfl, by show hh + 1 = _; omega, by rw [List.length_append, el]; rfl, by rw [List.filter_append, List.length_append]; show _ = 2 * (_ + 1); omega, by rw [List.filter_append, List.length_append]; show _ + 1 ≤ u; omega, fun k hk => by have := un k hk; omega, fun r => by
            rw [List.append_assoc]
            show _ = okb c 0 (l ++ (true :: r))
            rw [← ok (true :: r)]
            show _ = (under c h && okb c (h + 1) r)
            rw [ub, Bool.true_and]⟩
        · have h0 : h ≠ 0 := fun zz => e0 (decide_eq_true (by rw [eh, zz]; rfl))
          refine ⟨.str z, rfl, ⟨_, rfl⟩, z, "u", rfl, rfl, .int (u : Int), rfl, _, _, rfl, rfl, _, rfl, ?_⟩
          rw [ez, count_u, ← ez]
          refine ite2 (fun e1 => ?_) (fun e1 => ?_)
          · have u1 : (l.filter id).length < u := by
              have := of_decide_eq_true e1
              omega
            refine ⟨.int hh, rfl, cV c, rfl, by cases c <;> rfl, _, rfl, ite2 (fun e2 => ?_) (fun e2 => ?_)⟩
            · have un : ∀ k, c = some k → h < k := fun k hk => by
                have h1 := hc k hk
                have h2 : ¬ (V.int hh = cV c) := by simpa using e2
                rw [hk] at h2
                have : ¬ hh = (k : Int) := fun zz => h2 (by rw [zz]; rfl)
                omega
              have ub : under c h = true := by
                cases c with
                | none => rfl
                | some k => exact decide_eq_true (un k rfl)
              refine ⟨_, rfl, mk, 5, rfl, rfl, (by show (0 : Int) < 5; decide), _, _, rfl, rfl, _, rfl, ite2 (fun e3 => ?_) (fun e3 => ?_)⟩
              · skip
                refine ⟨_, rfl, z, "u", rfl, rfl, hz1, ?_⟩
                refine ⟨_, rfl, hh, 1, rfl, rfl, ?_⟩
                exact ⟨_, _, l ++ [true], h + 1, _, _, rfl, s2, by rw [ez, ← txt_append, ← sgn_u]; rfl, by show hh + 1 = _; omega, by rw [List.length_append, el]; rfl, by rw [List.filter_append, List.length_append]; show _ = 2 * (_ + 1); omega, by rw [List.filter_append, List.length_append]; show _ + 1 ≤ u; omega, fun k hk => by have := un k hk; omega, fun r => by
                  rw [List.append_assoc]
                  show _ = okb c 0 (l ++ (true :: r))
                  rw [← ok (true :: r)]
                  show _ = (under c h && okb c (h + 1) r)
                  rw [ub, Bool.true_and]⟩
              · skip
                refine ⟨_, rfl, z, "d", rfl, rfl, hz1, ?_⟩
                refine ⟨_, rfl, hh, 1, rfl, rfl, ?_⟩
                exact ⟨_, _, l ++ [false], h - 1, _, _, rfl, s2, by rw [ez, ← txt_append, ← sgn_d]; rfl, by show hh - 1 = _; omega, by rw [List.length_append, el]; rfl, by rw [List.filter_append, List.length_append]; show _ = 2 * (_ + 0); omega, by rw [List.filter_append, List.length_append]; show _ + 0 ≤ u; omega, fun k hk => by have := hc k hk; omega, fun r => by
                  rw [List.append_assoc]
                  show _ = okb c 0 (l ++ (false :: r))
                  rw [← ok (false :: r)]
                  show _ = ((h != 0) && okb c (h - 1) r)
                  rw [show (h != 0) = true by simpa using h0, Bool.true_and]⟩
            · refine iteF ?_
              refine ⟨_, rfl, z, "d", rfl, rfl, hz1, ?_⟩
              refine ⟨_, rfl, hh, 1, rfl, rfl, ?_⟩
              exact ⟨_, _, l ++ [false], h - 1, _, _, rfl, s2, by rw [ez, ← txt_append, ← sgn_d]; rfl, by show hh - 1 = _; omega, by rw [List.length_append, el]; rfl, by rw [List.filter_append, List.length_append]; show _ = 2 * (_ + 0); omega, by rw [List.filter_append, List.length_append]; show _ + 0 ≤ u; omega, fun k hk => by have := hc k hk; omega, fun r => by
                rw [List.append_assoc]
                show _ = okb c 0 (l ++ (false :: r))
                rw [← ok (false :: r)]
                show _ = ((h != 0) && okb c (h - 1) r)
                rw [show (h != 0) = true by simpa using h0, Bool.true_and]⟩
          · refine iteF ?_
            refine ⟨_, rfl, z, "d", rfl, rfl, hz1, ?_⟩
            refine ⟨_, rfl, hh, 1, rfl, rfl, ?_⟩
            exact ⟨_, _, l ++ [false], h - 1, _, _, rfl, s2, by rw [ez, ← txt_append, ← sgn_d]; rfl, by show hh - 1 = _; omega, by rw [List.length_append, el]; rfl, by rw [List.filter_append, List.length_append]; show _ = 2 * (_ + 0); omega, by rw [List.filter_append, List.length_append]; show _ + 0 ≤ u; omega, fun k hk => by have := hc k hk; omega, fun r => by
              rw [List.append_assoc]
              show _ = okb c 0 (l ++ (false :: r))
              rw [← ok (false :: r)]
              show _ = ((h != 0) && okb c (h - 1) r)
              rw [show (h != 0) = true by simpa using h0, Bool.true_and]⟩
    · rintro σ H2 ⟨z, hh, l, h, y5, y6, rfl, s2, ez, eh, el, eu2, hu2, hc, ok⟩
      refine ⟨_, rfl, ?_⟩
      have h0 : h = 0 := by omega
      have := ok []
      rw [List.append_nil, h0] at this
      rw [ez]
      exact q H2 l u s2 ⟨this.symm, el⟩ hu
end
end Hr
namespace Hr
open PySem PySem.Spec PyProof.Rows L2
/-- the eight classes by their numbers -/
def eight (c0 c1 c2 c3 c4 c5 c6 c7 : Addr) : Nat → Addr
  | 0 => c0 | 1 => c1 | 2 => c2 | 3 => c3 | 4 => c4 | 5 => c5 | 6 => c6 | _ => c7
theorem kit_eight {K : PySem.W.Frag} {t : Value} {k : Nat} {c0 c1 c2 c3 c4 c5 c6 c7 : Addr} (h0 : PySem.W.kitOne K t (.ref c0) = some (decide (0 = k))) (h1 : PySem.W.kitOne K t (.ref c1) = some (decide (1 = k))) (h2 : PySem.W.kitOne K t (.ref c2) = some (decide (2 = k)))
    (h3 : PySem.W.kitOne K t (.ref c3) = some (decide (3 = k))) (h4 : PySem.W.kitOne K t (.ref c4) = some (decide (4 = k))) (h5 : PySem.W.kitOne K t (.ref c5) = some (decide (5 = k))) (h6 : PySem.W.kitOne K t (.ref c6) = some (decide (6 = k))) (h7 : PySem.W.kitOne K t (.ref c7) = some (decide (7 = k))) :
    ∀ j, j < 8 → PySem.W.kitOne K t (.ref (eight c0 c1 c2 c3 c4 c5 c6 c7 j)) = some (decide (j = k))
  | 0, _ => h0 | 1, _ => h1 | 2, _ => h2 | 3, _ => h3 | 4, _ => h4 | 5, _ => h5 | 6, _ => h6 | 7, _ => h7
  | j + 8, h => absurd h (by omega)
end Hr
/-! ### rows that are none; lists and tuples as data -/
namespace Hr
open PySem PySem.Spec PyProof.Rows L2
theorem isRowB_append (a b : Str) : isRowB (a ++ b) = (isRowB a && isRowB b) := by
  show (a ++ b).cps.toList.all isS = _
  rw [show (a ++ b).cps.toList = a.cps.toList ++ b.cps.toList from TL.tl_append a b, List.all_append]
  rfl
theorem okb_any {c : Option Nat} : ∀ {l : List Bool} {h : Nat}, okb c h l = true → okb none h l = true
  | [], _, e => e
  | true :: l, h, e => by
    show (true && okb none (h + 1) l) = true
    rw [Bool.true_and]
    exact okb_any (okb_up e).2
  | false :: l, h, e => by
    obtain ⟨a, b⟩ := okb_down e
    show ((h != 0) && okb none (h - 1) l) = true
    rw [okb_any b, Bool.and_true]
    simpa using a
theorem hill_ext {l : List Bool} (h : okb none 0 l = true) (r : List Bool) : okb none 0 (l ++ r) = okb none 0 r := by
  have := okb_app (r := r) (h := 0) h
  rw [Nat.add_zero] at this
  exact this
theorem eu1 : ("u" : Str) = txt [true] := by decide +kernel
theorem ed1 : ("d" : Str) = txt [false] := by decide +kernel
theorem edu : ("du" : Str) = txt [false, true] := by decide +kernel
theorem eud : ("ud" : Str) = txt [true, false] := by decide +kernel
theorem enil : ("" : Str) = txt [] := by decide +kernel
theorem wrong_u {l : List Bool} (h : okb none 0 l = true) : hillB none (txt l ++ "u") = false := by
  rw [eu1, txt_append, hillB_txt, hill_ext h]
  rfl
theorem wrong_d (l : List Bool) : hillB none ("d" ++ txt l) = false := by
  rw [ed1, txt_append, hillB_txt]
  rfl
theorem wrong_ux (l : List Bool) : hillB none (txt l ++ "ux") = false := by
  unfold hillB
  rw [isRowB_append, show isRowB "ux" = false by decide +kernel, Bool.and_false, Bool.false_and]
theorem wrong_x (l : List Bool) : hillB none (txt l ++ "x") = false := by
  unfold hillB
  rw [isRowB_append, show isRowB "x" = false by decide +kernel, Bool.and_false, Bool.false_and]
theorem wrong_du {l : List Bool} (h : okb none 0 l = true) : hillB none (txt l ++ "du") = false := by
  rw [edu, txt_append, hillB_txt, hill_ext h]
  rfl
theorem row_hillB {l : List Bool} (h : okb none 0 l = true) : hillB none (txt l) = true := (hillB_txt none l).trans h
theorem cut_ints (ns : List Int) (lo hi : Option Int) : ∃ ms : List Int, cutV (ns.map V.int) lo hi = ms.map V.int ∧ ms.length ≤ ns.length := by
  refine ⟨(ns.drop (HT.sIx (ns.map V.int).length 0 lo)).take (HT.sIx (ns.map V.int).length (ns.map V.int).length hi - HT.sIx (ns.map V.int).length 0 lo), ?_, ?_⟩
  · unfold cutV
    rw [List.map_take, List.map_drop]
  · rw [List.length_take, List.length_drop]
    omega
theorem rev_ints (ns : List Int) : (ns.map V.int).reverse = ns.reverse.map V.int := (List.map_reverse ..).symm
theorem same_data {d : PyData} (h : SeqAt.shaped d = true) : PyData.eqv d d = true := SeqAt.eqv_refl d (SeqAt.canLay_of_shaped h)
theorem str_ok (l : List Bool) : PyData.strOk (txt l) = true := by
  show (l.map code).toArray.all (· < 0x110000) = true
  rw [List.all_toArray, List.all_eq_true]
  intro c hc
  obtain ⟨b, _, rfl⟩ := List.mem_map.mp hc
  cases b <;> rfl
theorem sh_pair (x y : List Bool) : SeqAt.shaped (.tuple [.str (txt x), .str (txt y)]) = true := by
  show ((PyData.strOk (txt x) && (PyData.strOk (txt y) && true)) && decide (max 0 (max 0 0) + 1 ≤ 64)) = true
  rw [str_ok, str_ok]
  rfl
theorem sh_nil : SeqAt.shaped (.list []) = true := by decide +kernel
end Hr
/-! ### pairs -/
namespace Hr
open PySem PySem.Spec PyProof.Rows L2
theorem scPairs : FnScope ["row", "places", "begun", "place", "sign", "other"] ["row"] (defScope s_pairs) := ⟨rfl, rfl, rfl, by decide +kernel, rfl, by decide +kernel, by decide +kernel⟩
theorem scOfPairs : FnScope ["places", "row", "place", "other"] ["places"] (defScope s_row_of_pairs) := ⟨rfl, rfl, rfl, by decide +kernel, rfl, by decide +kernel, by decide +kernel⟩
theorem scIsPlaces : FnScope ["places", "last", "place"] ["places"] (defScope s_is_list_of_places) := ⟨rfl, rfl, rfl, by decide +kernel, rfl, by decide +kernel, by decide +kernel⟩
def natsV (zs : List Nat) : List V := zs.map fun i : Nat => V.int (i : Int)
theorem natsV_ints (zs : List Nat) : natsV zs = (zs.map fun i : Nat => (i : Int)).map V.int := by
  unfold natsV
  rw [List.map_map]
  rfl
theorem natsV_snoc (zs : List Nat) (k : Nat) : natsV (zs ++ [k]) = natsV zs ++ [.int (k : Int)] := by
  unfold natsV
  rw [List.map_append]
  rfl
theorem natsV_set (zs : List Nat) (i k : Nat) : (natsV zs).set i (.int (k : Int)) = natsV (zs.set i k) := by
  unfold natsV
  rw [List.map_set]
theorem hill_row8 {z : Str} (h : hillB none z = true) : ∃ l, z = txt l ∧ okb none 0 l = true := by
  obtain ⟨h1, h2⟩ := Bool.and_eq_true_iff.mp h
  exact ⟨signs z, (txt_signs h1).symm, h2⟩
theorem ixN_nat {n j : Nat} (h : j < n) : ixN n (j : Int) = some j := by
  unfold ixN
  rw [if_pos (by omega), if_pos (by omega), Int.toNat_natCast]
theorem zeros_rep (n : Nat) : (List.replicate n [V.int 0]).flatten = natsV (List.replicate n 0) := by
  unfold natsV
  rw [List.map_replicate]
  induction n with
  | zero => rfl
  | succ n ih =>
    rw [List.replicate_succ, List.replicate_succ, List.flatten_cons, ih]
    rfl
section
variable {P : Program} {w : World} {K : PySem.W.Frag} {mg : Str → Option Value} {base : Heap} {CN CP : Addr}
def spPairsX (CN : Addr) : Sp := fun vs H Q E => ∃ z : Str, vs = [.str z] ∧ z.length ≤ 1000 ∧ (∀ l, z = txt l → okb none 0 l = true → ∀ H' p ps, Same H H' → H p = none → PairsOf l ps → H' p = some (.lst (ps.map V.int)) → Q (.ref p) H') ∧ (hillB none z = false → ∀ H', Same H H' → E (.ref CN) none H')
/-- what stands after i signs -/
structure Walked (l : List Bool) (i : Nat) (ps st : List Nat) : Prop where
  len : ps.length = l.length
  sl : (st.length : Int) = hgt l i
  op : ∀ (k j : Nat), st[k]? = some j → Open l i k j
  done : ∀ j y, Pair l j y → y < i → ps[j]? = some y ∧ ps[y]? = some j
theorem Walked.zero (l : List Bool) : Walked l 0 (List.replicate l.length 0) [] :=
  ⟨List.length_replicate, rfl, (fun k j h => by cases h), fun j y _ h => absurd h (Nat.not_lt_zero _)⟩
theorem Walked.up {l : List Bool} {i : Nat} {ps st : List Nat} (h : Walked l i ps st) (hb : l[i]? = some true) : Walked l (i + 1) ps (st ++ [i]) := by
  have e := hgt_succ hb
  have e1 : sg true = 1 := rfl
  refine ⟨h.len, ?_, fun k j hk => ?_, fun j y hp hy => ?_⟩
  · rw [List.length_append, e]
    have := h.sl
    show ((st.length + 1 : Nat) : Int) = _
    omega
  · have hs := h.sl
    by_cases hks : k < st.length
    · rw [List.getElem?_append_left hks] at hk
      obtain ⟨o1, o2, o3⟩ := h.op k j hk
      refine ⟨by omega, o2, fun m h1 h2 => ?_⟩
      by_cases hm : m = i + 1
      · rw [hm, e]
        omega
      · exact o3 m h1 (by omega)
    · rw [List.getElem?_append_right (by omega)] at hk
      have hk0 : k - st.length = 0 := by
        have := (List.getElem?_eq_some_iff.mp hk).1
        have : ([i] : List Nat).length = 1 := rfl
        omega
      rw [hk0] at hk
      have : j = i := (Option.some.inj hk).symm
      subst this
      have hkl : k = st.length := by omega
      refine ⟨by omega, by rw [hkl]; exact hs.symm, fun m h1 h2 => ?_⟩
      have : m = j + 1 := by omega
      rw [this, e, hkl]
      omega
  · by_cases hyi : y = i
    · rw [hyi] at hp
      have := hp.down.symm.trans hb
      cases this
    · exact h.done j y hp (by omega)
theorem Walked.down {l : List Bool} {i : Nat} {ps st : List Nat} (ok : okb none 0 l = true) (h : Walked l i ps st) (hb : l[i]? = some false) :
    ∃ j, st[st.length - 1]? = some j ∧ j < l.length ∧ i < l.length ∧ Walked l (i + 1) ((ps.set i j).set j i) st.dropLast := by
  have hi : i < l.length := (List.getElem?_eq_some_iff.mp hb).1
  have e := hgt_succ hb
  have e1 : sg false = -1 := rfl
  have hs := h.sl
  have h0 := hgt_nonneg ok (i := i + 1)
  have hpos : 0 < st.length := by omega
  have hg : st[st.length - 1]? = some st[st.length - 1] := List.getElem?_eq_getElem (by omega)
  have hdl : st.dropLast.length = st.length - 1 := List.length_dropLast
  generalize st[st.length - 1] = j at hg
  obtain ⟨o1, o2, o3⟩ := h.op _ j hg
  have hP : Pair l j i := ⟨o1, hi, by rw [o2, e]; omega, fun m h1 h2 => by rw [o2]; exact o3 m h1 h2⟩
  refine ⟨j, hg, by omega, hi, ⟨by rw [List.length_set, List.length_set]; exact h.len, by rw [hdl, e]; omega, fun k j' hk => ?_, fun a y hp hy => ?_⟩⟩
  · have hkl : k < st.length - 1 := by
      have := (List.getElem?_eq_some_iff.mp hk).1
      omega
    rw [List.getElem?_dropLast, if_pos hkl] at hk
    obtain ⟨p1, p2, p3⟩ := h.op k j' hk
    refine ⟨by omega, p2, fun m h1 h2 => ?_⟩
    by_cases hm : m = i + 1
    · rw [hm, e]
      omega
    · exact p3 m h1 (by omega)
  · have len := h.len
    by_cases hyi : y = i
    · subst hyi
      have haj : a = j := Mate.uniq (l := l) (x := y) (.inr hp) (.inr hP)
      subst haj
      have hne : a ≠ y := by
        have := hp.1
        omega
      refine ⟨?_, ?_⟩
      · rw [List.getElem?_set_self (by rw [List.length_set]; omega)]
      · rw [List.getElem?_set_ne hne, List.getElem?_set_self (by omega)]
    · obtain ⟨d1, d2⟩ := h.done a y hp (by omega)
      have hay := hp.1
      have n1 : a ≠ j := fun z => hyi (Mate.uniq (l := l) (x := j) (.inl (z ▸ hp)) (.inl hP))
      have n2 : y ≠ j := fun z => by
        rw [z] at hp
        have := hp.down.symm.trans hP.up
        cases this
      refine ⟨?_, ?_⟩
      · rw [List.getElem?_set_ne (Ne.symm n1), List.getElem?_set_ne (by omega)]
        exact d1
      · rw [List.getElem?_set_ne (Ne.symm n2), List.getElem?_set_ne (by omega)]
        exact d2
theorem Walked.all {l : List Bool} {ps st : List Nat} (ok : okb none 0 l = true) (h : Walked l l.length ps st) : PairsOf l (ps.map fun i : Nat => (i : Int)) := by
  refine ⟨ok, by rw [List.length_map]; exact h.len, fun x hx => ?_⟩
  obtain ⟨y, hy⟩ := mate_ex ok hx
  refine ⟨y, ?_, hy⟩
  rw [List.getElem?_map]
  rcases hy with hy | hy
  · rw [(h.done x y hy hy.2.1).1]
    rfl
  · rw [(h.done y x hy hy.2.1).2]
    rfl
theorem cal_pairsX (D : Def K mg "pairs" s_pairs ["row"]) (C : Cal K mg (L2.CX P w) P w base 4 "check_hill" [.non] (spChHillX CN)) (m_len : mg "len" = none) (m_enumerate : mg "enumerate" = none) {t1 : Tok} (c_UP : mg "UP" = some (.str "u" t1)) : Cal K mg (L2.CX P w) P w base 5 "pairs" [] (spPairsX CN) := by
  refine D.calX scPairs (fun vs H Q E h => ?_) (fun f cdv A outer s H vs Q E hr h => ?_)
  · obtain ⟨z, rfl, _⟩ := h
    rfl
  · obtain ⟨z, rfl, hz, q, qe⟩ := h
    have nd := scPairs.nd
    refine ⟨_, (pss_cons (ps_expr (pe_cX C hr (takes_of rfl rfl rfl rfl) (pa_cons (pv 0) pa_nil)))
    (pss_cons (ps_set (i := 1) nd rfl (.inl rfl) (pe_op op_rep (pe_lst (pa_cons pe_int pa_nil)) (pe_callB call_len_str (by rfl) m_len PySem.boot_len (pa_cons (pv 0) pa_nil))))
    (pss_cons (ps_set (i := 2) nd rfl (.inl rfl) (pe_lst pa_nil))
    (pss_cons (ps_for PassesOwn.leaving rfl (pi_es (by rfl) m_enumerate (pa_cons (pv 0) pa_nil)) (pg_tup rfl (pgs_cons (pg_name (i := 3) nd rfl (.inl rfl)) (pgs_cons (pg_name (i := 4) nd rfl (.inl rfl)) pgs_nil))) (pss_one (ps_if (pt_cmpR op_eq (pv 4) (pe_glob (v := .str "u") (by rfl) c_UP ⟨_, rfl⟩) (nomark _)) (pss_one (ps_expr (pe_bm PySem.F.plainAttrs_list PySem.F.slot_list_append PySem.F.type_list_append mt_append (pv 2) (pa_cons (pv 3) pa_nil))))
        (pss_cons (ps_set (i := 5) nd rfl (.inl rfl) (pe_bm0 PySem.F.plainAttrs_list PySem.F.slot_list_pop PySem.F.type_list_pop mt_pop (pv 2)))
        (pss_cons (ps_asg (pv 5) (pg_sub (pv 1) (pv 3) set_list))
        (pss_one (ps_asg (pv 3) (pg_sub (pv 1) (pv 5) set_list))))))))
    (pss_one (ps_ret (pv 1))))))), ?_⟩
    refine ⟨.str z, rfl, z, none, rfl, hz, fun hh H1 s1 => ?_, fun hh => qe hh⟩
    obtain ⟨l, rfl, ok⟩ := hill_row8 hh
    have hzl : (txt l).length = l.length := txt_len l
    have q1 := q l rfl ok
    clear q
    refine ⟨sz (show 1 ≤ 1000000 by decide), fun p0 np0 => ?_⟩
    have s2 := s1.trans (same_upd (o := .lst [.int 0]) np0)
    refine ⟨_, rfl, txt l, rfl, sz (by omega), p0, _, _, rfl, rfl, upd_same, by omega, by omega, sz (by rw [hzl, Int.toNat_natCast]; show 1 * l.length ≤ _; omega), fun p np => ?_⟩
    rw [Int.toNat_natCast, zeros_rep, hzl]
    have s3 := s2.trans (same_upd (o := .lst (natsV (List.replicate l.length 0))) np)
    have n0 : H p = none := s2.free np
    refine ⟨sz (by decide), fun b nb => ?_⟩
    have s4 := same_updN (o := .lst []) s3 (s3.free nb)
    have pb : p ≠ b := ne_of_none upd_same nb
    have hp0 : (upd (upd (upd H1 p0 (.lst [.int 0])) p (.lst (natsV (List.replicate l.length 0)))) b (.lst [])) p = some (.lst (natsV (List.replicate l.length 0))) := by
      rw [upd_ne pb]
      exact upd_same
    have hb0 : (upd (upd (upd H1 p0 (.lst [.int 0])) p (.lst (natsV (List.replicate l.length 0)))) b (.lst [])) b = some (.lst []) := upd_same
    have nb0 : H b = none := s3.free nb
    generalize upd (upd (upd H1 p0 (.lst [.int 0])) p (.lst (natsV (List.replicate l.length 0)))) b (.lst []) = H2 at s4 hp0 hb0 ⊢
    refine ⟨.str (txt l), rfl, txt l, rfl, ?_⟩
    refine for_it walk_es (fun i σ H' => ∃ (y3 y4 y5 : Option V) (ps st : List Nat), σ = [some (.str (txt l)), some (.ref p), some (.ref b), y3, y4, y5] ∧ Same H H' ∧ Walked l i ps st ∧ H' p = some (.lst (natsV ps)) ∧ H' b = some (.lst (natsV st))) ?_ (fun _ _ _ _ _ => trivial) ?_ ?_
    · exact ⟨none, none, none, _, [], rfl, s4, .zero l, hp0, hb0⟩
    · rintro i x σ H3 H4 hi ⟨y3, y4, y5, ps, st, rfl, sm, W, ep, eb⟩ ⟨T, k0, v, rfl, nT, rfl, ek, ev⟩
      have ek : k0 = .int (i : Int) := (Option.some.inj ek).symm
      subst ek
      rw [txt_size] at hi
      obtain ⟨c, hb⟩ : ∃ c, l[i]? = some c := ⟨_, List.getElem?_eq_getElem hi⟩
      have ev : v = .str ⟨#[code c]⟩ := by
        have ev : ((txt l).cps[i]?).map (fun c => V.str ⟨#[c]⟩) = some v := ev
        rw [txt_at, hb] at ev
        exact (Option.some.inj ev).symm
      subst ev
      refine ⟨T, _, rfl, .inl (.inl upd_same), rfl, _, _, rfl, _, _, rfl, rfl, ?_⟩
      have st1 := same_upd (o := .tup [.int (i : Int), .str ⟨#[code c]⟩]) nT
      have ep1 := st1 _ _ ep
      have eb1 := st1 _ _ eb
      have sm1 := sm.trans st1
      clear st1
      generalize upd H3 T (.tup [.int (i : Int), .str ⟨#[code c]⟩]) = H5 at ep1 eb1 sm1 ⊢
      refine ⟨.str ⟨#[code c]⟩, rfl, rfl, decide (code c = 117), congrArg V.bl (is_u _), ?_⟩
      rw [code_u]
      have stl : st.length ≤ l.length := by
        have h1 := W.sl
        have h2 : hgt l i ≤ (i : Int) := by
          have : ∀ (m : Nat), m ≤ l.length → hgt l m ≤ (m : Int) := fun m => by
            induction m with
            | zero => intro _; exact Int.le_refl _
            | succ m ih =>
              intro hm
              have := ih (by omega)
              rcases hgt_step (l := l) (i := m) (by omega) with ⟨e, _⟩ | ⟨e, _⟩ <;> omega
          exact this i (by omega)
        omega
      have slen : (natsV st).length < sizeLine := szl (by
        unfold natsV
        rw [List.length_map]
        omega)
      cases c with
      | true =>
        refine iteT ?_
        refine ⟨_, rfl, .inl ⟨rfl, _, .inl (.inl eb1)⟩, _, rfl, b, _, _, rfl, rfl, eb1, slen, ?_⟩
        refine ⟨_, _, _, ps, st ++ [i], rfl, same_updN sm1 nb0, W.up hb, ?_, ?_⟩
        · rw [upd_ne pb]
          exact ep1
        · rw [upd_same, natsV_snoc]
      | false =>
        refine iteF ?_
        obtain ⟨j, hj, hjl, hil, W2⟩ := W.down ok hb
        have hj2 : (natsV st)[(natsV st).length - 1]? = some (.int (j : Int)) := by
          unfold natsV
          rw [List.length_map, List.getElem?_map, hj]
          rfl
        have hdl : (natsV st).dropLast = natsV st.dropLast := by
          unfold natsV
          rw [List.map_dropLast]
        refine ⟨_, rfl, .inl ⟨rfl, _, .inl (.inl eb1)⟩, b, _, _, rfl, rfl, eb1, hj2, ?_⟩
        rw [hdl]
        have ep2 : (upd H5 b (.lst (natsV st.dropLast))) p = some (.lst (natsV ps)) := by
          rw [upd_ne pb]
          exact ep1
        have eb2 : (upd H5 b (.lst (natsV st.dropLast))) b = some (.lst (natsV st.dropLast)) := upd_same
        have sm2 := same_updN (o := .lst (natsV st.dropLast)) sm1 nb0
        generalize upd H5 b (.lst (natsV st.dropLast)) = H6 at ep2 eb2 sm2 ⊢
        have pl : (natsV ps).length = l.length := by
          unfold natsV
          rw [List.length_map]
          exact W.len
        refine ⟨_, rfl, _, rfl, _, rfl, p, _, _, i, rfl, rfl, ep2, by rw [pl]; exact ixN_nat hil, ?_⟩
        rw [natsV_set]
        have ep3 : (upd H6 p (.lst (natsV (ps.set i j)))) p = some (.lst (natsV (ps.set i j))) := upd_same
        have eb3 : (upd H6 p (.lst (natsV (ps.set i j)))) b = some (.lst (natsV st.dropLast)) := by
          rw [upd_ne (Ne.symm pb)]
          exact eb2
        have sm3 := same_updN (o := .lst (natsV (ps.set i j))) sm2 n0
        generalize upd H6 p (.lst (natsV (ps.set i j))) = H7 at ep3 eb3 sm3 ⊢
        have pl2 : (natsV (ps.set i j)).length = l.length := by
          unfold natsV
          rw [List.length_map, List.length_set]
          exact W.len
        refine ⟨_, rfl, _, rfl, _, rfl, p, _, _, j, rfl, rfl, ep3, by rw [pl2]; exact ixN_nat hjl, ?_⟩
        rw [natsV_set]
        refine ⟨_, _, _, _, _, rfl, same_updN sm3 n0, W2, upd_same, ?_⟩
        rw [upd_ne (Ne.symm pb)]
        exact eb3
    · rintro σ H3 ⟨y3, y4, y5, ps, st, rfl, sm, W, ep, eb⟩
      rw [txt_size] at W
      refine ⟨.ref p, rfl, q1 H3 p _ sm n0 (W.all ok) ?_⟩
      rw [← natsV_ints]
      exact ep
end
end Hr
/-! ### the row of pairs -/
namespace Hr
open PySem PySem.Spec PyProof.Rows L2
theorem eqv_ints : ∀ xs ys : List Int, PyData.eqvAll (xs.map PyData.int) (ys.map PyData.int) = decide (xs = ys)
  | [], [] => rfl
  | [], _ :: _ => rfl
  | _ :: _, [] => rfl
  | x :: xs, y :: ys => by
    have ih := eqv_ints xs ys
    show ((x == y) && PyData.eqvAll (xs.map PyData.int) (ys.map PyData.int)) = _
    rw [ih]
    by_cases h : x = y
    · subst h
      rw [show (x == x) = true from beq_self_eq_true x, Bool.true_and]
      exact decide_eq_decide.mpr ⟨fun z => by rw [z], fun z => (List.cons.inj z).2⟩
    · rw [show (x == y) = false from beq_eq_false_iff_ne.mpr h, Bool.false_and]
      exact (decide_eq_false fun z => h (List.cons.inj z).1).symm
theorem eqv_intl (xs ys : List Int) : PyData.eqv (.list (xs.map PyData.int)) (.list (ys.map PyData.int)) = decide (xs = ys) := eqv_ints xs ys
def inB (m : Int) (ps : List Int) : Bool := ps.all fun i => numB (.int i) m
theorem inB_pairs {l : List Bool} {ps : List Int} (h : PairsOf l ps) : inB ((ps.length : Int) - 1) ps = true := by
  unfold inB
  rw [List.all_eq_true]
  intro p hp
  obtain ⟨i, hi, e⟩ := List.getElem_of_mem hp
  obtain ⟨y, e1, m1⟩ := h.2.2 i (by rw [← h.2.1]; exact hi)
  rw [List.getElem?_eq_getElem hi, e] at e1
  have e1 := Option.some.inj e1
  rw [e1]
  have := m1.lt
  rw [h.2.1]
  exact numB_nat (by omega)
section
variable {P : Program} {w : World} {K : PySem.W.Frag} {mg : Str → Option Value} {base : Heap} {CN CP : Addr}
def spIsPlaces : Sp := fun vs H Q _ => ∃ (a : Addr) (ps : List Int), vs = [.ref a] ∧ H a = some (.lst (ps.map V.int)) ∧ ps.length ≤ 1000 ∧ ∀ H', Same H H' → Q (.bl (inB ((ps.length : Int) - 1) ps)) H'
theorem cal_isPlaces (D : Def K mg "is_list_of_places" s_is_list_of_places ["places"]) (C : Cal K mg CX0 P w base 1 "is_number" [.int 0] spIsNumV) (m_isinstance : mg "isinstance" = none) (m_list : mg "list" = none) (m_len : mg "len" = none) (m_all : mg "all" = none) : Cal K mg CX0 P w base 2 "is_list_of_places" [] spIsPlaces := by
  refine D.cal scIsPlaces (fun vs H Q E h => ?_) (fun f cdv A outer s H vs Q E hr h => ?_)
  · obtain ⟨a, ps, rfl, _⟩ := h
    rfl
  · obtain ⟨a, ps, rfl, ea, hl, q⟩ := h
    have nd := scIsPlaces.nd
    refine ⟨_, (pss_cons (ps_if (pt_not (pt_val (pe_callB call_isi (by rfl) m_isinstance (by decide +kernel) (pa_cons (pv 0) (pa_cons (pe_bltn (v := .ty "list") (u := .type "list") (by rfl) m_list (by decide +kernel) rfl) pa_nil))))) (pss_one (ps_ret pe_bl)) pss_nil)
    (pss_cons (ps_set (i := 1) nd rfl (.inr rfl) (pe_op op_sub (pe_callB call_len_seq (by rfl) m_len PySem.boot_len (pa_cons (pv 0) pa_nil)) pe_int))
    (pss_one (ps_ret (pe_callB (cr_all rfl) (by rfl) m_all (by decide +kernel) (pa_cons (pe_lc (own := [("place", 2)]) (g := gName 2) (tt := tYes) rfl nd (pi_list (pv 0)) (blkOk_by (N := ["places", "last", "place"]) (sc := defScope s_is_list_of_places) (by decide +kernel)) (fun _ _ _ _ _ => (pg_name (i := 2) nd rfl (Or.inl rfl) (Or.inr rfl))) (fun _ _ _ _ _ => pts_nil) (fun _ _ _ _ _ => (pe_c C hr (pa_cons (pv 2) (pa_cons (pv 1) pa_nil))))) pa_nil)))))), ?_⟩
    refine ⟨_, rfl, _, .ty "list", _, _, true, rfl, .ty "list", .base (.lst ea), kit_ty (by decide +kernel), true, rfl, iteF ?_⟩
    refine ⟨_, rfl, a, _, rfl, .inl (.inl (.inl ea)), _, 1, rfl, rfl, ?_⟩
    refine ⟨_, rfl, a, rfl, ⟨_, .inl (.inl ea)⟩, fun D nD => ?_⟩
    refine lc_it (walk_list (K := K) (a := a) (xs := ps.map V.int)) (fun i H' => Same H H' ∧ H' D = some (.lst (((ps.take i).map fun p => numB (.int p) ((ps.length : Int) - 1)).map V.bl))) ⟨same_upd nD, upd_same⟩ ?_ ?_ ?_
    · rintro i H' _ ⟨sm, _⟩
      exact .inl (.inl (sm _ _ ea))
    · rintro i x H1 H2 hi ⟨sm, eD⟩ ⟨rfl, ex⟩
      rw [List.length_map] at hi
      have hpi : ps[i]? = some ps[i] := List.getElem?_eq_getElem hi
      generalize ps[i] = p at hpi
      have ex : x = .int p := by
        have ex : (ps.map V.int)[i]? = some x := ex
        rw [List.getElem?_map, hpi] at ex
        exact (Option.some.inj ex).symm
      subst ex
      refine ⟨rfl, ?_⟩
      unfold tYes
      refine iteT ?_
      refine ⟨_, rfl, _, rfl, .int p, (((ps.map V.int).length : Int) - 1), rfl, rfl, ?_⟩
      refine ⟨_, eD, szl (by rw [List.length_map, List.length_map, List.length_take]; omega), same_updN sm nD, ?_⟩
      rw [upd_same, take_snoc hpi, List.map_append, List.map_append, List.length_map]
      rfl
    · rintro H1 ⟨sm, eD⟩
      rw [List.length_map, List.take_of_length_le (Nat.le_refl _)] at eD
      refine ⟨D, _, rfl, .inl (.inl eD), ?_⟩
      have e : ((ps.map fun p => numB (.int p) ((ps.length : Int) - 1)).all id) = inB ((ps.length : Int) - 1) ps := by
        rw [List.all_map]
        rfl
      rw [e]
      exact q H1 sm
def spOfPairs (CP : Addr) : Sp := fun vs H Q E => ∃ (a : Addr) (ps : List Int), vs = [.ref a] ∧ H a = some (.lst (ps.map V.int)) ∧ ps.length ≤ 1000 ∧ (∀ l, PairsOf l ps → ∀ H', Same H H' → Q (.str (txt l)) H') ∧ ((∀ l, ¬ PairsOf l ps) → ∀ H', Same H H' → E (.ref CP) none H')
theorem cal_ofPairs (er : Err K mg "NoPairs" CP) (D : Def K mg "row_of_pairs" s_row_of_pairs ["places"]) (C : Cal K mg CX0 P w base 2 "is_list_of_places" [] spIsPlaces) (C2 : Cal K mg CX0 P w base 3 "is_hill" [.non] spIsHill) (C3 : Cal K mg (L2.CX P w) P w base 5 "pairs" [] (spPairsX CN)) (m_enumerate : mg "enumerate" = none)
    {t1 t2 : Tok} (c_UP : mg "UP" = some (.str "u" t1)) (c_DOWN : mg "DOWN" = some (.str "d" t2)) : Cal K mg (L2.CX P w) P w base 6 "row_of_pairs" [] (spOfPairs CP) := by
  refine D.calX scOfPairs (fun vs H Q E h => ?_) (fun f cdv A outer s H vs Q E hr h => ?_)
  · obtain ⟨a, ps, rfl, _⟩ := h
    rfl
  · obtain ⟨a, ps, rfl, ea, hl, q, qe⟩ := h
    have nd := scOfPairs.nd
    refine ⟨_, (pss_cons (ps_if (pt_not (pt_val (pe_c C hr (pa_cons (pv 0) pa_nil)))) (pss_one (ps_raise rfl (takes_of rfl rfl rfl rfl) (pmk_own PySem.F.excBase_ValueError er.x er.g er.k (raises_own er.b er.t) rfl))) pss_nil)
    (pss_cons (ps_set (i := 1) nd rfl (.inl rfl) (pe_join pe_str (pe_lc (own := [("place", 2), ("other", 3)]) (g := gTup K 2 (gCons (gName 2) (gCons (gName 3) gNil))) (tt := tYes) rfl nd (pi_enum (by rfl) m_enumerate (pa_cons (pv 0) pa_nil)) (blkOk_by (N := ["places", "row", "place", "other"]) (sc := defScope s_row_of_pairs) (by decide +kernel)) (fun _ _ _ _ _ => (pg_tup rfl (pgs_cons (pg_name (i := 2) nd rfl (Or.inl rfl) (Or.inr rfl)) (pgs_cons (pg_name (i := 3) nd rfl (Or.inl rfl) (Or.inr rfl)) pgs_nil)))) (fun _ _ _ _ _ => pts_nil) (fun _ _ _ _ _ => (pe_ifExp (pt_cmpR op_gt (pv 3) (pv 2) (nomark _)) (pe_glob (v := .str "u") (by rfl) c_UP ⟨_, rfl⟩) (pe_glob (v := .str "d") (by rfl) c_DOWN ⟨_, rfl⟩))))))
    (pss_cons (ps_if (PW.pt (pw_or (pt_not (pt_val (pe_c C2 hr (pa_cons (pv 1) pa_nil)))) (pw_or1 (pt_cmpR (op_neD hr.units) (pe_cX C3 hr (takes_of rfl rfl rfl rfl) (pa_cons (pv 1) pa_nil)) (pv 0) (nomark _))))) (pss_one (ps_raise rfl (takes_of rfl rfl rfl rfl) (pmk_own PySem.F.excBase_ValueError er.x er.g er.k (raises_own er.b er.t) rfl))) pss_nil)
    (pss_one (ps_ret (pv 1)))))), ?_⟩
    refine ⟨_, rfl, a, ps, rfl, ea, hl, fun H1 s1 => ⟨_, rfl, ?_⟩⟩
    by_cases hin : inB ((ps.length : Int) - 1) ps = true
    · rw [hin]
      refine iteF ?_
      have ea1 := s1 _ _ ea
      have sl : (signsAt 0 ps).length = ps.length := signsAt_len ps 0
      refine ⟨⟨_, rfl⟩, _, rfl, a, _, rfl, .inl (.inl ea1), fun D nD => ?_⟩
      have n0 : H D = none := s1.free nD
      refine lc_it (walk_enum (K := K) (a := a) (xs := ps.map V.int)) (fun i H' => Same H H' ∧ H' D = some (.lst (((signsAt 0 ps).take i).map fun b => V.str (sgn b)))) ⟨same_updN s1 n0, upd_same⟩ ?_ ?_ ?_
      · rintro i H' _ ⟨sm, _⟩
        exact .inl (.inl (sm _ _ ea))
      · rintro i x H2 H3 hi ⟨sm, eD⟩ ⟨T, k0, v, rfl, nT, rfl, ek, ev⟩
        have ek : k0 = .int (i : Int) := (Option.some.inj ek).symm
        subst ek
        rw [List.length_map] at hi
        have hpi : ps[i]? = some ps[i] := List.getElem?_eq_getElem hi
        generalize ps[i] = p at hpi
        have ev : v = .int p := by
          have ev : (ps.map V.int)[i]? = some v := ev
          rw [List.getElem?_map, hpi] at ev
          exact (Option.some.inj ev).symm
        subst ev
        have hs := signsAt_get ps 0 i p hpi
        rw [Nat.zero_add] at hs
        have st := same_upd (o := .tup [.int (i : Int), .int p]) nT
        have gD := st _ _ eD
        have sT := sm.trans st
        refine ⟨T, _, rfl, .inl (.inl upd_same), rfl, _, _, rfl, _, _, rfl, rfl, rfl, ?_⟩
        generalize upd H2 T (.tup [.int (i : Int), .int p]) = H4 at gD sT ⊢
        unfold tYes
        refine iteT ?_
        have hsz : (((signsAt 0 ps).take i).map fun b => V.str (sgn b)).length < sizeLine := szl (by
          rw [List.length_map, List.length_take]
          omega)
        have fin : ∀ b, decide ((i : Int) < p) = b → (((signsAt 0 ps).take (i + 1)).map fun b => V.str (sgn b)) = (((signsAt 0 ps).take i).map fun b => V.str (sgn b)) ++ [.str (sgn b)] := fun b hb => by
          rw [take_snoc hs, List.map_append, hb]
          rfl
        refine ⟨_, rfl, _, rfl, p, (i : Int), rfl, rfl, _, rfl, ite2 (fun e => ?_) (fun e => ?_)⟩
        · have e0 : (i : Int) < p := of_decide_eq_true e
          refine ⟨_, gD, hsz, same_updN sT n0, ?_⟩
          rw [upd_same, fin true (decide_eq_true e0)]
          rfl
        · have e0 : ¬ (i : Int) < p := fun z => e (decide_eq_true z)
          refine ⟨_, gD, hsz, same_updN sT n0, ?_⟩
          rw [upd_same, fin false (decide_eq_false e0)]
          rfl
      · rintro H2 ⟨sm, eD⟩
        rw [List.length_map, List.take_of_length_le (by rw [sl]; exact Nat.le_refl _)] at eD
        refine ⟨"", D, (signsAt 0 ps).map sgn, rfl, rfl, .inl (.inl (.inl (by rw [List.map_map]; exact eD))), ?_, ?_⟩
        · rw [sgn_sum, sl, show ("" : Str).length = 0 by decide +kernel]
          omega
        rw [join_signs]
        refine ⟨_, rfl, txt (signsAt 0 ps), none, rfl, by rw [txt_len, sl]; exact hl, fun H3 s3 => ⟨_, rfl, ?_⟩⟩
        rw [hillB_txt]
        cases hok : okb none 0 (signsAt 0 ps) with
        | false =>
          refine iteT ?_
          refine qe (fun l hp => ?_) H3 (sm.trans s3)
          rw [hp.signs, hp.1] at hok
          cases hok
        | true =>
          refine iteF ?_
          refine ⟨_, rfl, txt (signsAt 0 ps), rfl, by rw [txt_len, sl]; exact hl, fun l hl' _ H4 p qs s4 np hq ep => ?_, fun e => absurd ((row_hillB hok).symm.trans e) (by decide)⟩
          have : l = signsAt 0 ps := (txt_inj hl').symm
          subst this
          have s04 := (sm.trans s3).trans s4
          refine ⟨_, rfl, .list (qs.map PyData.int), .list (ps.map PyData.int), .lst (.inl (.inl ep)) (dp_ints _), .lst (.inl (.inl (s04 _ _ ea))) (dp_ints _), sh_ints _, sh_ints _, _, rfl, ?_⟩
          rw [eqv_intl]
          by_cases he : qs = ps
          · rw [decide_eq_true he]
            refine iteF ?_
            rw [he] at hq
            exact ⟨_, rfl, q _ hq H4 s04⟩
          · rw [decide_eq_false he]
            refine iteT ?_
            refine qe (fun l hp => he ?_) H4 s04
            have := hp.signs
            rw [this] at hq
            exact hq.same hp
    · have hin' : inB ((ps.length : Int) - 1) ps = false := by simpa using hin
      rw [hin']
      refine iteT ?_
      exact qe (fun l hp => hin (inB_pairs hp)) H1 s1
end
end Hr
/-! ### the law's own pairs -/
namespace Hr
open PySem PySem.Spec PyProof.Rows L2
theorem scPartner : FnScope ["_law_row_here", "_law_place", "_law_way", "_law_height", "_law_at"] ["_law_row_here", "_law_place"] (defScope sPartner) := ⟨rfl, rfl, rfl, by decide +kernel, rfl, by decide +kernel, by decide +kernel⟩
theorem scTold : FnScope ["_law_places", "_law_found", "_law_told_here", "_law_error"] ["_law_places"] (defScope sTold) := ⟨rfl, rfl, rfl, by decide +kernel, rfl, by decide +kernel, by decide +kernel⟩
theorem scRight : FnScope ["_law_places", "_law_row_here", "_law_height", "_law_at", "_law_place", "_law_sign"] ["_law_places"] (defScope sRight) := ⟨rfl, rfl, rfl, by decide +kernel, rfl, by decide +kernel, by decide +kernel⟩
theorem no_pairs : ("no " : Str) ++ wordAt 5 = "no pairs" := by decide +kernel
theorem sg_at (b : Bool) : ([V.int 1, V.int (-1)])[if b = true then 0 else 1]? = some (.int (sg b)) := by cases b <;> rfl
theorem d_at (b : Bool) : (if decide (V.str ⟨#[code b]⟩ = V.str ("d" : Str)) = true then (1 : Int) else 0) = (((if b = true then 0 else 1 : Nat)) : Int) := by
  rw [is_d]
  cases b <;> rfl
theorem cps_at {l : List Bool} {i : Nat} {b : Bool} (h : l[i]? = some b) : atI (txt l).cps.toList (i : Int) = some (code b) := by
  refine atI_nat ?_
  show (l.map code)[i]? = _
  rw [List.getElem?_map, h]
  rfl
section
variable {P : Program} {w : World} {K : PySem.W.Frag} {mg : Str → Option Value} {base : Heap} {cs : Nat → Addr}
def spPartner : Sp := fun vs H Q _ => ∃ (l : List Bool) (x y : Nat), vs = [.str (txt l), .int (x : Int)] ∧ l.length ≤ 1000 ∧ Mate l x y ∧ ∀ H', Same H H' → Q (.int (y : Int)) H'
theorem cal_partner (D : Def K mg "_law_partner" sPartner ["_law_row_here", "_law_place"]) (m_int : mg "int" = none) : Cal K mg CX0 P w base 1 "_law_partner" [] spPartner := by
  refine D.cal scPartner (fun vs H Q E h => ?_) (fun f cdv A outer s H vs Q E hr h => ?_)
  · obtain ⟨l, x, y, rfl, _⟩ := h
    rfl
  · obtain ⟨l, x, y, rfl, hl, hm, q⟩ := h
    have nd := scPartner.nd
    refine ⟨_, (pss_cons (ps_set (i := 2) nd rfl (.inl rfl) (pe_ix ix_list (pe_lst (pa_cons pe_int (pa_cons (pe_un un_neg pe_int) pa_nil))) (pe_callTy call_int1 (by rfl) m_int boot_int (pa_cons (pe_cmpR op_eq (pe_ix ix_str (pv 0) (pv 1) (fun _ _ => rfl)) pe_str (nomark _)) pa_nil)) (fun _ _ => rfl)))
    (pss_cons (ps_set (i := 3) nd rfl (.inl rfl) pe_int)
    (pss_cons (ps_set (i := 4) nd rfl (.inl rfl) (pv 1))
    (pss_cons (ps_while PassesOwn.never (PW.pt (pw_or (pt_cmpR op_ne (pv 3) pe_int (nomark _)) (pw_or1 (pt_cmpR op_eq (pv 4) (pv 1) (nomark _)))))
      (pss_cons (ps_set (i := 3) nd rfl (.inl rfl) (pe_op op_add (pv 3) (pe_op op_mul (pe_ix ix_list (pe_lst (pa_cons pe_int (pa_cons (pe_un un_neg pe_int) pa_nil))) (pe_callTy call_int1 (by rfl) m_int boot_int (pa_cons (pe_cmpR op_eq (pe_ix ix_str (pv 0) (pv 4) (fun _ _ => rfl)) pe_str (nomark _)) pa_nil)) (fun _ _ => rfl)) (pv 2))))
      (pss_cons (ps_if (pt_cmpR op_eq (pv 3) pe_int (nomark _)) (pss_one (ps_ret (pv 4))) pss_nil)
      (pss_one (ps_set (i := 4) nd rfl (.inl rfl) (pe_op op_add (pv 4) (pv 2)))))))
    (pss_one (ps_ret (pv 4))))))), ?_⟩
    obtain ⟨hx, hy, hne⟩ := hm.lt
    have hzl : (txt l).length = l.length := txt_len l
    have hsx := hm.sign
    refine ⟨1, rfl, sz (show 2 ≤ 1000000 by decide), fun p0 np0 => ?_⟩
    have s0 := same_upd (o := .lst [.int 1, .int (-1)]) np0
    refine ⟨_, rfl, _, rfl, txt l, (x : Int), _, rfl, rfl, sz (by omega), cps_at hsx, rfl, .inr ⟨_, rfl, p0, _, _, .int (sg (decide (x < y))), rfl, rfl, .inl (.inl upd_same), at_of (d_at _) (sg_at _), ?_⟩⟩
    generalize upd H p0 (.lst [.int 1, .int (-1)]) = H1 at s0 ⊢
    refine ⟨_, rfl, ?_⟩
    -- the turns: where one stands and how high
    obtain ⟨wv, pos, val, T, ew, hw, p0', v0, pT, vT, plt, vs, vn, pw⟩ : ∃ (wv : Int) (pos : Nat → Nat) (val : Nat → Int) (T : Nat), sg (decide (x < y)) = wv ∧ (wv = 1 ∨ wv = -1) ∧ pos 0 = x ∧ val 0 = 0 ∧ pos T = y ∧ val (T + 1) = 0 ∧
        (∀ t, t ≤ T → pos t < l.length) ∧ (∀ t b, t ≤ T → l[pos t]? = some b → val t + sg b * wv = val (t + 1)) ∧ (∀ t, t < T → val (t + 1) ≠ 0) ∧ (∀ t, t < T → (pos t : Int) + wv = (pos (t + 1) : Int)) := by
      rcases hm with ⟨h1, h2, h3, h4⟩ | ⟨h1, h2, h3, h4⟩
      · refine ⟨1, fun t => x + t, fun t => hgt l (x + t) - hgt l x, y - x, by rw [decide_eq_true h1]; rfl, .inl rfl, rfl, by show hgt l (x + 0) - hgt l x = 0; rw [Nat.add_zero]; omega, by show x + (y - x) = y; omega, ?_, fun t ht => by show x + t < _; omega, fun t b ht hb => ?_, fun t ht => ?_, fun t ht => by show ((x + t : Nat) : Int) + 1 = ((x + (t + 1) : Nat) : Int); omega⟩
        · show hgt l (x + (y - x + 1)) - hgt l x = 0
          rw [show x + (y - x + 1) = y + 1 by omega]
          omega
        · have hb : l[x + t]? = some b := hb
          have := hgt_succ hb
          show hgt l (x + t) - hgt l x + sg b * 1 = hgt l (x + (t + 1)) - hgt l x
          rw [show x + (t + 1) = x + t + 1 by omega, this]
          omega
        · have := h4 (x + (t + 1)) (by omega) (by omega)
          show hgt l (x + (t + 1)) - hgt l x ≠ 0
          omega
      · refine ⟨-1, fun t => x - t, fun t => hgt l (x + 1 - t) - hgt l (x + 1), x - y, by rw [decide_eq_false (by omega)]; rfl, .inr rfl, rfl, by show hgt l (x + 1 - 0) - hgt l (x + 1) = 0; rw [Nat.sub_zero]; omega, by show x - (x - y) = y; omega, ?_, fun t ht => by show x - t < _; omega, fun t b ht hb => ?_, fun t ht => ?_, fun t ht => by show ((x - t : Nat) : Int) + -1 = ((x - (t + 1) : Nat) : Int); omega⟩
        · show hgt l (x + 1 - (x - y + 1)) - hgt l (x + 1) = 0
          rw [show x + 1 - (x - y + 1) = y by omega]
          omega
        · have hb : l[x - t]? = some b := hb
          have := hgt_succ hb
          show hgt l (x + 1 - t) - hgt l (x + 1) + sg b * -1 = hgt l (x + 1 - (t + 1)) - hgt l (x + 1)
          rw [show x + 1 - t = x - t + 1 by omega, show x + 1 - (t + 1) = x - t by omega, this]
          omega
        · have := h4 (x + 1 - (t + 1)) (by omega) (by omega)
          show hgt l (x + 1 - (t + 1)) - hgt l (x + 1) ≠ 0
          omega
    rw [ew]
    refine ⟨fun m σ H' => ∃ t : Nat, t ≤ T ∧ m = T - t ∧ σ = [some (.str (txt l)), some (.int (x : Int)), some (.int wv), some (.int (val t)), some (.int ((pos t : Nat) : Int))] ∧ Same H H', ⟨T, 0, Nat.zero_le _, rfl, by
      rw [v0, p0']
      rfl, s0⟩, ?_⟩
    rintro m σ H2 ⟨t, ht, rfl, rfl, s2⟩
    have hlt := plt t ht
    have hb : l[pos t]? = some l[pos t] := List.getElem?_eq_getElem hlt
    generalize l[pos t] = b at hb
    have hs := vs t b ht hb
    have hwv : -(2 ^ 64 : Int) < wv ∧ wv < 2 ^ 64 := by omega
    refine ⟨_, rfl, rfl, _, rfl, ?_⟩
    by_cases h0 : val t = 0
    · have t0 : t = 0 := by
        rcases Nat.eq_zero_or_pos t with z | z
        · exact z
        · have := vn (t - 1) (by omega)
          rw [show t - 1 + 1 = t by omega] at this
          exact absurd h0 this
      rw [show (!decide (V.int (val t) = V.int 0)) = false by rw [h0, decide_eq_true rfl]; rfl]
      refine iteF ?_
      refine ⟨_, rfl, _, rfl, rfl, true, congrArg V.bl (decide_eq_true (by rw [t0, p0'])), iteT ?_⟩
      refine ⟨fun σ' H' => ∃ t' : Nat, t' ≤ T ∧ t < t' ∧ σ' = [some (.str (txt l)), some (.int (x : Int)), some (.int wv), some (.int (val t')), some (.int ((pos t' : Nat) : Int))] ∧ Same H H', fun σ' H' ⟨t', a1, a2, a3, a4⟩ => ⟨T - t', by omega, t', a1, rfl, a3, a4⟩, ?_⟩
      refine ⟨_, rfl, 1, rfl, sz (show 2 ≤ 1000000 by decide), fun p3 np3 => ?_⟩
      refine ⟨_, rfl, _, rfl, txt l, ((pos t : Nat) : Int), _, rfl, rfl, sz (by omega), cps_at hb, rfl, .inr ⟨_, rfl, p3, _, _, .int (sg b), rfl, rfl, .inl (.inl upd_same), at_of (d_at _) (sg_at _), ?_⟩⟩
      have s3 := s2.trans (same_upd (o := .lst [.int 1, .int (-1)]) np3)
      refine ⟨_, rfl, sg b, wv, rfl, rfl, .inr hwv, val t, _, rfl, rfl, ?_⟩
      refine ⟨_, rfl, rfl, _, rfl, ite2 (fun e => ?_) (fun e => ?_)⟩
      · have e0 := V.int.inj (of_decide_eq_true e)
        have e0 : val t + sg b * wv = 0 := e0
        have : t = T := by
          rcases Nat.lt_or_eq_of_le ht with z | z
          · have := vn t z
            rw [hs] at e0
            exact absurd e0 this
          · exact z
        rw [this, pT]
        exact ⟨_, rfl, q _ s3⟩
      · have e0 : val t + sg b * wv ≠ 0 := fun z => e (decide_eq_true (by show V.int (val t + sg b * wv) = V.int 0; rw [z]))
        have hlt : t < T := by
          rcases Nat.lt_or_eq_of_le ht with z | z
          · exact z
          · rw [hs, z] at e0
            exact absurd vT e0
        refine ⟨_, rfl, _, rfl, _, _, rfl, rfl, t + 1, by omega, by omega, ?_, s3⟩
        show [_, _, _, some (V.int (val t + sg b * wv)), some (V.int (((pos t : Nat) : Int) + wv))] = _
        rw [hs, pw t hlt]
    · rw [show (!decide (V.int (val t) = V.int 0)) = true by rw [decide_eq_false (fun z => h0 (V.int.inj z))]; rfl]
      refine iteT (iteT ?_)
      refine ⟨fun σ' H' => ∃ t' : Nat, t' ≤ T ∧ t < t' ∧ σ' = [some (.str (txt l)), some (.int (x : Int)), some (.int wv), some (.int (val t')), some (.int ((pos t' : Nat) : Int))] ∧ Same H H', fun σ' H' ⟨t', a1, a2, a3, a4⟩ => ⟨T - t', by omega, t', a1, rfl, a3, a4⟩, ?_⟩
      refine ⟨_, rfl, 1, rfl, sz (show 2 ≤ 1000000 by decide), fun p3 np3 => ?_⟩
      refine ⟨_, rfl, _, rfl, txt l, ((pos t : Nat) : Int), _, rfl, rfl, sz (by omega), cps_at hb, rfl, .inr ⟨_, rfl, p3, _, _, .int (sg b), rfl, rfl, .inl (.inl upd_same), at_of (d_at _) (sg_at _), ?_⟩⟩
      have s3 := s2.trans (same_upd (o := .lst [.int 1, .int (-1)]) np3)
      refine ⟨_, rfl, sg b, wv, rfl, rfl, .inr hwv, val t, _, rfl, rfl, ?_⟩
      refine ⟨_, rfl, rfl, _, rfl, ite2 (fun e => ?_) (fun e => ?_)⟩
      · have e0 := V.int.inj (of_decide_eq_true e)
        have e0 : val t + sg b * wv = 0 := e0
        have : t = T := by
          rcases Nat.lt_or_eq_of_le ht with z | z
          · have := vn t z
            rw [hs] at e0
            exact absurd e0 this
          · exact z
        rw [this, pT]
        exact ⟨_, rfl, q _ s3⟩
      · have e0 : val t + sg b * wv ≠ 0 := fun z => e (decide_eq_true (by show V.int (val t + sg b * wv) = V.int 0; rw [z]))
        have hlt : t < T := by
          rcases Nat.lt_or_eq_of_le ht with z | z
          · exact z
          · rw [hs, z] at e0
            exact absurd vT e0
        refine ⟨_, rfl, _, rfl, _, _, rfl, rfl, t + 1, by omega, by omega, ?_, s3⟩
        show [_, _, _, some (V.int (val t + sg b * wv)), some (V.int (((pos t : Nat) : Int) + wv))] = _
        rw [hs, pw t hlt]
/-- what row_of_pairs tells, or the word of its refusal -/
def spTold8 : Sp := fun vs H Q _ => ∃ (a : Addr) (ps : List Int), vs = [.ref a] ∧ H a = some (.lst (ps.map V.int)) ∧ ps.length ≤ 1000 ∧ (∀ l, PairsOf l ps → ∀ H', Same H H' → Q (.str (txt l)) H') ∧ ((∀ l, ¬ PairsOf l ps) → ∀ H', Same H H' → Q (.str "no pairs") H')
theorem cal_told {CH : Addr} (D : Def K mg "_law_told" sTold ["_law_places"]) (gH : mg "HillError" = some (.ref CH)) (er : IsErr K cs 5) (ex : PySem.W.exmOne K (.ref (cs 5)) (.ref CH) = some true)
    (c_of : Cal K mg (L2.CX P w) P w base 6 "row_of_pairs" [] (spOfPairs (cs 5))) (c_word : Cal K mg CX0 P w base 1 "_law_word" [] (spWord K cs)) : Cal K mg CX0 P w base 7 "_law_told" [] spTold8 := by
  refine D.cal scTold (fun vs H Q E h => ?_) (fun f cdv A outer s H vs Q E hr h => ?_)
  · obtain ⟨a, ps, rfl, _⟩ := h
    rfl
  · obtain ⟨a, ps, rfl, ea, hl, q, qn⟩ := h
    have nd := scTold.nd
    refine ⟨_, pss_cons (ps_set (i := 1) nd rfl (.inl rfl) pe_non) (pss_cons (ps_set (i := 2) nd rfl (.inl rfl) pe_str)
      (pss_cons (kept_try (i := 3) (c := .ref CH) (tb := fun W => tAsg (tCallS (spOfPairs (cs 5)) (WE W) (tCons (tVar 0) tNil)) (gName 2)) (ts := fun _ => tAsg (tVar 3) (gName 1)) rfl rfl rfl nd rfl rfl ⟨rfl, by decide, .inl gH⟩
          (fun W pn xe tk po => pss_one (ps_set (i := 2) nd rfl (.inl rfl) (by exact (pe_cT c_of hr tk (pa_cons (pv 0) pa_nil)))))
          (fun a q => pss_one (ps_set (i := 1) nd rfl (.inl rfl) (pv 3))))
      (pss_cons (ps_if (pt_cmp (pc_notN (pv 1))) (pss_one (ps_ret (pe_op op_add_str pe_str (pe_c c_word hr (pa_cons (pv 1) pa_nil))))) pss_nil)
      (pss_one (ps_ret (pv 2)))))), ?_⟩
    refine ⟨_, rfl, a, ps, rfl, ea, hl, fun l hl H1 s1 => ?_, fun hno H1 s1 => ⟨ex, fun e ne => ?_⟩⟩
    · refine ⟨_, rfl, false, rfl, iteF ?_⟩
      exact ⟨_, rfl, q l hl _ s1⟩
    · refine ⟨_, rfl, ?_⟩
      refine ⟨_, rfl, true, rfl, iteT ?_⟩
      refine ⟨_, rfl, e, 5, rfl, upd_same, er, fun H2 s2 => ⟨"no ", wordAt 5, rfl, rfl, sz (by decide +kernel), ?_⟩⟩
      have := qn hno _ ((s1.trans (same_upd ne)).trans s2)
      rw [← no_pairs] at this
      exact this
end
end Hr
/-! ### the law's own reading of pairs -/
namespace Hr
open PySem PySem.Spec PyProof.Rows L2
theorem ud_at (b : Bool) : atI ("ud" : Str).cps.toList (((if b = true then 0 else 1 : Nat)) : Int) = some (code b) := by
  cases b <;> decide +kernel
section
variable {P : Program} {w : World} {K : PySem.W.Frag} {mg : Str → Option Value} {base : Heap} {cs : Nat → Addr}
set_option maxHeartbeats 1000000 in
theorem cal_right (D : Def K mg "_law_right" sRight ["_law_places"]) (c_law_partner : Cal K mg CX0 P w base 1 "_law_partner" [] spPartner) (m_int : mg "int" = none) (m_len : mg "len" = none) (m_range : mg "range" = none) (m_enumerate : mg "enumerate" = none) : Cal K mg CX0 P w base 2 "_law_right" [] spTold8 := by
  refine D.cal scRight (fun vs H Q E h => ?_) (fun f cdv A outer s H vs Q E hr h => ?_)
  · obtain ⟨a, ps, rfl, _⟩ := h
    rfl
  · obtain ⟨a, ps, rfl, ea, hl, q, qn⟩ := h
    have nd := scRight.nd
    refine ⟨_, (pss_cons (ps_for PassesOwn.never rfl (pi_enum (by rfl) m_enumerate (pa_cons (pv 0) pa_nil)) (pg_tup rfl (pgs_cons (pg_name (i := 3) nd rfl (.inl rfl)) (pgs_cons (pg_name (i := 4) nd rfl (.inl rfl)) pgs_nil))) (pss_one (ps_if (PW.pt (pw_or (pt_not (pt_chain op_le op_lt pe_int (pv 4) (pe_callB call_len_seq (by rfl) m_len PySem.boot_len (pa_cons (pv 0) pa_nil)))) (pw_or (pt_cmpR op_eq (pv 4) (pv 3) (nomark _)) (pw_or1 (pt_cmpR op_ne (pe_ix ix_list (pv 0) (pv 4) (fun _ _ => rfl)) (pv 3) (nomark _)))))) (pss_one (ps_ret pe_str)) pss_nil)))
    (pss_cons (ps_set (i := 1) nd rfl (.inl rfl) (pe_join pe_str (pe_lc (own := [("_law_at", 3), ("_law_place", 4)]) (g := gTup K 2 (gCons (gName 3) (gCons (gName 4) gNil))) (tt := tYes) rfl nd (pi_enum (by rfl) m_enumerate (pa_cons (pv 0) pa_nil)) (blkOk_by (N := ["_law_places", "_law_row_here", "_law_height", "_law_at", "_law_place", "_law_sign"]) (sc := defScope sRight) (by decide +kernel)) (fun _ _ _ _ _ => (pg_tup rfl (pgs_cons (pg_name (i := 3) nd rfl (Or.inl rfl) (Or.inr rfl)) (pgs_cons (pg_name (i := 4) nd rfl (Or.inl rfl) (Or.inr rfl)) pgs_nil)))) (fun _ _ _ _ _ => pts_nil) (fun _ _ _ _ _ => (pe_ix ix_str pe_str (pe_callTy call_int1 (by rfl) m_int boot_int (pa_cons (pe_cmpR op_lt (pv 4) (pv 3) (nomark _)) pa_nil)) (fun _ _ => rfl))))))
    (pss_cons (ps_set (i := 2) nd rfl (.inl rfl) pe_int)
    (pss_cons (ps_for PassesOwn.never rfl (pi_str (pv 1)) (pg_name (i := 5) nd rfl (.inl rfl)) (pss_cons (ps_set (i := 2) nd rfl (.inl rfl) (pe_op op_add (pv 2) (pe_ix ix_list (pe_lst (pa_cons pe_int (pa_cons (pe_un un_neg pe_int) pa_nil))) (pe_callTy call_int1 (by rfl) m_int boot_int (pa_cons (pe_cmpR op_eq (pv 5) pe_str (nomark _)) pa_nil)) (fun _ _ => rfl))))
      (pss_one (ps_if (pt_cmpR op_lt (pv 2) pe_int (nomark _)) (pss_one (ps_ret pe_str)) pss_nil))))
    (pss_cons (ps_for PassesOwn.never rfl (pi_range1 (by rfl) m_range (pa_cons (pe_callB call_len_seq (by rfl) m_len PySem.boot_len (pa_cons (pv 0) pa_nil)) pa_nil)) (pg_name (i := 3) nd rfl (.inl rfl)) (pss_one (ps_if (PW.pt (pw_or (pt_cmpR op_ne (pv 2) pe_int (nomark _)) (pw_or1 (pt_cmpR op_ne (pe_c c_law_partner hr (pa_cons (pv 1) (pa_cons (pv 3) pa_nil))) (pe_ix ix_list (pv 0) (pv 3) (fun _ _ => rfl)) (nomark _))))) (pss_one (ps_ret pe_str)) pss_nil)))
    (pss_one (ps_ret (pv 1)))))))), ?_⟩
    have pl : (ps.map V.int).length = ps.length := List.length_map ..
    refine ⟨_, rfl, a, _, rfl, .inl (.inl ea), ?_⟩
    refine for_it (walk_enum (K := K) (a := a) (xs := ps.map V.int)) (fun i σ H' => ∃ y3 y4 : Option V, σ = [some (.ref a), none, none, y3, y4, none] ∧ Same H H' ∧ ∀ (j : Nat) (p : Int), j < i → ps[j]? = some p → p ≠ (j : Int)) ?_ ?_ ?_ ?_
    · exact ⟨none, none, rfl, Same.refl _, fun j p hj => absurd hj (Nat.not_lt_zero _)⟩
    · rintro i σ H' _ ⟨_, _, rfl, sm, _⟩
      exact .inl (.inl (sm _ _ ea))
    · rintro i x σ H1 H2 hi ⟨y3, y4, rfl, sm, fact⟩ ⟨T, k0, v, rfl, nT, rfl, ek, ev⟩
      have ek : k0 = .int (i : Int) := (Option.some.inj ek).symm
      subst ek
      rw [pl] at hi
      have hpi : ps[i]? = some ps[i] := List.getElem?_eq_getElem hi
      generalize ps[i] = p at hpi
      have ev : v = .int p := by
        have ev : (ps.map V.int)[i]? = some v := ev
        rw [List.getElem?_map, hpi] at ev
        exact (Option.some.inj ev).symm
      subst ev
      have sT := sm.trans (same_upd (o := .tup [.int (i : Int), .int p]) nT)
      refine ⟨T, _, rfl, .inl (.inl upd_same), rfl, _, _, rfl, _, _, rfl, rfl, ?_⟩
      generalize upd H1 T (.tup [.int (i : Int), .int p]) = H3 at sT ⊢
      -- what such a list would say of this place
      have say : ∀ l, PairsOf l ps → ∃ y : Nat, p = (y : Int) ∧ y < ps.length ∧ y ≠ i ∧ ps[y]? = some (i : Int) := fun l hp => by
        obtain ⟨y, e1, m1⟩ := hp.2.2 i (by rw [← hp.2.1]; exact hi)
        obtain ⟨y2, e2, m2⟩ := hp.2.2 y m1.lt.2.1
        rw [m2.uniq m1.symm] at e2
        exact ⟨y, Option.some.inj (hpi.symm.trans e1), by rw [hp.2.1]; exact m1.lt.2.1, m1.lt.2.2, e2⟩
      refine ⟨_, rfl, 0, p, rfl, rfl, decide (0 ≤ p), rfl, ite2 (fun e => ?_) (fun e => ?_)⟩
      · have e0 : 0 ≤ p := of_decide_eq_true e
        refine ⟨_, rfl, a, _, rfl, .inl (.inl (.inl (sT _ _ ea))), p, _, rfl, rfl, decide (p < ((ps.map V.int).length : Int)), rfl, ?_⟩
        rw [pl]
        by_cases e1 : p < (ps.length : Int)
        · rw [decide_eq_true e1]
          refine iteF ?_
          obtain ⟨pn, rfl⟩ : ∃ pn : Nat, p = (pn : Int) := ⟨p.toNat, by omega⟩
          have hpn : ps[pn]? = some ps[pn] := List.getElem?_eq_getElem (by omega)
          generalize ps[pn]'(by omega) = r at hpn
          refine ⟨_, rfl, _, rfl, rfl, _, rfl, ite2 (fun e2 => ?_) (fun e2 => ?_)⟩
          · refine qn (fun l hp => ?_) _ sT
            obtain ⟨y, h1, h2, h3, h4⟩ := say l hp
            have := V.int.inj (of_decide_eq_true e2)
            omega
          · have e2' : (pn : Int) ≠ (i : Int) := fun z => e2 (decide_eq_true (by rw [z]))
            refine ⟨_, rfl, _, rfl, a, _, _, .int r, rfl, rfl, .inl (.inl (sT _ _ ea)), at_of (j := pn) rfl (by rw [List.getElem?_map, hpn]; rfl), _, rfl, rfl, _, rfl, ?_⟩
            by_cases e3 : r = (i : Int)
            · rw [show (!decide (V.int r = V.int (i : Int))) = false by rw [e3, decide_eq_true rfl]; rfl]
              refine iteF ?_
              refine ⟨_, _, rfl, sT, fun j p' hj hp' => ?_⟩
              by_cases hji : j = i
              · subst hji
                rw [hpi] at hp'
                cases hp'
                exact e2'
              · exact fact j p' (by omega) hp'
            · rw [show (!decide (V.int r = V.int (i : Int))) = true by rw [decide_eq_false (fun z => e3 (V.int.inj z))]; rfl]
              refine iteT ?_
              refine qn (fun l hp => ?_) _ sT
              obtain ⟨y, h1, h2, h3, h4⟩ := say l hp
              have : y = pn := by omega
              subst this
              rw [hpn] at h4
              exact e3 (Option.some.inj h4)
        · rw [decide_eq_false e1]
          refine iteT ?_
          refine qn (fun l hp => ?_) _ sT
          obtain ⟨y, h1, h2, h3, h4⟩ := say l hp
          omega
      · have e0 : ¬ 0 ≤ p := fun z => e (decide_eq_true z)
        refine ⟨false, rfl, iteT ?_⟩
        refine qn (fun l hp => ?_) _ sT
        obtain ⟨y, h1, h2, h3, h4⟩ := say l hp
        omega
    · rintro σ H1 ⟨y3, y4, rfl, sm, fact⟩
      rw [pl] at fact
      have sl : (signsAt 0 ps).length = ps.length := signsAt_len ps 0
      refine ⟨⟨_, rfl⟩, _, rfl, a, _, rfl, .inl (.inl (sm _ _ ea)), fun D nD => ?_⟩
      have n0 : H D = none := sm.free nD
      refine lc_it (walk_enum (K := K) (a := a) (xs := ps.map V.int)) (fun i H' => Same H H' ∧ H' D = some (.lst (((signsAt 0 ps).take i).map fun b => V.str (sgn b)))) ⟨same_updN sm n0, upd_same⟩ ?_ ?_ ?_
      · rintro i H' _ ⟨sm, _⟩
        exact .inl (.inl (sm _ _ ea))
      · rintro i x H2 H3 hi ⟨sm2, eD⟩ ⟨T, k0, v, rfl, nT, rfl, ek, ev⟩
        have ek : k0 = .int (i : Int) := (Option.some.inj ek).symm
        subst ek
        rw [pl] at hi
        have hpi : ps[i]? = some ps[i] := List.getElem?_eq_getElem hi
        generalize ps[i] = p at hpi
        have ev : v = .int p := by
          have ev : (ps.map V.int)[i]? = some v := ev
          rw [List.getElem?_map, hpi] at ev
          exact (Option.some.inj ev).symm
        subst ev
        have hs := signsAt_get ps 0 i p hpi
        rw [Nat.zero_add] at hs
        have hpne := fact i p hi hpi
        have st := same_upd (o := .tup [.int (i : Int), .int p]) nT
        have gD := st _ _ eD
        have sT := sm2.trans st
        refine ⟨T, _, rfl, .inl (.inl upd_same), rfl, _, _, rfl, _, _, rfl, rfl, rfl, ?_⟩
        generalize upd H2 T (.tup [.int (i : Int), .int p]) = H4 at gD sT ⊢
        unfold tYes
        refine iteT ?_
        have ix : (if decide (p < (i : Int)) = true then (1 : Int) else 0) = (((if decide ((i : Int) < p) = true then 0 else 1 : Nat)) : Int) := by
          by_cases h : p < (i : Int)
          · rw [decide_eq_true h, decide_eq_false (by omega : ¬ (i : Int) < p)]
            rfl
          · rw [decide_eq_false h, decide_eq_true (by omega : (i : Int) < p)]
            rfl
        refine ⟨_, rfl, _, rfl, p, (i : Int), rfl, rfl, .inr ⟨_, rfl, ("ud" : Str), _, code (decide ((i : Int) < p)), rfl, rfl, sz (by decide +kernel), by rw [ix]; exact ud_at _, ?_⟩⟩
        refine ⟨_, gD, szl (by rw [List.length_map, List.length_take]; omega), same_updN sT n0, ?_⟩
        rw [upd_same, take_snoc hs, List.map_append]
        rfl
      · rintro H2 ⟨sm2, eD⟩
        rw [pl, List.take_of_length_le (by rw [sl]; exact Nat.le_refl _)] at eD
        refine ⟨"", D, (signsAt 0 ps).map sgn, rfl, rfl, .inl (.inl (.inl (by rw [List.map_map]; exact eD))), ?_, ?_⟩
        · rw [sgn_sum, sl, show ("" : Str).length = 0 by decide +kernel]
          omega
        rw [join_signs]
        have lsign : ∀ l, PairsOf l ps → signsAt 0 ps = l := fun l hp => hp.signs
        generalize signsAt 0 ps = l0 at sl lsign ⊢
        refine ⟨_, rfl, txt l0, rfl, ?_⟩
        refine for_it walk_str (fun i σ H' => ∃ y5 : Option V, σ = [some (.ref a), some (.str (txt l0)), some (.int (hgt l0 i)), y3, y4, y5] ∧ Same H H' ∧ ∀ j, j ≤ i → 0 ≤ hgt l0 j) ?_ (fun _ _ _ _ _ => trivial) ?_ ?_
        · exact ⟨none, rfl, sm2, fun j hj => by
            have : j = 0 := by omega
            rw [this]
            exact Int.le_refl _⟩
        · rintro i x σ H3 H4 hi ⟨y5, rfl, sm3, hn⟩ ⟨rfl, c, hc, rfl⟩
          rw [txt_at] at hc
          obtain ⟨b, hb, rfl⟩ := Option.map_eq_some_iff.mp hc
          have hs := hgt_succ hb
          refine ⟨_, rfl, 1, rfl, sz (show 2 ≤ 1000000 by decide), fun p3 np3 => ?_⟩
          have s3 := sm3.trans (same_upd (o := .lst [.int 1, .int (-1)]) np3)
          refine ⟨_, rfl, rfl, .inr ⟨_, rfl, p3, _, _, .int (sg b), rfl, rfl, .inl (.inl upd_same), at_of (d_at _) (sg_at _), ?_⟩⟩
          generalize upd H4 p3 (.lst [.int 1, .int (-1)]) = H5 at s3 ⊢
          refine ⟨hgt l0 i, sg b, rfl, rfl, ?_⟩
          show gName 2 (V.int (hgt l0 i + sg b)) _ _ _
          rw [← hs]
          refine ⟨_, rfl, hgt l0 (i + 1), 0, rfl, rfl, _, rfl, ite2 (fun e => ?_) (fun e => ?_)⟩
          · have e0 : hgt l0 (i + 1) < 0 := of_decide_eq_true e
            refine qn (fun l hp => ?_) _ s3
            have := hgt_nonneg hp.1 (i := i + 1)
            rw [lsign l hp] at e0
            omega
          · have e0 : ¬ hgt l0 (i + 1) < 0 := fun z => e (decide_eq_true z)
            refine ⟨_, rfl, s3, fun j hj => ?_⟩
            by_cases hji : j = i + 1
            · rw [hji]
              omega
            · exact hn j (by omega)
        · rintro σ H3 ⟨y5, rfl, sm3, hn⟩
          rw [txt_size] at hn
          have hsz : (txt l0).cps.size = ps.length := by rw [txt_size, sl]
          refine ⟨_, rfl, a, _, rfl, .inl (.inl (.inl (sm3 _ _ ea))), ((ps.map V.int).length : Int), rfl, by omega, by rw [pl]; omega, ?_⟩
          rw [pl, hsz]
          refine for_range (lo := 0) (n := ps.length) (fun i σ H' => ∃ y3 : Option V, σ = [some (.ref a), some (.str (txt l0)), some (.int (hgt l0 ps.length)), y3, y4, y5] ∧ Same H H' ∧ (0 < i → hgt l0 ps.length = 0) ∧ ∀ x, x < i → ∃ y : Nat, ps[x]? = some (y : Int) ∧ Mate l0 x y) ?_ ?_ ?_
          · exact ⟨y3, rfl, sm3, fun h => absurd h (Nat.lt_irrefl _), fun x hx => absurd hx (Nat.not_lt_zero _)⟩
          · rintro i σ H4 hi ⟨y3, rfl, sm4, hz, hmt⟩
            refine ⟨_, rfl, rfl, _, rfl, ?_⟩
            by_cases h0 : hgt l0 ps.length = 0
            · rw [show (!decide (V.int (hgt l0 ps.length) = V.int 0)) = false by rw [h0, decide_eq_true rfl]; rfl]
              refine iteF ?_
              have ok : okb none 0 l0 = true := okb_of (by rw [← hgt_len, sl]; exact h0) (fun j hj => hn j hj)
              obtain ⟨y, hy⟩ := mate_ex ok (x := i) (by omega)
              refine ⟨_, rfl, _, rfl, l0, i, y, (by
                show [V.str (txt l0), V.int (0 + (i : Int))] = _
                rw [Int.zero_add]), by omega, hy, fun H5 s5 => ?_⟩
              have hpi : ps[i]? = some ps[i] := List.getElem?_eq_getElem hi
              generalize ps[i] = p at hpi
              refine ⟨_, rfl, _, rfl, a, _, _, .int p, rfl, rfl, .inl (.inl (s5 _ _ (sm4 _ _ ea))), at_of (j := i) (by omega) (by rw [List.getElem?_map, hpi]; rfl), rfl, _, rfl, ?_⟩
              by_cases e3 : (y : Int) = p
              · rw [show (!decide (V.int (y : Int) = V.int p)) = false by rw [e3, decide_eq_true rfl]; rfl]
                refine iteF ?_
                refine ⟨_, rfl, sm4.trans s5, fun _ => h0, fun x hx => ?_⟩
                by_cases hxi : x = i
                · subst hxi
                  exact ⟨y, by rw [hpi, e3], hy⟩
                · exact hmt x (by omega)
              · rw [show (!decide (V.int (y : Int) = V.int p)) = true by rw [decide_eq_false (fun z => e3 (V.int.inj z))]; rfl]
                refine iteT ?_
                refine qn (fun l hp => ?_) _ (sm4.trans s5)
                have := lsign l hp
                subst this
                obtain ⟨y', e1, m1⟩ := hp.2.2 i (by omega)
                rw [hpi] at e1
                rw [hy.uniq m1] at e3
                exact e3 (Option.some.inj e1).symm
            · rw [show (!decide (V.int (hgt l0 ps.length) = V.int 0)) = true by rw [decide_eq_false (fun z => h0 (V.int.inj z))]; rfl]
              refine iteT ?_
              refine qn (fun l hp => ?_) _ sm4
              have := lsign l hp
              subst this
              have := hgt_all hp.1
              rw [sl] at this
              exact h0 this
          · rintro σ H4 ⟨y3, rfl, sm4, hz, hmt⟩
            have hz0 : hgt l0 ps.length = 0 := by
              by_cases h : 0 < ps.length
              · exact hz h
              · rw [show ps.length = 0 by omega]
                rfl
            have ok : okb none 0 l0 = true := okb_of (by rw [← hgt_len, sl]; exact hz0) (fun j hj => hn j hj)
            exact ⟨_, rfl, q l0 ⟨ok, sl.symm, fun x hx => hmt x (by omega)⟩ _ sm4⟩
end
end Hr
namespace Hr
open PySem PySem.Spec PyProof.Rows L2
abbrev nLaw : List Str := ["_law_script", "_law_row_here", "_law_found", "_law_due", "_law_k", "_law_cell", "_law_mark", "_law_at", "_law_other", "_law_some", "_law_place"]
theorem scLaw : FnScope nLaw ["_law_script"] (defScope sLaw) := ⟨rfl, rfl, rfl, by decide +kernel, rfl, by decide +kernel, by decide +kernel⟩
theorem ne_self (z : Str) : (!decide (V.str z = V.str z)) = false := by
  rw [decide_eq_true rfl]
  rfl
theorem ceil_at {j : Int} (hj : 0 ≤ j ∧ j < 3) : ∃ (i : Nat) (c : Option Nat), j = (i : Int) ∧ ([V.non, .int 2, .int 5])[i]? = some (cV c) ∧ cPos c := by
  obtain ⟨i, rfl⟩ : ∃ i : Nat, j = (i : Int) := ⟨j.toNat, by omega⟩
  match i, hj with
  | 0, _ => exact ⟨0, none, rfl, rfl, trivial⟩
  | 1, _ => exact ⟨1, some 2, rfl, rfl, (by show 0 < 2; decide)⟩
  | 2, _ => exact ⟨2, some 5, rfl, rfl, (by show 0 < 5; decide)⟩
  | i + 3, hj => omega
theorem cutV_to12 (xs : List V) (k : Nat) : (cutV xs none (some (k : Int))).length ≤ k := by
  unfold cutV
  rw [List.length_take, HT.sIx_nat]
  show min (min k xs.length - 0) _ ≤ k
  omega
theorem cut_int {ns : List Int} {lo hi : Option Int} {i : Nat} {v : V} (h : (cutV (ns.map V.int) lo hi)[i]? = some v) : ∃ z, v = .int z := by
  obtain ⟨ms, e, _⟩ := cut_ints ns lo hi
  rw [e, List.getElem?_map] at h
  cases hm : ms[i]? with
  | none => rw [hm] at h; cases h
  | some z => rw [hm] at h; exact ⟨z, (Option.some.inj h).symm⟩
theorem pairs_nil : PairsOf [] [] := ⟨rfl, rfl, fun x hx => absurd hx (Nat.not_lt_zero _)⟩
theorem pairs_nil_of {l : List Bool} (h : PairsOf l []) : l = [] := List.eq_nil_of_length_eq_zero h.2.1.symm
theorem pair_one : Pair [true, false] 0 1 := ⟨by decide, by decide, by decide, fun m h1 h2 => by
  have : m = 1 := by omega
  subst this
  decide⟩
theorem pairs_two : PairsOf [true, false] [1, 0] := ⟨rfl, rfl, fun x hx => by
  have hx : x < 2 := hx
  match x, hx with
  | 0, _ => exact ⟨1, rfl, .inl pair_one⟩
  | 1, _ => exact ⟨0, rfl, .inr pair_one⟩⟩
theorem pairs_bad (l : List Bool) : ¬ PairsOf l [0] := fun h => by
  have hl : 1 = l.length := h.2.1
  obtain ⟨y, _, m⟩ := h.2.2 0 (by omega)
  have := m.lt
  omega
theorem set_ints (qs : List Int) (i : Nat) (v : Int) : (qs.map V.int).set i (.int v) = (qs.set i v).map V.int := by
  rw [List.map_set]
section
variable {P : Program} {w : World} {K : PySem.W.Frag} {mg : Str → Option Value} {base : Heap} {cs : Nat → Addr} {CN : Addr}
def spLaw (K : PySem.W.Frag) : Sp := fun vs H Q _ => ∃ (a : Addr) (ns : List Int), vs = [.ref a] ∧ SqL K H a (ns.map V.int) ∧ ns.length ≤ 63 ∧ ∀ H', Q (.bl true) H'
set_option maxHeartbeats 2000000 in
theorem ok_law {f : Addr} {fd : FuncData} (F : Fun K "law" "law" sLaw f fd) (c_law_mixed : Cal K mg CX0 P w base 1 "_law_mixed" [] spMixed) (c_law_row : Cal K mg CX0 P w base 2 "_law_row" [] (spLRow K)) (c_pairs : Cal K mg (L2.CX P w) P w base 5 "pairs" [] (spPairsX CN)) (c_law_partner : Cal K mg CX0 P w base 1 "_law_partner" [] spPartner)
    (c_law_told : Cal K mg CX0 P w base 7 "_law_told" [] spTold8) (c_law_right : Cal K mg CX0 P w base 2 "_law_right" [] spTold8)
    (m_len : mg "len" = none) (m_range : mg "range" = none) (m_isinstance : mg "isinstance" = none) (m_list : mg "list" = none) (m_enumerate : mg "enumerate" = none) (m_max : mg "max" = none) : FnOk P w K mg base CX0 8 f fd ["_law_script"] (spLaw K) := by
  refine F.ok scLaw (fun vs H Q E h => ?_) (fun cdv A outer s H vs Q E hr h => ?_)
  · obtain ⟨a, ns, rfl, _⟩ := h
    rfl
  · obtain ⟨a, ns, rfl, hS, hlen, q⟩ := h
    have nd := scLaw.nd
    refine ⟨_, (pss_cons (ps_set (i := 1) nd rfl (.inr rfl) (pe_c c_law_row hr (pa_cons (pv 0) (pa_cons (pe_ix ix_list (pe_lst (pa_cons pe_non (pa_cons pe_int (pa_cons pe_int pa_nil)))) (pe_op op_mod (pe_op op_fdiv (pe_callB call_len_seq (by rfl) m_len PySem.boot_len (pa_cons (pv 0) pa_nil)) pe_int) pe_int) (fun _ _ => rfl)) pa_nil))))
    (pss_cons (ps_set (i := 2) nd rfl (.inl rfl) (pe_cL c_pairs hr (pa_cons (pv 1) pa_nil)))
    (pss_cons (ps_setLc (i := 3) (own := [("_law_place", 10)]) (g := gName 10) (tt := tYes) rfl nd rfl rfl (sw_true rfl rfl rfl (by decide +kernel)) (pi_range1 (by rfl) m_range (pa_cons (pe_callB call_len_str (by rfl) m_len PySem.boot_len (pa_cons (pv 1) pa_nil)) pa_nil)) (blkOk_by (N := nLaw) (sc := defScope sLaw) (by decide +kernel)) (fun _ _ _ _ _ => (pg_name (i := 10) nd rfl (Or.inl rfl) (Or.inr rfl))) (fun _ _ _ _ _ => pts_nil) (fun _ _ _ _ _ => (pe_c c_law_partner hr (pa_cons (pv 1) (pa_cons (pv 10) pa_nil)))))
    (pss_cons (ps_if (PW.pt (pw_or (pt_not (pt_val (pe_callB call_isi (by rfl) m_isinstance (by decide +kernel) (pa_cons (pv 2) (pa_cons (pe_bltn (v := .ty "list") (u := .type "list") (by rfl) m_list (by decide +kernel) rfl) pa_nil))))) (pw_or (pt_cmpR (op_neD hr.units) (pv 2) (pv 3) (nomark _)) (pw_or (pt_cmpR op_ne (pe_c c_law_told hr (pa_cons (pv 2) pa_nil)) (pv 1) (nomark _)) (pw_or1 (pt_cmpR (op_neD hr.units) (pv 2) (pv 3) (nomark _))))))) (pss_one (ps_ret pe_bl)) pss_nil)
    (pss_cons (ps_expr (pe_bm PySem.F.plainAttrs_list PySem.F.slot_list_append PySem.F.type_list_append mt_append (pv 2) (pa_cons pe_int pa_nil)))
    (pss_cons (ps_if (pt_cmpR (op_neD hr.units) (pe_cL c_pairs hr (pa_cons (pv 1) pa_nil)) (pv 3) (nomark _)) (pss_one (ps_ret pe_bl)) pss_nil)
    (pss_cons (ps_for PassesOwn.never rfl (pi_enum (by rfl) m_enumerate (pa_cons (pe_slice sl_list (pv 0) po_none (po_some pe_int)) pa_nil)) (pg_tup rfl (pgs_cons (pg_name (i := 4) nd rfl (.inl rfl)) (pgs_cons (pg_name (i := 5) nd rfl (.inl rfl)) pgs_nil))) (pss_cons (ps_set (i := 6) nd rfl (.inl rfl) (pe_c c_law_mixed hr (pa_cons (pv 5) (pa_cons (pe_op op_add (pv 4) pe_int) pa_nil))))
      (pss_cons (ps_set (i := 7) nd rfl (.inl rfl) (pe_op op_mod (pv 6) (pe_callB (call_max2 rfl) (by rfl) m_max boot_max (pa_cons pe_int (pa_cons (pe_callB call_len_seq (by rfl) m_len PySem.boot_len (pa_cons (pv 3) pa_nil)) pa_nil)))))
      (pss_cons (ps_set (i := 8) nd rfl (.inl rfl) (pe_op op_mod (pe_op op_fdiv (pv 6) pe_int) (pe_callB (call_max2 rfl) (by rfl) m_max boot_max (pa_cons pe_int (pa_cons (pe_callB call_len_seq (by rfl) m_len PySem.boot_len (pa_cons (pv 3) pa_nil)) pa_nil)))))
      (pss_cons (ps_set (i := 9) nd rfl (.inl rfl) (pe_callTy call_list_of (by rfl) m_list (by decide +kernel) (pa_cons (pv 3) pa_nil)))
      (C8.pss_cut (ps_if (PW.pt (pw_and (pt_cmpR (op_neD hr.units) (pv 3) (pe_lst pa_nil) (nomark _)) (pw_and1 (pt_cmpR op_eq (pe_op op_mod (pv 6) pe_int) pe_int (nomark _)))))
        (pss_one (ps_asg (pe_ix ix_list (pe_lst (pa_cons (pv 8) (pa_cons (pe_un un_neg pe_int) (pa_cons (pe_callB call_len_seq (by rfl) m_len PySem.boot_len (pa_cons (pv 3) pa_nil)) (pa_cons (pe_ix ix_list (pv 9) (pv 7) (fun _ _ => rfl)) (pa_cons (pv 7) pa_nil)))))) (pe_op op_mod (pe_op op_fdiv (pv 6) pe_int) pe_int) (fun _ _ => rfl)) (pg_sub (pv 9) (pv 7) set_list)))
        (pss_one (ps_if (PW.pt (pw_and (pt_cmpR (op_neD hr.units) (pv 3) (pe_lst pa_nil) (nomark _)) (pw_and1 (pt_cmpR op_eq (pe_op op_mod (pv 6) pe_int) pe_int (nomark _)))))
          (pss_one (ps_asg (pe_tup (pa_cons (pe_ix ix_list (pv 9) (pv 8) (fun _ _ => rfl)) (pa_cons (pe_ix ix_list (pv 9) (pv 7) (fun _ _ => rfl)) pa_nil))) (pg_tup (by rfl) (pgs_cons (pg_sub (pv 9) (pv 7) set_list) (pgs_cons (pg_sub (pv 9) (pv 8) set_list) pgs_nil)))))
          (pss_one (ps_if (pt_cmpR op_eq (pe_op op_mod (pv 6) pe_int) pe_int (nomark _)) (pss_one (ps_set (i := 9) nd rfl (.inl rfl) (pe_op op_cat (pe_slice sl_list (pv 9) po_none (po_some (pv 7))) (pe_slice sl_list (pv 9) (po_some (pe_op op_add (pv 7) pe_int)) po_none))))
          (pss_one (ps_if (pt_cmpR op_eq (pe_op op_mod (pv 6) pe_int) pe_int (nomark _)) (pss_one (ps_set (i := 9) nd rfl (.inl rfl) (pe_op op_cat (pe_op op_cat (pe_slice sl_list (pv 9) po_none (po_some (pv 7))) (pe_lst (pa_cons (pv 8) pa_nil))) (pe_slice sl_list (pv 9) (po_some (pv 7)) po_none)))) pss_nil)))))))
      (pss_one (ps_if (pt_cmpR op_ne (pe_c c_law_told hr (pa_cons (pv 9) pa_nil)) (pe_c c_law_right hr (pa_cons (pv 9) pa_nil)) (nomark _)) (pss_one (ps_ret pe_bl)) pss_nil))))))))
    (pss_one (ps_ret (pe_and (pe_cmpR op_eq (pe_c c_law_told hr (pa_cons (pe_lst pa_nil) pa_nil)) pe_str (nomark _)) (pe_and (pe_cmpR op_eq (pe_c c_law_told hr (pa_cons (pe_lst (pa_cons pe_int (pa_cons pe_int pa_nil))) pa_nil)) pe_str (nomark _)) (pe_one (pe_cmpR op_eq (pe_c c_law_told hr (pa_cons (pe_lst (pa_cons pe_int pa_nil)) pa_nil)) pe_str (nomark _)))))))))))))), ?_⟩
    obtain ⟨ci, c, eci, gc, hc⟩ := ceil_at (j := ((ns.map V.int).length : Int) / 2 % 3) ⟨by omega, by omega⟩
    refine ⟨.ref a, rfl, sz (show 3 ≤ 1000000 by decide), fun p1 np1 => ?_⟩
    have s1 := same_upd (o := .lst [.non, .int 2, .int 5]) np1
    refine ⟨_, rfl, a, _, rfl, .inl (s1.seq hS), _, 2, rfl, rfl, ⟨by decide, by decide⟩, _, 3, rfl, rfl, (by show (0 : Int) < 3; decide), p1, _, _, cV c, rfl, rfl, .inl (.inl upd_same), at_of (j := ci) eci gc, ?_⟩
    refine ⟨a, ns, c, rfl, s1.seq hS, hlen, hc, fun H1 l n s2 hh hn => ?_⟩
    have ok := okb_any hh.1
    have hll : l.length ≤ 120 := by rw [hh.2]; omega
    have hzl : (txt l).length = l.length := txt_len l
    have hrow := row_hillB ok
    have sA := s1.trans s2
    clear s1 s2 gc eci np1
    refine ⟨_, rfl, txt l, rfl, by omega, fun l' hl' _ H2 p2 ps s3 np2 hps ep => ?_, fun e => absurd (hrow.symm.trans e) (by decide)⟩
    have : l' = l := (txt_inj hl').symm
    subst this
    have sB := sA.trans s3
    have pln := hps.2.1
    refine ⟨_, rfl, txt l', rfl, sz (by omega), ((txt l').length : Int), rfl, by omega, by omega, fun D nD => ?_⟩
    rw [hzl]
    have dp2 : p2 ≠ D := ne_of_none ep nD
    refine lc_range (lo := 0) (n := l'.length) (fun i H' => Same H2 H' ∧ H' D = some (.lst ((ps.take i).map V.int))) ⟨same_upd nD, upd_same⟩ ?_ ?_
    · rintro i H3 hi ⟨sm, eD⟩
      obtain ⟨y, e1, m1⟩ := hps.2.2 i hi
      refine ⟨rfl, ?_⟩
      unfold tYes
      refine iteT ?_
      refine ⟨_, rfl, _, rfl, l', i, y, (by
        show [V.str (txt l'), V.int (0 + (i : Int))] = _
        rw [Int.zero_add]), by omega, m1, fun H4 s4 => ?_⟩
      refine ⟨_, s4 _ _ eD, szl (by rw [List.length_map, List.length_take]; omega), same_updN (sm.trans s4) nD, ?_⟩
      rw [upd_same, take_snoc e1, List.map_append]
      rfl
    rintro H3 ⟨sm, eD⟩
    rw [List.take_of_length_le (by omega)] at eD
    have sC := sB.trans sm
    have ep3 := sm _ _ ep
    have shp := sh_ints ps
    refine ⟨_, rfl, _, .ty "list", _, _, true, rfl, .ty "list", .base (.lst ep3), kit_ty (by decide +kernel), true, rfl, iteF ?_⟩
    refine ⟨_, rfl, _, rfl, .list (ps.map PyData.int), .list (ps.map PyData.int), .lst (.inl (.inl ep3)) (dp_ints _), .lst (.inl (.inl eD)) (dp_ints _), shp, shp, _, rfl, ?_⟩
    rw [same_data shp]
    refine iteF ?_
    refine ⟨_, rfl, p2, ps, rfl, ep3, by omega, fun l2 hl2 H4 s4 => ?_, fun hno => absurd hps (hno l')⟩
    have : l2 = l' := hl2.signs.symm.trans hps.signs
    subst this
    refine ⟨_, rfl, rfl, _, rfl, ?_⟩
    rw [ne_self]
    refine iteF ?_
    have ep4 := s4 _ _ ep3
    have eD4 := s4 _ _ eD
    refine ⟨_, rfl, _, rfl, .list (ps.map PyData.int), .list (ps.map PyData.int), .lst (.inl (.inl ep4)) (dp_ints _), .lst (.inl (.inl eD4)) (dp_ints _), shp, shp, _, rfl, ?_⟩
    rw [same_data shp]
    refine iteF ?_
    have sD := sC.trans s4
    clear s4 ep3 eD sm sC hl2
    -- the list told is changed
    have pml : (ps.map V.int).length ≤ 120 := by rw [List.length_map]; omega
    have np0 : H p2 = none := sA.free np2
    refine ⟨_, rfl, .inl ⟨rfl, _, .inl (.inl ep4)⟩, p2, _, _, rfl, rfl, ep4, szl (by omega), ?_⟩
    have eD5 : (upd H4 p2 (.lst (ps.map V.int ++ [.int 3]))) D = some (.lst (ps.map V.int)) := by
      rw [upd_ne (Ne.symm dp2)]
      exact eD4
    have sE := same_updN (o := .lst (ps.map V.int ++ [.int 3])) sD np0
    generalize upd H4 p2 (.lst (ps.map V.int ++ [.int 3])) = H5 at eD5 sE ⊢
    clear ep4 eD4 sD
    refine ⟨_, rfl, txt l2, rfl, by omega, fun l' hl' _ H6 p3 qs s6 np3 hqs ep3 => ?_, fun e => absurd (hrow.symm.trans e) (by decide)⟩
    have : l' = l2 := (txt_inj hl').symm
    subst this
    have : qs = ps := hqs.same hps
    subst this
    have eD6 := s6 _ _ eD5
    refine ⟨_, rfl, .list (qs.map PyData.int), .list (qs.map PyData.int), .lst (.inl (.inl ep3)) (dp_ints _), .lst (.inl (.inl eD6)) (dp_ints _), shp, shp, _, rfl, ?_⟩
    rw [same_data shp]
    refine iteF ?_
    have sF := sE.trans s6
    clear s6 ep3 np3 sE eD5
    -- the turns
    refine ⟨_, rfl, 12, rfl, a, _, rfl, sF.seq hS, fun sc nsc => ?_⟩
    have eD7 := same_upd (o := .lst (cutV (ns.map V.int) none (some 12))) nsc _ _ eD6
    have eS7 : (upd H6 sc (.lst (cutV (ns.map V.int) none (some 12)))) sc = some (.lst (cutV (ns.map V.int) none (some 12))) := upd_same
    generalize upd H6 sc (.lst (cutV (ns.map V.int) none (some 12))) = H7 at eD7 eS7 ⊢
    refine ⟨sc, _, rfl, .inl (.inl eS7), ?_⟩
    refine for_it (walk_enum (K := K) (a := sc) (xs := cutV (ns.map V.int) none (some 12))) (fun i σ H' => ∃ y4 y5 y6 y7 y8 y9 y10 : Option V, σ = [some (.ref a), some (.str (txt l')), some (.ref p2), some (.ref D), y4, y5, y6, y7, y8, y9, y10] ∧ H' D = some (.lst (qs.map V.int)) ∧ H' sc = some (.lst (cutV (ns.map V.int) none (some 12)))) ?_ ?_ ?_ ?_
    · exact ⟨_, _, _, _, _, _, _, rfl, eD7, eS7⟩
    · rintro i σ H' _ ⟨_, _, _, _, _, _, _, rfl, _, h⟩
      exact .inl (.inl h)
    · rintro i x σ H8 H9 hi ⟨y4, y5, y6, y7, y8, y9, y10, rfl, eD8, eS8⟩ ⟨T, k0, v, rfl, nT, rfl, ek, ev⟩
      have ek : k0 = .int (i : Int) := (Option.some.inj ek).symm
      subst ek
      obtain ⟨z, rfl⟩ := cut_int ev
      refine ⟨T, _, rfl, .inl (.inl upd_same), rfl, _, _, rfl, _, _, rfl, rfl, ?_⟩
      have st := same_upd (o := .tup [.int (i : Int), .int z]) nT
      have eD9 := st _ _ eD8
      have eS9 := st _ _ eS8
      clear st
      generalize upd H8 T (.tup [.int (i : Int), .int z]) = H9 at eD9 eS9 ⊢
      refine ⟨_, rfl, _, rfl, (i : Int), 300, rfl, rfl, z, (i : Int) + 300, rfl, ?_⟩
      have mk0 := mixed_nonneg z ((i : Int) + 300)
      have mk1 := mixed_lt z ((i : Int) + 300)
      generalize mixed z ((i : Int) + 300) = mk at mk0 mk1 ⊢
      have qml : (qs.map V.int).length = l'.length := by rw [List.length_map]; exact pln
      refine ⟨_, rfl, _, rfl, D, _, rfl, .inl (.inl (.inl eD9)), _, _, rfl, ?_⟩
      rw [qml]
      obtain ⟨M, eM, hM, hM2⟩ : ∃ M : Nat, (if (l'.length : Int) > 1 then (l'.length : Int) else 1) = (M : Int) ∧ 0 < M ∧ (qs ≠ [] → M = l'.length) := by
        by_cases h : (l'.length : Int) > 1
        · rw [if_pos h]
          exact ⟨l'.length, rfl, by omega, fun _ => rfl⟩
        · rw [if_neg h]
          refine ⟨1, rfl, by decide, fun hq => ?_⟩
          have : qs.length ≠ 0 := fun z => hq (List.eq_nil_of_length_eq_zero z)
          omega
      rw [eM]
      refine ⟨mk, (M : Int), rfl, rfl, (by show (0 : Int) < (M : Int); omega), ?_⟩
      obtain ⟨at_, eat, hat⟩ : ∃ t : Nat, mk % (M : Int) = (t : Int) ∧ t < M := by
        have h1 := Int.emod_nonneg mk (show (M : Int) ≠ 0 by omega)
        have h2 := Int.emod_lt_of_pos mk (show (0 : Int) < (M : Int) by omega)
        exact ⟨(mk % (M : Int)).toNat, by omega, by omega⟩
      show gName 7 (V.int (mk % (M : Int))) _ _ _
      rw [eat]
      refine ⟨_, rfl, mk, 200, rfl, rfl, ⟨by decide, by decide⟩, _, rfl, D, _, rfl, .inl (.inl (.inl eD9)), _, _, rfl, ?_⟩
      rw [qml, eM]
      refine ⟨mk / 200, (M : Int), rfl, rfl, (by show (0 : Int) < (M : Int); omega), ?_⟩
      obtain ⟨ot, eot, hot⟩ : ∃ t : Nat, mk / 200 % (M : Int) = (t : Int) ∧ t < M := by
        have h1 := Int.emod_nonneg (mk / 200) (show (M : Int) ≠ 0 by omega)
        have h2 := Int.emod_lt_of_pos (mk / 200) (show (0 : Int) < (M : Int) by omega)
        exact ⟨(mk / 200 % (M : Int)).toNat, by omega, by omega⟩
      show gName 8 (V.int (mk / 200 % (M : Int))) _ _ _
      rw [eot]
      refine ⟨_, rfl, D, _, rfl, .inl (.inl (.inl eD9)), fun p9 np9 => ?_⟩
      have s9 := same_upd (o := .lst (qs.map V.int)) np9
      have eD10 := s9 _ _ eD9
      have eS10 := s9 _ _ eS9
      have e910 : (upd H9 p9 (.lst (qs.map V.int))) p9 = some (.lst (qs.map V.int)) := upd_same
      have d9 : D ≠ p9 := ne_of_none eD9 np9
      have c9 : sc ≠ p9 := ne_of_none eS9 np9
      clear s9 np9
      generalize upd H9 p9 (.lst (qs.map V.int)) = H10 at eD10 eS10 e910 ⊢
      refine ⟨fun σ' H' => ∃ (p' : Addr) (rs : List Int), σ' = [some (.ref a), some (.str (txt l')), some (.ref p2), some (.ref D), some (.int (i : Int)), some (.int z), some (.int mk), some (.int (at_ : Int)), some (.int (ot : Int)), some (.ref p'), y10] ∧ H' D = some (.lst (qs.map V.int)) ∧ H' sc = some (.lst (cutV (ns.map V.int) none (some 12))) ∧ H' p' = some (.lst (rs.map V.int)) ∧ rs.length ≤ 1000, ?_, ?_⟩
      · -- one number exchanged ..
        refine ⟨_, rfl, sz (by decide), fun e1 ne1 => ?_⟩
        have t1 := same_upd (o := .lst []) ne1
        refine ⟨.list (qs.map PyData.int), .list (([] : List Int).map PyData.int), .lst (.inl (.inl (t1 _ _ eD10))) (dp_ints _), .lst (.inl (.inl upd_same)) .nil, shp, sh_nil, _, rfl, ?_⟩
        have eD11 := t1 _ _ eD10
        have eS11 := t1 _ _ eS10
        have e911 := t1 _ _ e910
        clear t1
        generalize upd H10 e1 (.lst []) = H11 at eD11 eS11 e911 ⊢
        rw [eqv_intl]
        -- what is left, where neither of the first two holds
        by_cases hq : qs = []
        · rw [show (!decide (qs = [])) = false by rw [decide_eq_true hq]; rfl]
          refine iteF (iteF ?_)
          refine ⟨_, rfl, sz (by decide), fun e2 ne2 => ?_⟩
          have t2 := same_upd (o := .lst []) ne2
          refine ⟨.list (qs.map PyData.int), .list (([] : List Int).map PyData.int), .lst (.inl (.inl (t2 _ _ eD11))) (dp_ints _), .lst (.inl (.inl upd_same)) .nil, shp, sh_nil, _, rfl, ?_⟩
          have eD12 := t2 _ _ eD11
          have eS12 := t2 _ _ eS11
          have e912 := t2 _ _ e911
          clear t2
          generalize upd H11 e2 (.lst []) = H12 at eD12 eS12 e912 ⊢
          rw [eqv_intl, show (!decide (qs = [])) = false by rw [decide_eq_true hq]; rfl]
          refine iteF (iteF ?_)
          refine ⟨_, rfl, mk, 5, rfl, rfl, (by show (0 : Int) < 5; decide), rfl, _, rfl, ite2 (fun e5 => ?_) (fun e5 => ?_)⟩
          · obtain ⟨r1, er1, hr1⟩ := cut_ints qs none (some (at_ : Int))
            obtain ⟨r2, er2, hr2⟩ := cut_ints qs (some ((at_ : Int) + 1)) none
            refine ⟨_, rfl, _, rfl, _, rfl, p9, _, rfl, .inl (.inl e912), fun q1 nq1 => ?_⟩
            rw [er1]
            have u1 := same_upd (o := .lst (r1.map V.int)) nq1
            refine ⟨_, rfl, _, rfl, _, _, rfl, rfl, _, rfl, p9, _, rfl, .inl (.inl (u1 _ _ e912)), fun q2 nq2 => ?_⟩
            rw [er2]
            have u2 := same_upd (o := .lst (r2.map V.int)) nq2
            have v1 := u2 _ _ (upd_same : (upd H12 q1 (.lst (r1.map V.int))) q1 = some _)
            refine ⟨q1, q2, _, _, rfl, rfl, v1, upd_same, sz (by rw [List.length_map, List.length_map]; omega), fun q3 nq3 => ?_⟩
            have u3 := same_upd (o := .lst (r1.map V.int ++ r2.map V.int)) nq3
            refine ⟨q3, r1 ++ r2, rfl, u3 _ _ (u2 _ _ (u1 _ _ eD12)), u3 _ _ (u2 _ _ (u1 _ _ eS12)), ?_, by rw [List.length_append]; omega⟩
            rw [upd_same, List.map_append]
          · refine ⟨_, rfl, mk, 5, rfl, rfl, (by show (0 : Int) < 5; decide), rfl, _, rfl, ite2 (fun e6 => ?_) (fun e6 => ?_)⟩
            · obtain ⟨r1, er1, hr1⟩ := cut_ints qs none (some (at_ : Int))
              obtain ⟨r2, er2, hr2⟩ := cut_ints qs (some (at_ : Int)) none
              refine ⟨_, rfl, _, rfl, _, rfl, p9, _, rfl, .inl (.inl e912), fun q1 nq1 => ?_⟩
              rw [er1]
              have u1 := same_upd (o := .lst (r1.map V.int)) nq1
              refine ⟨_, rfl, sz (show 1 ≤ 1000000 by decide), fun q2 nq2 => ?_⟩
              have u2 := same_upd (o := .lst [.int (ot : Int)]) nq2
              have v1 := u2 _ _ (upd_same : (upd H12 q1 (.lst (r1.map V.int))) q1 = some _)
              refine ⟨q1, q2, _, _, rfl, rfl, v1, upd_same, sz (by rw [List.length_map]; show r1.length + 1 ≤ _; omega), fun q3 nq3 => ?_⟩
              have u3 := same_upd (o := .lst (r1.map V.int ++ [.int (ot : Int)])) nq3
              refine ⟨_, rfl, _, rfl, _, rfl, p9, _, rfl, .inl (.inl (u3 _ _ (u2 _ _ (u1 _ _ e912)))), fun q4 nq4 => ?_⟩
              rw [er2]
              have u4 := same_upd (o := .lst (r2.map V.int)) nq4
              have v3 := u4 _ _ (upd_same : (upd (upd (upd H12 q1 (.lst (r1.map V.int))) q2 (.lst [.int (ot : Int)])) q3 (.lst (r1.map V.int ++ [.int (ot : Int)]))) q3 = some _)
              refine ⟨q3, q4, _, _, rfl, rfl, v3, upd_same, sz (by rw [List.length_append, List.length_map, List.length_map]; show r1.length + 1 + r2.length ≤ _; omega), fun q5 nq5 => ?_⟩
              have u5 := same_upd (o := .lst (r1.map V.int ++ [.int (ot : Int)] ++ r2.map V.int)) nq5
              refine ⟨q5, r1 ++ [(ot : Int)] ++ r2, rfl, u5 _ _ (u4 _ _ (u3 _ _ (u2 _ _ (u1 _ _ eD12)))), u5 _ _ (u4 _ _ (u3 _ _ (u2 _ _ (u1 _ _ eS12)))), ?_, by rw [List.length_append, List.length_append]; show r1.length + 1 + r2.length ≤ _; omega⟩
              rw [upd_same, List.map_append, List.map_append]
              rfl
            · exact ⟨p9, qs, rfl, eD12, eS12, e912, by omega⟩
        · rw [show (!decide (qs = [])) = true by rw [decide_eq_false hq]; rfl]
          refine iteT ?_
          have hMl := hM2 hq
          have hatq : qs[at_]? = some qs[at_] := List.getElem?_eq_getElem (by omega)
          have hotq : qs[ot]? = some qs[ot] := List.getElem?_eq_getElem (by omega)
          generalize qs[at_]'(by omega) = va at hatq
          generalize qs[ot]'(by omega) = vo at hotq
          have gat : (qs.map V.int)[at_]? = some (.int va) := by rw [List.getElem?_map, hatq]; rfl
          have got : (qs.map V.int)[ot]? = some (.int vo) := by rw [List.getElem?_map, hotq]; rfl
          refine ⟨_, rfl, mk, 5, rfl, rfl, (by show (0 : Int) < 5; decide), rfl, _, rfl, ite2 (fun e => ?_) (fun e => ?_)⟩
          · obtain ⟨j5, ej5, hj5⟩ : ∃ j : Nat, mk / 40000 % 5 = (j : Int) ∧ j < 5 := ⟨(mk / 40000 % 5).toNat, by omega, by omega⟩
            refine ⟨_, rfl, 1, rfl, _, rfl, D, _, rfl, .inl (.inl (.inl eD11)), _, rfl, _, rfl, p9, _, _, .int va, rfl, rfl, .inl (.inl e911), at_of (j := at_) rfl gat, _, rfl, sz (show 5 ≤ 1000000 by decide), fun p10 np10 => ?_⟩
            have t3 := same_upd (o := .lst [.int (ot : Int), .int (-1), .int ((qs.map V.int).length : Int), .int va, .int (at_ : Int)]) np10
            have eD12 := t3 _ _ eD11
            have eS12 := t3 _ _ eS11
            have e912 := t3 _ _ e911
            obtain ⟨v5, gv5⟩ : ∃ v : Int, ([V.int (ot : Int), .int (-1), .int ((qs.map V.int).length : Int), .int va, .int (at_ : Int)])[j5]? = some (.int v) := by
              match j5, hj5 with
              | 0, _ => exact ⟨_, rfl⟩
              | 1, _ => exact ⟨_, rfl⟩
              | 2, _ => exact ⟨_, rfl⟩
              | 3, _ => exact ⟨_, rfl⟩
              | 4, _ => exact ⟨_, rfl⟩
            refine ⟨_, rfl, mk, 40000, rfl, rfl, ⟨by decide, by decide⟩, mk / 40000, 5, rfl, rfl, (by show (0 : Int) < 5; decide), p10, _, _, .int v5, rfl, rfl, .inl (.inl upd_same), at_of (j := j5) ej5 gv5, ?_⟩
            clear t3
            generalize upd H11 p10 (.lst [.int (ot : Int), .int (-1), .int ((qs.map V.int).length : Int), .int va, .int (at_ : Int)]) = H12 at eD12 eS12 e912 ⊢
            refine ⟨_, rfl, _, rfl, p9, _, _, at_, rfl, rfl, e912, ixN_nat (by rw [qml]; omega), ?_⟩
            rw [set_ints]
            refine ⟨p9, _, rfl, ?_, ?_, upd_same, by rw [List.length_set]; omega⟩
            · rw [upd_ne d9]
              exact eD12
            · rw [upd_ne c9]
              exact eS12
          · refine ⟨_, rfl, sz (by decide), fun e2 ne2 => ?_⟩
            have t2 := same_upd (o := .lst []) ne2
            refine ⟨.list (qs.map PyData.int), .list (([] : List Int).map PyData.int), .lst (.inl (.inl (t2 _ _ eD11))) (dp_ints _), .lst (.inl (.inl upd_same)) .nil, shp, sh_nil, _, rfl, ?_⟩
            have eD12 := t2 _ _ eD11
            have eS12 := t2 _ _ eS11
            have e912 := t2 _ _ e911
            clear t2
            generalize upd H11 e2 (.lst []) = H12 at eD12 eS12 e912 ⊢
            rw [eqv_intl, show (!decide (qs = [])) = true by rw [decide_eq_false hq]; rfl]
            refine iteT ?_
            refine ⟨_, rfl, mk, 5, rfl, rfl, (by show (0 : Int) < 5; decide), rfl, _, rfl, ite2 (fun e' => ?_) (fun e' => ?_)⟩
            · refine ⟨_, rfl, _, rfl, p9, _, _, .int vo, rfl, rfl, .inl (.inl e912), at_of (j := ot) rfl got, _, rfl, _, rfl, p9, _, _, .int va, rfl, rfl, .inl (.inl e912), at_of (j := at_) rfl gat, sz (show 2 ≤ 1000000 by decide), fun p10 np10 => ?_⟩
              have t3 := same_upd (o := .tup [.int vo, .int va]) np10
              have eD13 := t3 _ _ eD12
              have eS13 := t3 _ _ eS12
              have e913 := t3 _ _ e912
              refine ⟨p10, _, rfl, .inl (.inl upd_same), rfl, ?_⟩
              clear t3
              generalize upd H12 p10 (.tup [.int vo, .int va]) = H13 at eD13 eS13 e913 ⊢
              refine ⟨_, _, rfl, _, rfl, _, rfl, p9, _, _, at_, rfl, rfl, e913, ixN_nat (by rw [qml]; omega), ?_⟩
              rw [set_ints]
              refine ⟨_, _, rfl, _, rfl, _, rfl, p9, _, _, ot, rfl, rfl, upd_same, ixN_nat (by rw [List.length_map, List.length_set]; omega), ?_⟩
              rw [set_ints]
              refine ⟨rfl, p9, _, rfl, ?_, ?_, upd_same, by rw [List.length_set, List.length_set]; omega⟩
              · rw [upd_ne d9, upd_ne d9]
                exact eD13
              · rw [upd_ne c9, upd_ne c9]
                exact eS13
            · refine ⟨_, rfl, mk, 5, rfl, rfl, (by show (0 : Int) < 5; decide), rfl, _, rfl, ite2 (fun e5 => ?_) (fun e5 => ?_)⟩
              · obtain ⟨r1, er1, hr1⟩ := cut_ints qs none (some (at_ : Int))
                obtain ⟨r2, er2, hr2⟩ := cut_ints qs (some ((at_ : Int) + 1)) none
                refine ⟨_, rfl, _, rfl, _, rfl, p9, _, rfl, .inl (.inl e912), fun q1 nq1 => ?_⟩
                rw [er1]
                have u1 := same_upd (o := .lst (r1.map V.int)) nq1
                refine ⟨_, rfl, _, rfl, _, _, rfl, rfl, _, rfl, p9, _, rfl, .inl (.inl (u1 _ _ e912)), fun q2 nq2 => ?_⟩
                rw [er2]
                have u2 := same_upd (o := .lst (r2.map V.int)) nq2
                have v1 := u2 _ _ (upd_same : (upd H12 q1 (.lst (r1.map V.int))) q1 = some _)
                refine ⟨q1, q2, _, _, rfl, rfl, v1, upd_same, sz (by rw [List.length_map, List.length_map]; omega), fun q3 nq3 => ?_⟩
                have u3 := same_upd (o := .lst (r1.map V.int ++ r2.map V.int)) nq3
                refine ⟨q3, r1 ++ r2, rfl, u3 _ _ (u2 _ _ (u1 _ _ eD12)), u3 _ _ (u2 _ _ (u1 _ _ eS12)), ?_, by rw [List.length_append]; omega⟩
                rw [upd_same, List.map_append]
              · refine ⟨_, rfl, mk, 5, rfl, rfl, (by show (0 : Int) < 5; decide), rfl, _, rfl, ite2 (fun e6 => ?_) (fun e6 => ?_)⟩
                · obtain ⟨r1, er1, hr1⟩ := cut_ints qs none (some (at_ : Int))
                  obtain ⟨r2, er2, hr2⟩ := cut_ints qs (some (at_ : Int)) none
                  refine ⟨_, rfl, _, rfl, _, rfl, p9, _, rfl, .inl (.inl e912), fun q1 nq1 => ?_⟩
                  rw [er1]
                  have u1 := same_upd (o := .lst (r1.map V.int)) nq1
                  refine ⟨_, rfl, sz (show 1 ≤ 1000000 by decide), fun q2 nq2 => ?_⟩
                  have u2 := same_upd (o := .lst [.int (ot : Int)]) nq2
                  have v1 := u2 _ _ (upd_same : (upd H12 q1 (.lst (r1.map V.int))) q1 = some _)
                  refine ⟨q1, q2, _, _, rfl, rfl, v1, upd_same, sz (by rw [List.length_map]; show r1.length + 1 ≤ _; omega), fun q3 nq3 => ?_⟩
                  have u3 := same_upd (o := .lst (r1.map V.int ++ [.int (ot : Int)])) nq3
                  refine ⟨_, rfl, _, rfl, _, rfl, p9, _, rfl, .inl (.inl (u3 _ _ (u2 _ _ (u1 _ _ e912)))), fun q4 nq4 => ?_⟩
                  rw [er2]
                  have u4 := same_upd (o := .lst (r2.map V.int)) nq4
                  have v3 := u4 _ _ (upd_same : (upd (upd (upd H12 q1 (.lst (r1.map V.int))) q2 (.lst [.int (ot : Int)])) q3 (.lst (r1.map V.int ++ [.int (ot : Int)]))) q3 = some _)
                  refine ⟨q3, q4, _, _, rfl, rfl, v3, upd_same, sz (by rw [List.length_append, List.length_map, List.length_map]; show r1.length + 1 + r2.length ≤ _; omega), fun q5 nq5 => ?_⟩
                  have u5 := same_upd (o := .lst (r1.map V.int ++ [.int (ot : Int)] ++ r2.map V.int)) nq5
                  refine ⟨q5, r1 ++ [(ot : Int)] ++ r2, rfl, u5 _ _ (u4 _ _ (u3 _ _ (u2 _ _ (u1 _ _ eD12)))), u5 _ _ (u4 _ _ (u3 _ _ (u2 _ _ (u1 _ _ eS12)))), ?_, by rw [List.length_append, List.length_append]; show r1.length + 1 + r2.length ≤ _; omega⟩
                  rw [upd_same, List.map_append, List.map_append]
                  rfl
                · exact ⟨p9, qs, rfl, eD12, eS12, e912, by omega⟩
      · rintro σ' H11 ⟨p', rs, rfl, eD11, eS11, ep', hrs⟩
        refine ⟨_, rfl, p', rs, rfl, ep', hrs, fun l1 h1 H12 s12 => ?_, fun hno H12 s12 => ?_⟩
        · refine ⟨_, rfl, p', rs, rfl, s12 _ _ ep', hrs, fun l2 h2 H13 s13 => ⟨rfl, _, rfl, ?_⟩, fun hno => absurd h1 (hno l1)⟩
          rw [show l2 = l1 from h2.signs.symm.trans h1.signs, ne_self]
          refine iteF ?_
          exact ⟨_, _, _, _, _, _, _, rfl, s13 _ _ (s12 _ _ eD11), s13 _ _ (s12 _ _ eS11)⟩
        · refine ⟨_, rfl, p', rs, rfl, s12 _ _ ep', hrs, fun l2 h2 => absurd h2 (hno l2), fun _ H13 s13 => ⟨rfl, _, rfl, ?_⟩⟩
          rw [ne_self]
          refine iteF ?_
          exact ⟨_, _, _, _, _, _, _, rfl, s13 _ _ (s12 _ _ eD11), s13 _ _ (s12 _ _ eS11)⟩
    · rintro σ H8 ⟨y4, y5, y6, y7, y8, y9, y10, rfl, _, _⟩
      refine ⟨sz (by decide), fun q1 nq1 => ?_⟩
      refine ⟨q1, [], rfl, upd_same, by decide, fun l1 h1 H9 s9 => ?_, fun hno => absurd pairs_nil (hno [])⟩
      refine ⟨rfl, true, congrArg V.bl (decide_eq_true (by rw [pairs_nil_of h1]; exact congrArg V.str enil.symm)), iteT ?_⟩
      refine ⟨sz (show 2 ≤ 1000000 by decide), fun q2 nq2 => ?_⟩
      refine ⟨q2, [1, 0], rfl, upd_same, by decide, fun l2 h2 H10 s10 => ?_, fun hno => absurd pairs_two (hno _)⟩
      refine ⟨rfl, true, congrArg V.bl (decide_eq_true (by rw [← h2.signs]; exact congrArg V.str eud.symm)), iteT ?_⟩
      refine ⟨sz (show 1 ≤ 1000000 by decide), fun q3 nq3 => ?_⟩
      refine ⟨q3, [0], rfl, upd_same, by decide, fun l3 h3 => absurd h3 (pairs_bad l3), fun _ H11 s11 => ⟨rfl, ?_⟩⟩
      rw [decide_eq_true (show V.str "no pairs" = V.str "no pairs" from rfl)]
      exact q H11
end
end Hr
/-! ### what the top has written -/
namespace Hr
open PySem PySem.Spec PyProof.Rows L2
theorem all_mk {l : PySem.W.OpenLaw} {w : World} {K : PySem.W.Frag} {h : Heap} {mg : Str → Option Value} {fa f : Addr} (X : K.In h) (G : h.Ns mainGlobals mg) (hfa : mg "law" = some (.ref fa))
    {od an : Option Addr} {sl : Array (Option Value)} {oc kV dc pm cd ct : Value} {tk_UP tk_DOWN : Tok} {CH c0 c1 c2 c3 c4 c5 c6 c7 : Addr}
    (a : PySem.W.nsIn K mainGlobals "law" = some (some (.ref f))) (l1 : K.lookup f = some ⟨oc, od, .func (PySem.W.fnOf "law" "law" (defArgs sLaw) (defBody sLaw) (defScope sLaw) .none kV dc pm an cd ct), sl⟩) (c : PySem.W.codeIn K cd "law" = true) (k : PySem.W.keepIn K (.ref f) = true)
    (d_heights : Def K mg "heights" sHeights ["row"])
    (d_is_row : Def K mg "is_row" sIsRow ["text"])
    (d_pairs : Def K mg "pairs" s_pairs ["row"])
    (d_row_of_pairs : Def K mg "row_of_pairs" s_row_of_pairs ["places"])
    (d_is_list_of_places : Def K mg "is_list_of_places" s_is_list_of_places ["places"])
    (d_law_mixed : Def K mg "_law_mixed" sMixed ["_law_cell", "_law_k"])
    (d_law_row : Def K mg "_law_row" sLRow ["_law_script", "_law_ceiling"])
    (d_law_word : Def K mg "_law_word" sWord ["_law_error"])
    (d_law_partner : Def K mg "_law_partner" sPartner ["_law_row_here", "_law_place"])
    (d_law_told : Def K mg "_law_told" sTold ["_law_places"])
    (d_law_right : Def K mg "_law_right" sRight ["_law_places"])
    (d_is_hill : DefD K mg "is_hill" sIsHill ["row", "ceiling"])
    (d_check_hill : DefD K mg "check_hill" sChHill ["row", "ceiling"])
    (d_is_number : DefV K mg "is_number" sIsNum ["value", "most", "least"] (.int 0))
    (g_UP : PySem.W.nsIn K mainGlobals "UP" = some (some (.str "u" tk_UP)))
    (g_DOWN : PySem.W.nsIn K mainGlobals "DOWN" = some (some (.str "d" tk_DOWN)))
    (z_all : PySem.W.nsIn K mainGlobals "all" = some none)
    (z_bool : PySem.W.nsIn K mainGlobals "bool" = some none)
    (z_enumerate : PySem.W.nsIn K mainGlobals "enumerate" = some none)
    (z_int : PySem.W.nsIn K mainGlobals "int" = some none)
    (z_isinstance : PySem.W.nsIn K mainGlobals "isinstance" = some none)
    (z_len : PySem.W.nsIn K mainGlobals "len" = some none)
    (z_list : PySem.W.nsIn K mainGlobals "list" = some none)
    (z_max : PySem.W.nsIn K mainGlobals "max" = some none)
    (z_min : PySem.W.nsIn K mainGlobals "min" = some none)
    (z_range : PySem.W.nsIn K mainGlobals "range" = some none)
    (z_str : PySem.W.nsIn K mainGlobals "str" = some none)
    (z_sum : PySem.W.nsIn K mainGlobals "sum" = some none)
    (z_zip : PySem.W.nsIn K mainGlobals "zip" = some none)
    (gc0 : PySem.W.nsIn K mainGlobals "NoRow" = some (some (.ref c0)))
    (gc1 : PySem.W.nsIn K mainGlobals "NoCount" = some (some (.ref c1)))
    (gc2 : PySem.W.nsIn K mainGlobals "NoRank" = some (some (.ref c2)))
    (gc3 : PySem.W.nsIn K mainGlobals "NoPlace" = some (some (.ref c3)))
    (gc4 : PySem.W.nsIn K mainGlobals "NoTree" = some (some (.ref c4)))
    (gc5 : PySem.W.nsIn K mainGlobals "NoPairs" = some (some (.ref c5)))
    (gc6 : PySem.W.nsIn K mainGlobals "NoTurn" = some (some (.ref c6)))
    (gc7 : PySem.W.nsIn K mainGlobals "NoText" = some (some (.ref c7)))
    (gH : PySem.W.nsIn K mainGlobals "HillError" = some (some (.ref CH)))
    (hHb : PySem.W.subIn K (.ref CH) (.type "BaseException") = some true)
    (hHd : PySem.W.hasDictIn K CH = true)
    (hHt : PySem.W.typeIn K (.ref CH) = some (.type "type"))
    (on : PySem.W.specialIn K (.builtin "object.__class__") "__get__" = some (some (.builtin "getset_descriptor.__get__")))
    (ot : PySem.W.takesIn K (.builtin "object.__class__") = some true)
    (x0 : PySem.W.excIn K c0 [.type "ValueError", .type "Exception", .type "BaseException", .type "object"] "ValueError.__new__" = true)
    (k0 : PySem.W.keepIn K (.ref c0) = true)
    (b0 : PySem.W.subIn K (.ref c0) (.type "BaseException") = some true)
    (t0 : PySem.W.typeIn K (.ref c0) = some (.type "type"))
    (s0 : PySem.W.subIn K (.ref c0) (.ref CH) = some true)
    (eg0 : PySem.W.findIn K (.ref c0) "__getattribute__" = some (some (.builtin "BaseException.__getattribute__")))
    (ek0 : PySem.W.findIn K (.ref c0) "__getattr__" = some none)
    (ed0 : PySem.W.hasDictIn K c0 = true)
    (ea0 : PySem.W.findIn K (.ref c0) "__class__" = some (some (.builtin "object.__class__")))
    (em0 : PySem.W.mroIn K c0 (.type "object") = some true)
    (ve0 : PySem.W.kitOne K (.ref c0) (.type "ValueError") = some true)
    (q0_0 : PySem.W.kitOne K (.ref c0) (.ref c0) = some true)
    (q0_1 : PySem.W.kitOne K (.ref c0) (.ref c1) = some false)
    (q0_2 : PySem.W.kitOne K (.ref c0) (.ref c2) = some false)
    (q0_3 : PySem.W.kitOne K (.ref c0) (.ref c3) = some false)
    (q0_4 : PySem.W.kitOne K (.ref c0) (.ref c4) = some false)
    (q0_5 : PySem.W.kitOne K (.ref c0) (.ref c5) = some false)
    (q0_6 : PySem.W.kitOne K (.ref c0) (.ref c6) = some false)
    (q0_7 : PySem.W.kitOne K (.ref c0) (.ref c7) = some false)
    (x5 : PySem.W.excIn K c5 [.type "ValueError", .type "Exception", .type "BaseException", .type "object"] "ValueError.__new__" = true)
    (k5 : PySem.W.keepIn K (.ref c5) = true)
    (b5 : PySem.W.subIn K (.ref c5) (.type "BaseException") = some true)
    (t5 : PySem.W.typeIn K (.ref c5) = some (.type "type"))
    (s5 : PySem.W.subIn K (.ref c5) (.ref CH) = some true)
    (eg5 : PySem.W.findIn K (.ref c5) "__getattribute__" = some (some (.builtin "BaseException.__getattribute__")))
    (ek5 : PySem.W.findIn K (.ref c5) "__getattr__" = some none)
    (ed5 : PySem.W.hasDictIn K c5 = true)
    (ea5 : PySem.W.findIn K (.ref c5) "__class__" = some (some (.builtin "object.__class__")))
    (em5 : PySem.W.mroIn K c5 (.type "object") = some true)
    (ve5 : PySem.W.kitOne K (.ref c5) (.type "ValueError") = some true)
    (q5_0 : PySem.W.kitOne K (.ref c5) (.ref c0) = some false)
    (q5_1 : PySem.W.kitOne K (.ref c5) (.ref c1) = some false)
    (q5_2 : PySem.W.kitOne K (.ref c5) (.ref c2) = some false)
    (q5_3 : PySem.W.kitOne K (.ref c5) (.ref c3) = some false)
    (q5_4 : PySem.W.kitOne K (.ref c5) (.ref c4) = some false)
    (q5_5 : PySem.W.kitOne K (.ref c5) (.ref c5) = some true)
    (q5_6 : PySem.W.kitOne K (.ref c5) (.ref c6) = some false)
    (q5_7 : PySem.W.kitOne K (.ref c5) (.ref c7) = some false)
    : ∃ fd : FuncData, (∀ (s : Shared) (v : Value), BindsTo s fd ⟨[v], []⟩ [("_law_script", v)]) ∧ ∀ base : Heap, K.In base → base.Ns mainGlobals mg → FnOk l.prog w K mg base CX0 8 fa fd ["_law_script"] (spLaw K) := by
  have e := hfa.symm.trans (PySem.W.mg_of X G a)
  cases e
  have F := fun_mk (st := sLaw) l1 c k
  refine ⟨PySem.W.fnOf "law" "law" (defArgs sLaw) (defBody sLaw) (defScope sLaw) .none kV dc pm an cd ct, fun s v => .of_eq rfl, fun base _ _ => ?_⟩
  have m_all := PySem.W.mg_none_of X G z_all
  have m_bool := PySem.W.mg_none_of X G z_bool
  have m_enumerate := PySem.W.mg_none_of X G z_enumerate
  have m_int := PySem.W.mg_none_of X G z_int
  have m_isinstance := PySem.W.mg_none_of X G z_isinstance
  have m_len := PySem.W.mg_none_of X G z_len
  have m_list := PySem.W.mg_none_of X G z_list
  have m_max := PySem.W.mg_none_of X G z_max
  have m_min := PySem.W.mg_none_of X G z_min
  have m_range := PySem.W.mg_none_of X G z_range
  have m_str := PySem.W.mg_none_of X G z_str
  have m_sum := PySem.W.mg_none_of X G z_sum
  have m_zip := PySem.W.mg_none_of X G z_zip
  have c_UP := PySem.W.mg_of X G g_UP
  have c_DOWN := PySem.W.mg_of X G g_DOWN
  have mc0 := PySem.W.mg_of X G gc0
  have mc1 := PySem.W.mg_of X G gc1
  have mc2 := PySem.W.mg_of X G gc2
  have mc3 := PySem.W.mg_of X G gc3
  have mc4 := PySem.W.mg_of X G gc4
  have mc5 := PySem.W.mg_of X G gc5
  have mc6 := PySem.W.mg_of X G gc6
  have mc7 := PySem.W.mg_of X G gc7
  have mH := PySem.W.mg_of X G gH
  have er0 : Err K mg "NoRow" c0 := ⟨mc0, x0, k0, b0, t0⟩
  have is0 : IsErr K (eight c0 c1 c2 c3 c4 c5 c6 c7) 0 := ⟨by decide, ⟨eg0, ek0, b0, ed0, ea0, on, ot, em0⟩, kit_eight q0_0 q0_1 q0_2 q0_3 q0_4 q0_5 q0_6 q0_7, ve0⟩
  have ex0 := PySem.W.exm_ref hHb hHd hHt s0
  have er5 : Err K mg "NoPairs" c5 := ⟨mc5, x5, k5, b5, t5⟩
  have is5 : IsErr K (eight c0 c1 c2 c3 c4 c5 c6 c7) 5 := ⟨by decide, ⟨eg5, ek5, b5, ed5, ea5, on, ot, em5⟩, kit_eight q5_0 q5_1 q5_2 q5_3 q5_4 q5_5 q5_6 q5_7, ve5⟩
  have ex5 := PySem.W.exm_ref hHb hHd hHt s5
  obtain ⟨cIsNumA, cIsNum⟩ := cal_isNumV (P := l.prog) (w := w) (base := base) d_is_number m_isinstance m_int m_bool
  have cIsRow := cal_isRow (P := l.prog) (w := w) (base := base) d_is_row m_isinstance m_str m_all c_UP c_DOWN
  have cHeights := cal_heightsX er0 d_heights cIsRow c_UP
  obtain ⟨cIsHill, cIsHill1⟩ := cal_isHill d_is_hill cIsRow cHeights m_min m_max
  obtain ⟨cChHill, cChHill1⟩ := cal_chHillX er0 d_check_hill cIsHill
  have cPairs := cal_pairsX d_pairs cChHill1 m_len m_enumerate c_UP
  have cIsPlaces := cal_isPlaces d_is_list_of_places cIsNum m_isinstance m_list m_len m_all
  have cOf := cal_ofPairs er5 d_row_of_pairs cIsPlaces cIsHill1 cPairs m_enumerate c_UP c_DOWN
  have cMixed := cal_mixed (P := l.prog) (w := w) (base := base) d_law_mixed
  have cLRow := cal_lrow d_law_row cMixed m_len m_min m_max m_sum m_range
  have cWord := cal_word (cs := (eight c0 c1 c2 c3 c4 c5 c6 c7)) (P := l.prog) (w := w) (base := base) d_law_word mc0 mc1 mc2 mc3 mc4 mc5 mc6 mc7 m_isinstance m_zip
  have cPartner := cal_partner (P := l.prog) (w := w) (base := base) d_law_partner m_int
  have cTold := cal_told (cs := (eight c0 c1 c2 c3 c4 c5 c6 c7)) d_law_told mH is5 ex5 cOf cWord
  have cRight := cal_right d_law_right cPartner m_int m_len m_range m_enumerate
  exact ok_law F cMixed cLRow cPairs cPartner cTold cRight m_len m_range m_isinstance m_list m_enumerate m_max
end Hr
open PySem PySem.W PyProof.Rows
set_option maxHeartbeats 0 in
theorem PySem.Challenge.cw_hillrows_k08_pairs_holds : PySem.Challenge.rw_hillrows_k08_pairs.Holds := by
  w_on; o_law; k_head; (case hw => w_witness2)
  k_fill
  refine L2.walk_of (l := PySem.Challenge.rw_hillrows_k08_pairs) (n := 63) (k := 8) (x := "_law_script") (CX := fun _ => L2.CX0) (sp := fun w => Hr.spLaw _) rfl (by decide) rfl ⟨rfl, by decide, by decide⟩ (fun w h Y => PySem.W.kIn_of Y) ?F (fun _ _ a ns hl _ hS => ⟨a, ns, rfl, hS, hl, fun _ => rfl⟩) (fun _ _ _ _ _ h => h)
  case F =>
    intro w mg fa h KX G hmg
    refine' Hr.all_mk KX G hmg ?a ?l1 ?c ?k ?d_heights ?d_is_row ?d_pairs ?d_row_of_pairs ?d_is_list_of_places ?d_law_mixed ?d_law_row ?d_law_word ?d_law_partner ?d_law_told ?d_law_right ?d_is_hill ?d_check_hill ?d_is_number ?g_UP ?g_DOWN ?z_all ?z_bool ?z_enumerate ?z_int ?z_isinstance ?z_len ?z_list ?z_max ?z_min ?z_range ?z_str ?z_sum ?z_zip ?gc0 ?gc1 ?gc2 ?gc3 ?gc4 ?gc5 ?gc6 ?gc7 ?gH ?hHb ?hHd ?hHt ?on ?ot ?x0 ?k0 ?b0 ?t0 ?s0 ?eg0 ?ek0 ?ed0 ?ea0 ?em0 ?ve0 ?q0_0 ?q0_1 ?q0_2 ?q0_3 ?q0_4 ?q0_5 ?q0_6 ?q0_7 ?x5 ?k5 ?b5 ?t5 ?s5 ?eg5 ?ek5 ?ed5 ?ea5 ?em5 ?ve5 ?q5_0 ?q5_1 ?q5_2 ?q5_3 ?q5_4 ?q5_5 ?q5_6 ?q5_7
    (case a => k_is); (case l1 => k_is); (case c => k_is); (case k => k_is)
    case d_heights =>
      refine' Hr.def_mk KX G (fun _ _ _ _ _ _ us hl => match us, hl with | [_], _ => rfl) ?a ?l ?c ?k
      (case a => k_is); (case l => k_is); (case c => k_is); (case k => k_is)
    case d_is_row =>
      refine' Hr.def_mk KX G (fun _ _ _ _ _ _ us hl => match us, hl with | [_], _ => rfl) ?a ?l ?c ?k
      (case a => k_is); (case l => k_is); (case c => k_is); (case k => k_is)
    case d_pairs =>
      refine' Hr.def_mk KX G (fun _ _ _ _ _ _ us hl => match us, hl with | [_], _ => rfl) ?a ?l ?c ?k
      (case a => k_is); (case l => k_is); (case c => k_is); (case k => k_is)
    case d_row_of_pairs =>
      refine' Hr.def_mk KX G (fun _ _ _ _ _ _ us hl => match us, hl with | [_], _ => rfl) ?a ?l ?c ?k
      (case a => k_is); (case l => k_is); (case c => k_is); (case k => k_is)
    case d_is_list_of_places =>
      refine' Hr.def_mk KX G (fun _ _ _ _ _ _ us hl => match us, hl with | [_], _ => rfl) ?a ?l ?c ?k
      (case a => k_is); (case l => k_is); (case c => k_is); (case k => k_is)
    case d_law_mixed =>
      refine' Hr.def_mk KX G (fun _ _ _ _ _ _ us hl => match us, hl with | [_, _], _ => rfl) ?a ?l ?c ?k
      (case a => k_is); (case l => k_is); (case c => k_is); (case k => k_is)
    case d_law_row =>
      refine' Hr.def_mk KX G (fun _ _ _ _ _ _ us hl => match us, hl with | [_, _], _ => rfl) ?a ?l ?c ?k
      (case a => k_is); (case l => k_is); (case c => k_is); (case k => k_is)
    case d_law_word =>
      refine' Hr.def_mk KX G (fun _ _ _ _ _ _ us hl => match us, hl with | [_], _ => rfl) ?a ?l ?c ?k
      (case a => k_is); (case l => k_is); (case c => k_is); (case k => k_is)
    case d_law_partner =>
      refine' Hr.def_mk KX G (fun _ _ _ _ _ _ us hl => match us, hl with | [_, _], _ => rfl) ?a ?l ?c ?k
      (case a => k_is); (case l => k_is); (case c => k_is); (case k => k_is)
    case d_law_told =>
      refine' Hr.def_mk KX G (fun _ _ _ _ _ _ us hl => match us, hl with | [_], _ => rfl) ?a ?l ?c ?k
      (case a => k_is); (case l => k_is); (case c => k_is); (case k => k_is)
    case d_law_right =>
      refine' Hr.def_mk KX G (fun _ _ _ _ _ _ us hl => match us, hl with | [_], _ => rfl) ?a ?l ?c ?k
      (case a => k_is); (case l => k_is); (case c => k_is); (case k => k_is)
    case d_is_hill =>
      refine' Hr.defD_mk (m := 1) KX G rfl (fun _ _ _ _ _ _ _ us its hu hi => match us, hu, its, hi with | [_, _], _, [_], _ => ⟨_, rfl, rfl⟩) (fun _ _ _ _ _ _ _ us its hu hi => match us, hu, its, hi with | [_], _, [_], _ => ⟨_, rfl, rfl⟩) ?a ?l ?c ?k ?t
      (case a => k_is); (case l => k_is); (case c => k_is); (case k => k_is); (case t => k_is)
    case d_check_hill =>
      refine' Hr.defD_mk (m := 1) KX G rfl (fun _ _ _ _ _ _ _ us its hu hi => match us, hu, its, hi with | [_, _], _, [_], _ => ⟨_, rfl, rfl⟩) (fun _ _ _ _ _ _ _ us its hu hi => match us, hu, its, hi with | [_], _, [_], _ => ⟨_, rfl, rfl⟩) ?a ?l ?c ?k ?t
      (case a => k_is); (case l => k_is); (case c => k_is); (case k => k_is); (case t => k_is)
    case d_is_number =>
      refine' Hr.defV_mk (m := 2) KX G rfl (fun _ _ _ _ _ _ _ us its hu hi => match us, hu, its, hi with | [_, _, _], _, [_], _ => ⟨_, rfl, rfl⟩) (fun _ _ _ _ _ _ _ us its hu hi => match us, hu, its, hi with | [_, _], _, [_], _ => ⟨_, rfl, rfl⟩) ?a ?l ?c ?k ?hu ?t
      (case a => k_is); (case l => k_is); (case c => k_is); (case k => k_is); (case t => k_is); (case hu => exact ⟨_, rfl⟩)
    (case g_UP => k_is)
    (case g_DOWN => k_is)
    (case z_all => k_is)
    (case z_bool => k_is)
    (case z_enumerate => k_is)
    (case z_int => k_is)
    (case z_isinstance => k_is)
    (case z_len => k_is)
    (case z_list => k_is)
    (case z_max => k_is)
    (case z_min => k_is)
    (case z_range => k_is)
    (case z_str => k_is)
    (case z_sum => k_is)
    (case z_zip => k_is)
    (case gc0 => k_is)
    (case gc1 => k_is)
    (case gc2 => k_is)
    (case gc3 => k_is)
    (case gc4 => k_is)
    (case gc5 => k_is)
    (case gc6 => k_is)
    (case gc7 => k_is)
    (case gH => k_is)
    (case hHb => k_is)
    (case hHd => k_is)
    (case hHt => k_is)
    (case on => k_is)
    (case ot => k_is)
    (case x0 => k_exc)
    (case k0 => k_is)
    (case b0 => k_is)
    (case t0 => k_is)
    (case s0 => k_is)
    (case eg0 => k_is)
    (case ek0 => k_is)
    (case ed0 => k_is)
    (case ea0 => k_is)
    (case em0 => k_is)
    (case ve0 => kit_is)
    (case q0_0 => kit_is)
    (case q0_1 => kit_is)
    (case q0_2 => kit_is)
    (case q0_3 => kit_is)
    (case q0_4 => kit_is)
    (case q0_5 => kit_is)
    (case q0_6 => kit_is)
    (case q0_7 => kit_is)
    (case x5 => k_exc)
    (case k5 => k_is)
    (case b5 => k_is)
    (case t5 => k_is)
    (case s5 => k_is)
    (case eg5 => k_is)
    (case ek5 => k_is)
    (case ed5 => k_is)
    (case ea5 => k_is)
    (case em5 => k_is)
    (case ve5 => kit_is)
    (case q5_0 => kit_is)
    (case q5_1 => kit_is)
    (case q5_2 => kit_is)
    (case q5_3 => kit_is)
    (case q5_4 => kit_is)
    (case q5_5 => kit_is)
    (case q5_6 => kit_is)
    (case q5_7 => kit_is)
