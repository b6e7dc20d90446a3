import PyProof.Rows.All
import Wide.All
import OpenK.AllK
import Wide.FinOn
import HandS.ForMost
import HandS.IsInst
import HandS.Defaults
import HandS.Walk
import HandS.Codes
import HandS.RevRange
import HandS.ForExc
import KE.GoesMore
import HandS.ExcIs
import HandS.RaiseMore
import HandS.FStr
import HandS.ExcValue
import KE.RegKIsAll
import PySem.Challenge.RW_hillrows_k04_whole_all_in_order
set_option Elab.async false
set_option linter.all false
set_option maxRecDepth 100000
namespace Hr
/-- the ways to the ground with k signs from the height h, none above T (for h at most T) -/
def W (T : Nat) : Nat → Nat → Nat
  | 0, h => if h = 0 then 1 else 0
  | k + 1, h => (if h = 0 then 0 else W T k (h - 1)) + (if h < T then W T k (h + 1) else 0)
theorem W_zero (T : Nat) : ∀ k h, k < h → W T k h = 0
  | 0, h, e => by
    unfold W
    rw [if_neg (by omega)]
  | k + 1, h, e => by
    unfold W
    rw [if_neg (show ¬ h = 0 by omega), W_zero T k (h - 1) (by omega), W_zero T k (h + 1) (by omega)]
    split <;> rfl
theorem W_same {T T' : Nat} (hT : T ≤ T') : ∀ k h, h ≤ T → k + h ≤ 2 * T + 1 → W T k h = W T' k h
  | 0, h, _, _ => by simp only [W]
  | k + 1, h, e, l => by
    simp only [W]
    by_cases h0 : h = 0
    · rw [if_pos h0, if_pos h0]
      by_cases hl : h < T
      · rw [if_pos hl, if_pos (show h < T' by omega), W_same hT k (h + 1) (by omega) (by omega)]
      · rw [if_neg hl]
        by_cases hl' : h < T'
        · rw [if_pos hl', W_zero T' k (h + 1) (by omega)]
        · rw [if_neg hl']
    · rw [if_neg h0, if_neg h0, W_same hT k (h - 1) (by omega) (by omega)]
      by_cases hl : h < T
      · rw [if_pos hl, if_pos (show h < T' by omega), W_same hT k (h + 1) (by omega) (by omega)]
      · rw [if_neg hl]
        by_cases hl' : h < T'
        · rw [if_pos hl', W_zero T' k (h + 1) (by omega)]
        · rw [if_neg hl']
/-- one row of the table -/
def rowW (T k : Nat) : List Int := (List.range (T + 1)).map fun h => ((W T k h : Nat) : Int)
theorem rowW_len (T k : Nat) : (rowW T k).length = T + 1 := by
  unfold rowW
  rw [List.length_map, List.length_range]
theorem rowW_get {T k h : Nat} (e : h ≤ T) : (rowW T k)[h]? = some ((W T k h : Nat) : Int) := by
  unfold rowW
  rw [List.getElem?_map, List.getElem?_range (by omega)]
  rfl
theorem rowW_zero (T : Nat) : rowW T 0 = 1 :: List.replicate T 0 := by
  unfold rowW
  apply List.ext_getElem?
  intro i
  rw [List.getElem?_map]
  cases i with
  | zero => rw [List.getElem?_range (by omega)]; rfl
  | succ i =>
    rw [List.getElem?_cons_succ]
    by_cases h : i < T
    · rw [List.getElem?_range (by omega), List.getElem?_replicate, if_pos h]
      rfl
    · rw [List.getElem?_eq_none (by rw [List.length_range]; omega), List.getElem?_replicate, if_neg h]
      rfl
/-- the padded row -/
def padW (l : List Int) : List Int := 0 :: (l ++ [0])
theorem pad_lo {T k h : Nat} (e : h ≤ T) : (padW (rowW T k))[h]? = some (((if h = 0 then 0 else W T k (h - 1) : Nat)) : Int) := by
  unfold padW
  cases h with
  | zero => rfl
  | succ h =>
    rw [List.getElem?_cons_succ, List.getElem?_append_left (by rw [rowW_len]; omega), rowW_get (by omega)]
    rfl
theorem pad_hi {T k h : Nat} (e : h ≤ T) : (padW (rowW T k))[h + 2]? = some (((if h < T then W T k (h + 1) else 0 : Nat)) : Int) := by
  unfold padW
  rw [List.getElem?_cons_succ]
  by_cases hl : h < T
  · rw [List.getElem?_append_left (by rw [rowW_len]; omega), rowW_get (by omega), if_pos hl]
  · have e : h = T := by omega
    subst e
    rw [List.getElem?_append_right (by rw [rowW_len]; omega), rowW_len, Nat.sub_self, if_neg hl]
    rfl
theorem row_step {T k h : Nat} (e : h ≤ T) : ∃ a b : Int, (padW (rowW T k))[h]? = some a ∧ (padW (rowW T k))[h + 2]? = some b ∧ (rowW T (k + 1))[h]? = some (a + b) := by
  refine ⟨_, _, pad_lo e, pad_hi e, ?_⟩
  rw [rowW_get e]
  simp only [W]
  rw [Int.natCast_add]
theorem W_le (T : Nat) : ∀ k h, W T k h ≤ 2 ^ k
  | 0, h => by
    unfold W
    split <;> decide
  | k + 1, h => by
    have a := W_le T k (h - 1)
    have b := W_le T k (h + 1)
    unfold W
    rw [Nat.pow_succ]
    split <;> split <;> omega

/-! ### hill rows by growing beginnings -/
section
variable {α : Type} (d u : α → α)
/-- the ceiling: none or some k -/
def under : Option Nat → Nat → Bool
  | none, _ => true
  | some c, h => decide (h < c)
def low (h : Nat) : Option Nat → Nat
  | none => h
  | some c => min h c
def grow1 (c : Option Nat) (p : α × Nat) : List (α × Nat) :=
  (if 0 < p.2 then [(d p.1, p.2 - 1)] else []) ++ (if under c p.2 = true then [(u p.1, p.2 + 1)] else [])
def growAll (c : Option Nat) (l : List (α × Nat)) : List (α × Nat) := l.flatMap (grow1 d u c)
def grown (c : Option Nat) (a : α) : Nat → List (α × Nat)
  | 0 => [(a, 0)]
  | k + 1 => growAll d u c (grown c a k)
def cnt (h : Nat) (l : List (α × Nat)) : Nat := (l.filter fun p => p.2 == h).length
theorem cnt_nil (h : Nat) : cnt h ([] : List (α × Nat)) = 0 := rfl
theorem cnt_append (h : Nat) (l r : List (α × Nat)) : cnt h (l ++ r) = cnt h l + cnt h r := by
  unfold cnt
  rw [List.filter_append, List.length_append]
theorem cnt_one (h : Nat) (a : α) (k : Nat) : cnt h [(a, k)] = if k = h then 1 else 0 := by
  unfold cnt
  by_cases e : k = h
  · rw [if_pos e, List.filter_cons_of_pos (by simp [e])]
    rfl
  · rw [if_neg e, List.filter_cons_of_neg (by simp [e])]
    rfl
theorem cnt_cons (h : Nat) (p : α × Nat) (l : List (α × Nat)) : cnt h (p :: l) = (if p.2 = h then 1 else 0) + cnt h l := by
  rw [← List.singleton_append, cnt_append, show cnt h [p] = if p.2 = h then 1 else 0 from cnt_one h p.1 p.2]
theorem cnt_grow1 (c : Option Nat) (h : Nat) (p : α × Nat) : cnt h (grow1 d u c p) = (if p.2 = h + 1 then 1 else 0) + (if 0 < h ∧ under c (h - 1) = true ∧ p.2 = h - 1 then 1 else 0) := by
  unfold grow1
  rw [cnt_append]
  congr 1
  · by_cases e : 0 < p.2
    · rw [if_pos e, cnt_one]
      by_cases e2 : p.2 = h + 1
      · rw [if_pos e2, if_pos (by omega)]
      · rw [if_neg e2, if_neg (by omega)]
    · rw [if_neg e, cnt_nil, if_neg (by omega)]
  · by_cases e : under c p.2 = true
    · rw [if_pos e, cnt_one]
      by_cases e2 : p.2 + 1 = h
      · have : h - 1 = p.2 := by omega
        rw [if_pos e2, if_pos ⟨by omega, by rw [this]; exact e, by omega⟩]
      · rw [if_neg e2, if_neg (by omega)]
    · rw [if_neg e, cnt_nil]
      by_cases e2 : 0 < h ∧ under c (h - 1) = true ∧ p.2 = h - 1
      · rw [← e2.2.2] at e2
        exact absurd e2.2.1 e
      · rw [if_neg e2]
theorem cnt_growAll (c : Option Nat) (h : Nat) : ∀ l : List (α × Nat), cnt h (growAll d u c l) = cnt (h + 1) l + (if 0 < h ∧ under c (h - 1) = true then cnt (h - 1) l else 0)
  | [] => by
    show 0 = 0 + (if _ then 0 else 0)
    split <;> rfl
  | p :: l => by
    have e : growAll d u c (p :: l) = grow1 d u c p ++ growAll d u c l := rfl
    rw [e, cnt_append, cnt_grow1, cnt_growAll c h l, cnt_cons, cnt_cons]
    by_cases e1 : 0 < h ∧ under c (h - 1) = true
    · rw [if_pos e1, if_pos e1]
      by_cases e2 : p.2 = h - 1
      · rw [if_pos (show 0 < h ∧ under c (h - 1) = true ∧ p.2 = h - 1 from ⟨e1.1, e1.2, e2⟩), if_pos e2]
        omega
      · rw [if_neg (show ¬ (0 < h ∧ under c (h - 1) = true ∧ p.2 = h - 1) from fun z => e2 z.2.2), if_neg e2]
        omega
    · rw [if_neg e1, if_neg e1, if_neg (show ¬ (0 < h ∧ under c (h - 1) = true ∧ p.2 = h - 1) from fun z => e1 ⟨z.1, z.2.1⟩)]
      omega
/-- no row grown in k signs is higher than k -/
theorem cnt_grown (c : Option Nat) (a : α) (T : Nat) (hT : ∀ k, c = some k → T = k) : ∀ k h, (c = none → k + h ≤ 2 * T + 1) → h ≤ T → cnt h (grown d u c a k) = W T k h
  | 0, h, _, _ => by
    show cnt h [(a, 0)] = _
    rw [cnt_one]
    unfold W
    by_cases e : h = 0
    · rw [if_pos e, if_pos e.symm]
    · rw [if_neg e, if_neg (fun z => e z.symm)]
  | k + 1, h, hc, hl => by
    show cnt h (growAll d u c (grown d u c a k)) = _
    rw [cnt_growAll]
    simp only [W]
    rw [Nat.add_comm]
    congr 1
    · by_cases e0 : h = 0
      · rw [if_pos e0, if_neg (by omega)]
      · rw [if_neg e0]
        have hu : under c (h - 1) = true := by
          cases c with
          | none => rfl
          | some k =>
            have := hT k rfl
            unfold under
            exact decide_eq_true (by omega)
        rw [if_pos ⟨by omega, hu⟩, cnt_grown c a T hT k (h - 1) (fun z => by have := hc z; omega) (by omega)]
    · by_cases e : h < T
      · rw [if_pos e, cnt_grown c a T hT k (h + 1) (fun z => by have := hc z; omega) (by omega)]
      · rw [if_neg e]
        cases c with
        | none =>
          have z := hc rfl
          exact cnt_zero_len none a k (h + 1) (by omega)
        | some j =>
          have e3 := hT j rfl
          exact cnt_zero_top2 j a k (h + 1) (by omega)
where
  cnt_zero_len (c : Option Nat) (a : α) : ∀ k h, k < h → cnt h (grown d u c a k) = 0
    | 0, h, e => by
      show cnt h [(a, 0)] = 0
      rw [cnt_one, if_neg (by omega)]
    | k + 1, h, e => by
      show cnt h (growAll d u c (grown d u c a k)) = 0
      rw [cnt_growAll, cnt_zero_len c a k (h + 1) (by omega), cnt_zero_len c a k (h - 1) (by omega)]
      split <;> rfl
  cnt_zero_top2 (j : Nat) (a : α) : ∀ k h, j < h → cnt h (grown d u (some j) a k) = 0
    | 0, h, e => by
      show cnt h [(a, 0)] = 0
      rw [cnt_one, if_neg (by omega)]
    | k + 1, h, e => by
      show cnt h (growAll d u (some j) (grown d u (some j) a k)) = 0
      rw [cnt_growAll, cnt_zero_top2 j a k (h + 1) (by omega), if_neg (fun z => ?_)]
      have := z.2
      unfold under at this
      have := of_decide_eq_true this
      omega
theorem grown_len (c : Option Nat) (a : α) : ∀ k, (grown d u c a k).length ≤ 2 ^ k
  | 0 => Nat.le_refl 1
  | k + 1 => by
    have ih := grown_len c a k
    have g : ∀ l : List (α × Nat), (growAll d u c l).length ≤ 2 * l.length := by
      intro l
      induction l with
      | nil => exact Nat.le_refl _
      | cons p l il =>
        have e : growAll d u c (p :: l) = grow1 d u c p ++ growAll d u c l := rfl
        rw [e, List.length_append, List.length_cons]
        have : (grow1 d u c p).length ≤ 2 := by
          unfold grow1
          rw [List.length_append]
          split <;> split <;> simp
        omega
    have := g (grown d u c a k)
    show (growAll d u c (grown d u c a k)).length ≤ _
    rw [Nat.pow_succ]
    omega
/-- as many as the table counts -/
theorem counted_ok (c : Option Nat) (a : α) (n : Nat) : cnt 0 (grown d u c a (2 * n)) = W (low n c) (2 * n) 0 := by
  cases c with
  | none => exact cnt_grown d u none a n (fun _ z => nomatch z) _ _ (fun _ => by omega) (Nat.zero_le _)
  | some j =>
    rw [cnt_grown d u (some j) a j (fun k z => by cases z; rfl) _ _ (fun z => nomatch z) (Nat.zero_le _)]
    show W j (2 * n) 0 = W (min n j) (2 * n) 0
    by_cases h : j ≤ n
    · rw [Nat.min_eq_right h]
    · rw [Nat.min_eq_left (by omega)]
      exact (W_same (by omega) _ _ (Nat.zero_le _) (by omega)).symm
end
end Hr
namespace Hr
/-! ### rows as lists of signs: true is up -/
/-- all rows of k signs from the height h to the ground, none above T, in order -/
def rws (T : Nat) : Nat → Nat → List (List Bool)
  | 0, h => if h = 0 then [[]] else []
  | k + 1, h => (if h = 0 then [] else (rws T k (h - 1)).map (false :: ·)) ++ (if h < T then (rws T k (h + 1)).map (true :: ·) else [])
theorem rws_len (T : Nat) : ∀ k h, (rws T k h).length = W T k h
  | 0, h => by
    unfold rws W
    split <;> rfl
  | k + 1, h => by
    unfold rws W
    rw [List.length_append]
    congr 1
    · split
      · rfl
      · rw [List.length_map, rws_len T k (h - 1)]
    · split
      · rw [List.length_map, rws_len T k (h + 1)]
      · rfl
/-- the row of a rank -/
def unrank (T : Nat) : Nat → Nat → Nat → List Bool
  | 0, _, _ => []
  | k + 1, h, r => if r < (if h = 0 then 0 else W T k (h - 1)) then false :: unrank T k (h - 1) r else true :: unrank T k (h + 1) (r - (if h = 0 then 0 else W T k (h - 1)))
/-- the ways down -/
def dn (T k h : Nat) : Nat := if h = 0 then 0 else W T k (h - 1)
theorem unrank_succ (T k h r : Nat) : unrank T (k + 1) h r = if r < dn T k h then false :: unrank T k (h - 1) r else true :: unrank T k (h + 1) (r - dn T k h) := rfl
theorem W_succ (T k h : Nat) : W T (k + 1) h = dn T k h + (if h < T then W T k (h + 1) else 0) := rfl
/-- the rank of a row that goes on from h -/
def rankOf (T : Nat) : Nat → List Bool → Nat
  | _, [] => 0
  | h, true :: l => dn T l.length h + rankOf T (h + 1) l
  | h, false :: l => rankOf T (h - 1) l
/-- a row from h to the ground under the ceiling -/
def okb (c : Option Nat) : Nat → List Bool → Bool
  | h, [] => h == 0
  | h, true :: l => under c h && okb c (h + 1) l
  | h, false :: l => (h != 0) && okb c (h - 1) l
theorem okb_up {c : Option Nat} {h : Nat} {l : List Bool} (e : okb c h (true :: l) = true) : under c h = true ∧ okb c (h + 1) l = true := by
  unfold okb at e
  exact Bool.and_eq_true_iff.mp e
theorem okb_down {c : Option Nat} {h : Nat} {l : List Bool} (e : okb c h (false :: l) = true) : h ≠ 0 ∧ okb c (h - 1) l = true := by
  unfold okb at e
  obtain ⟨a, b⟩ := Bool.and_eq_true_iff.mp e
  exact ⟨by simpa using a, b⟩
theorem okb_len {c : Option Nat} : ∀ {l : List Bool} {h : Nat}, okb c h l = true → h ≤ l.length
  | [], h, e => by
    have : h = 0 := by simpa [okb] using e
    omega
  | true :: l, h, e => by
    have := okb_len (okb_up e).2
    rw [List.length_cons]
    omega
  | false :: l, h, e => by
    have := okb_len (okb_down e).2
    rw [List.length_cons]
    omega
theorem rank_lt {T : Nat} : ∀ {l : List Bool} {h : Nat}, okb (some T) h l = true → rankOf T h l < W T l.length h
  | [], h, e => by
    have e0 : h = 0 := by simpa [okb] using e
    rw [e0]
    exact Nat.zero_lt_one
  | true :: l, h, e => by
    obtain ⟨a, b⟩ := okb_up e
    have ih := rank_lt b
    have a' : h < T := of_decide_eq_true a
    rw [List.length_cons, W_succ, if_pos a']
    show dn T l.length h + rankOf T (h + 1) l < _
    omega
  | false :: l, h, e => by
    obtain ⟨a, b⟩ := okb_down e
    have ih := rank_lt b
    rw [List.length_cons, W_succ]
    show rankOf T (h - 1) l < _
    unfold dn
    rw [if_neg a]
    omega
theorem unrank_rank {T : Nat} : ∀ {l : List Bool} {h : Nat}, okb (some T) h l = true → unrank T l.length h (rankOf T h l) = l
  | [], h, e => rfl
  | true :: l, h, e => by
    obtain ⟨a, b⟩ := okb_up e
    rw [List.length_cons, unrank_succ]
    show (if dn T l.length h + rankOf T (h + 1) l < dn T l.length h then _ else true :: unrank T l.length (h + 1) (dn T l.length h + rankOf T (h + 1) l - dn T l.length h)) = _
    rw [if_neg (by omega), Nat.add_sub_cancel_left, unrank_rank b]
  | false :: l, h, e => by
    obtain ⟨a, b⟩ := okb_down e
    have := rank_lt b
    rw [List.length_cons, unrank_succ]
    show (if rankOf T (h - 1) l < dn T l.length h then false :: unrank T l.length (h - 1) (rankOf T (h - 1) l) else _) = _
    rw [if_pos (by unfold dn; rw [if_neg a]; exact this), unrank_rank b]
theorem unrank_ok {T : Nat} : ∀ {k h r : Nat}, r < W T k h → okb (some T) h (unrank T k h r) = true ∧ (unrank T k h r).length = k ∧ rankOf T h (unrank T k h r) = r
  | 0, h, r, e => by
    unfold W at e
    by_cases h0 : h = 0
    · rw [if_pos h0] at e
      refine ⟨?_, rfl, ?_⟩
      · rw [h0]
        rfl
      · show 0 = r
        omega
    · rw [if_neg h0] at e
      omega
  | k + 1, h, r, e => by
    rw [unrank_succ]
    rw [W_succ] at e
    by_cases hr : r < dn T k h
    · rw [if_pos hr]
      have h0 : h ≠ 0 := fun z => by
        unfold dn at hr
        rw [if_pos z] at hr
        omega
      have hr' : r < W T k (h - 1) := by
        unfold dn at hr
        rw [if_neg h0] at hr
        exact hr
      obtain ⟨a, b, c⟩ := unrank_ok hr'
      refine ⟨?_, by rw [List.length_cons, b], c⟩
      unfold okb
      rw [a, Bool.and_true]
      simpa using h0
    · rw [if_neg hr]
      by_cases hT : h < T
      · rw [if_pos hT] at e
        obtain ⟨a, b, c⟩ := unrank_ok (T := T) (k := k) (h := h + 1) (r := r - dn T k h) (by omega)
        refine ⟨?_, by rw [List.length_cons, b], ?_⟩
        · unfold okb
          rw [a, Bool.and_true]
          exact decide_eq_true hT
        · show dn T _ h + rankOf T (h + 1) _ = r
          rw [b, c]
          omega
      · rw [if_neg hT] at e
        omega
theorem unrank_get {T : Nat} : ∀ {k h r : Nat}, r < W T k h → (rws T k h)[r]? = some (unrank T k h r)
  | 0, h, r, e => by
    unfold W at e
    by_cases h0 : h = 0
    · rw [if_pos h0] at e
      have : r = 0 := by omega
      rw [this, h0]
      rfl
    · rw [if_neg h0] at e
      omega
  | k + 1, h, r, e => by
    rw [unrank_succ]
    rw [W_succ] at e
    unfold rws
    have hl : (if h = 0 then [] else (rws T k (h - 1)).map (false :: ·)).length = dn T k h := by
      unfold dn
      split
      · rfl
      · rw [List.length_map, rws_len]
    by_cases hr : r < dn T k h
    · rw [if_pos hr, List.getElem?_append_left (by rw [hl]; exact hr)]
      have h0 : h ≠ 0 := fun z => by
        unfold dn at hr
        rw [if_pos z] at hr
        omega
      have hr' : r < W T k (h - 1) := by
        unfold dn at hr
        rw [if_neg h0] at hr
        exact hr
      rw [if_neg h0, List.getElem?_map, unrank_get hr']
      rfl
    · rw [if_neg hr, List.getElem?_append_right (by rw [hl]; omega), hl]
      by_cases hT : h < T
      · rw [if_pos hT] at e ⊢
        rw [List.getElem?_map, unrank_get (T := T) (k := k) (h := h + 1) (r := r - dn T k h) (by omega)]
        rfl
      · rw [if_neg hT] at e
        omega
/-- a hill row of n ups is not higher than n -/
theorem okb_low {c : Option Nat} {n : Nat} : ∀ {l : List Bool} {h : Nat}, h + l.length ≤ 2 * n → okb c h l = true → okb (some (low n c)) h l = true
  | [], h, _, e => e
  | true :: l, h, hn, e => by
    obtain ⟨a, b⟩ := okb_up e
    rw [List.length_cons] at hn
    have := okb_len b
    unfold okb
    rw [okb_low (by omega) b, Bool.and_true]
    refine decide_eq_true ?_
    cases c with
    | none => show h < n; omega
    | some k =>
      have a' : h < k := of_decide_eq_true a
      show h < min n k
      omega
  | false :: l, h, hn, e => by
    obtain ⟨a, b⟩ := okb_down e
    rw [List.length_cons] at hn
    unfold okb
    rw [okb_low (by omega) b, Bool.and_true]
    simpa using a
theorem okb_up_of {c : Option Nat} {n : Nat} : ∀ {l : List Bool} {h : Nat}, okb (some (low n c)) h l = true → okb c h l = true
  | [], h, e => e
  | true :: l, h, e => by
    obtain ⟨a, b⟩ := okb_up e
    unfold okb
    rw [okb_up_of b, Bool.and_true]
    have a' : h < low n c := of_decide_eq_true a
    cases c with
    | none => rfl
    | some k =>
      have a' : h < min n k := a'
      exact decide_eq_true (by omega)
  | false :: l, h, e => by
    obtain ⟨a, b⟩ := okb_down e
    unfold okb
    rw [okb_up_of b, Bool.and_true]
    simpa using a
/-- how many ups -/
theorem okb_ups {c : Option Nat} : ∀ {l : List Bool} {h : Nat}, okb c h l = true → h + 2 * (l.filter id).length = l.length
  | [], h, e => by
    have e0 : h = 0 := by simpa [okb] using e
    rw [e0]
    rfl
  | true :: l, h, e => by
    have := okb_ups (okb_up e).2
    rw [List.length_cons, List.filter_cons_of_pos rfl, List.length_cons]
    omega
  | false :: l, h, e => by
    obtain ⟨a, b⟩ := okb_down e
    have := okb_ups b
    rw [List.length_cons, List.filter_cons_of_neg (by simp)]
    omega
theorem okb_even {c : Option Nat} {l : List Bool} (e : okb c 0 l = true) : l.length = 2 * (l.length / 2) := by
  have := okb_ups e
  omega
/-! ### heights -/
def sg (b : Bool) : Int := if b = true then 1 else -1
def hts : Int → List Bool → List Int
  | h, [] => [h]
  | h, b :: l => h :: hts (h + sg b) l
theorem hts_len : ∀ (l : List Bool) (h : Int), (hts h l).length = l.length + 1
  | [], _ => rfl
  | b :: l, h => by
    show (hts (h + sg b) l).length + 1 = _
    rw [hts_len l]
    rfl
theorem hts_ne (h : Int) (l : List Bool) : hts h l ≠ [] := by
  cases l <;> exact List.cons_ne_nil _ _
theorem hts_append : ∀ (l r : List Bool) (h : Int), hts h (l ++ r) = (hts h l).dropLast ++ hts (h + (l.map sg).sum) r
  | [], r, h => by
    show hts h r = [] ++ hts (h + 0) r
    rw [Int.add_zero]
    rfl
  | b :: l, r, h => by
    show h :: hts (h + sg b) (l ++ r) = (h :: hts (h + sg b) l).dropLast ++ _
    rw [hts_append l r, List.dropLast_cons_of_ne_nil (hts_ne _ _), List.map_cons, List.sum_cons, ← Int.add_assoc]
    rfl
theorem hts_snoc (l : List Bool) (b : Bool) (h : Int) : hts h (l ++ [b]) = hts h l ++ [h + (l.map sg).sum + sg b] := by
  have last : ∀ (l : List Bool) (h : Int), hts h l = (hts h l).dropLast ++ [h + (l.map sg).sum] := by
    intro l h
    have := hts_append l [] h
    rw [List.append_nil] at this
    exact this
  rw [hts_append, last l h]
  rw [List.dropLast_concat, List.append_assoc]
  rfl
theorem hts_last (l : List Bool) (h : Int) : (hts h l) = (hts h l).dropLast ++ [h + (l.map sg).sum] := by
  have := hts_append l [] h
  rw [List.append_nil] at this
  exact this
/-- a hill row by its heights -/
theorem okb_iff (c : Option Nat) : ∀ (l : List Bool) (h : Nat), (∀ k, c = some k → h ≤ k) → (okb c h l = true ↔ ((h : Int) + (l.map sg).sum = 0 ∧ (∀ x ∈ hts h l, 0 ≤ x) ∧ ∀ k, c = some k → ∀ x ∈ hts h l, x ≤ (k : Int)))
  | [], h, hc => by
    show ((h == 0) = true) ↔ _
    constructor
    · intro e
      have e0 : h = 0 := by simpa using e
      subst e0
      refine ⟨rfl, fun x hx => ?_, fun k hk x hx => ?_⟩
      · have := List.mem_singleton.mp hx
        omega
      · have := List.mem_singleton.mp hx
        omega
    · rintro ⟨e, _, _⟩
      have : (h : Int) + 0 = 0 := e
      have : h = 0 := by omega
      simp [this]
  | true :: l, h, hc => by
    have e1 : hts (h : Int) (true :: l) = (h : Int) :: hts ((h + 1 : Nat) : Int) l := rfl
    have e2 : ((true :: l).map sg).sum = 1 + (l.map sg).sum := by
      rw [List.map_cons, List.sum_cons]
      rfl
    rw [e1, e2]
    constructor
    · intro e
      obtain ⟨a, b⟩ := okb_up e
      have hc' : ∀ k, c = some k → h + 1 ≤ k := fun k hk => by
        rw [hk] at a
        exact of_decide_eq_true a
      obtain ⟨i1, i2, i3⟩ := (okb_iff c l (h + 1) hc').mp b
      refine ⟨by omega, fun x hx => ?_, fun k hk x hx => ?_⟩
      · rcases List.mem_cons.mp hx with z | z
        · omega
        · exact i2 x z
      · rcases List.mem_cons.mp hx with z | z
        · have := hc k hk
          omega
        · exact i3 k hk x z
    · rintro ⟨a, b, d⟩
      have hmem : ((h + 1 : Nat) : Int) ∈ hts ((h + 1 : Nat) : Int) l := by
        cases l <;> exact List.mem_cons_self ..
      have hc' : ∀ k, c = some k → h + 1 ≤ k := fun k hk => by
        have := d k hk _ (List.mem_cons_of_mem _ hmem)
        omega
      have := (okb_iff c l (h + 1) hc').mpr ⟨by omega, fun x hx => b x (List.mem_cons_of_mem _ hx), fun k hk x hx => d k hk x (List.mem_cons_of_mem _ hx)⟩
      unfold okb
      rw [this, Bool.and_true]
      cases c with
      | none => rfl
      | some k =>
        have := hc' k rfl
        exact decide_eq_true (by omega)
  | false :: l, h, hc => by
    have e2 : ((false :: l).map sg).sum = -1 + (l.map sg).sum := by
      rw [List.map_cons, List.sum_cons]
      rfl
    by_cases h0 : h = 0
    · subst h0
      have e1 : hts ((0 : Nat) : Int) (false :: l) = 0 :: hts (-1) l := rfl
      constructor
      · intro e
        exact absurd rfl (okb_down e).1
      · rintro ⟨a, b, d⟩
        have hmem : (-1 : Int) ∈ hts (-1) l := by
          cases l <;> exact List.mem_cons_self ..
        rw [e1] at b
        have := b _ (List.mem_cons_of_mem _ hmem)
        omega
    · have e1 : hts (h : Int) (false :: l) = (h : Int) :: hts ((h - 1 : Nat) : Int) l := by
        show (h : Int) :: hts ((h : Int) + -1) l = _
        rw [show (h : Int) + -1 = ((h - 1 : Nat) : Int) by omega]
      rw [e1, e2]
      have hc' : ∀ k, c = some k → h - 1 ≤ k := fun k hk => by
        have := hc k hk
        omega
      constructor
      · intro e
        obtain ⟨a, b⟩ := okb_down e
        obtain ⟨i1, i2, i3⟩ := (okb_iff c l (h - 1) hc').mp b
        refine ⟨by omega, fun x hx => ?_, fun k hk x hx => ?_⟩
        · rcases List.mem_cons.mp hx with z | z
          · omega
          · exact i2 x z
        · rcases List.mem_cons.mp hx with z | z
          · have := hc k hk
            omega
          · exact i3 k hk x z
      · rintro ⟨a, b, d⟩
        have := (okb_iff c l (h - 1) hc').mpr ⟨by omega, fun x hx => b x (List.mem_cons_of_mem _ hx), fun k hk x hx => d k hk x (List.mem_cons_of_mem _ hx)⟩
        unfold okb
        rw [this, Bool.and_true]
        simpa using h0
end Hr
namespace Hr
/-! ### growing beginnings lead to all rows -/
def rwsC (c : Option Nat) : Nat → Nat → List (List Bool)
  | 0, h => if h = 0 then [[]] else []
  | k + 1, h => (if 0 < h then (rwsC c k (h - 1)).map (false :: ·) else []) ++ (if under c h = true then (rwsC c k (h + 1)).map (true :: ·) else [])
theorem rwsC_nil (c : Option Nat) : ∀ k h, k < h → rwsC c k h = []
  | 0, h, e => by
    unfold rwsC
    rw [if_neg (by omega)]
  | k + 1, h, e => by
    unfold rwsC
    rw [rwsC_nil c k (h - 1) (by omega), rwsC_nil c k (h + 1) (by omega)]
    split <;> split <;> rfl
theorem rwsC_low (c : Option Nat) (n : Nat) : ∀ k h, k + h ≤ 2 * n → h ≤ low n c → rwsC c k h = rws (low n c) k h
  | 0, h, _, _ => rfl
  | k + 1, h, e, l => by
    unfold rwsC rws
    congr 1
    · by_cases h0 : h = 0
      · rw [if_pos h0, if_neg (by omega)]
      · rw [if_neg h0, if_pos (by omega), rwsC_low c n k (h - 1) (by omega) (by omega)]
    · by_cases hT : h < low n c
      · have hu : under c h = true := by
          cases c with
          | none => rfl
          | some j =>
            have : h < min n j := hT
            exact decide_eq_true (by omega)
        rw [if_pos hT, if_pos hu, rwsC_low c n k (h + 1) (by omega) (by omega)]
      · rw [if_neg hT]
        by_cases hu : under c h = true
        · rw [if_pos hu]
          have : k < h + 1 := by
            cases c with
            | none =>
              have : ¬ h < n := hT
              omega
            | some j =>
              have h1 : ¬ h < min n j := hT
              have h2 : h < j := of_decide_eq_true hu
              omega
          rw [rwsC_nil c k (h + 1) this]
          rfl
        · rw [if_neg hu]
/-- beginnings as lists of signs -/
abbrev grwB (c : Option Nat) (k : Nat) : List (List Bool × Nat) := grown (· ++ [false]) (· ++ [true]) c [] k
def ends (c : Option Nat) (m : Nat) (p : List Bool × Nat) : List (List Bool) := (rwsC c m p.2).map (p.1 ++ ·)
theorem rwsC_succ (c : Option Nat) (k h : Nat) : rwsC c (k + 1) h = (if 0 < h then (rwsC c k (h - 1)).map (false :: ·) else []) ++ (if under c h = true then (rwsC c k (h + 1)).map (true :: ·) else []) := rfl
theorem ends_grow1 (c : Option Nat) (m : Nat) (p : List Bool × Nat) : (grow1 (· ++ [false]) (· ++ [true]) c p).flatMap (ends c m) = ends c (m + 1) p := by
  unfold grow1
  rw [List.flatMap_append]
  unfold ends
  rw [rwsC_succ, List.map_append]
  congr 1
  · split
    · rw [List.flatMap_singleton, List.map_map]
      refine List.map_congr_left fun x _ => ?_
      show (p.1 ++ [false]) ++ x = p.1 ++ false :: x
      rw [List.append_assoc]
      rfl
    · rfl
  · split
    · rw [List.flatMap_singleton, List.map_map]
      refine List.map_congr_left fun x _ => ?_
      show (p.1 ++ [true]) ++ x = p.1 ++ true :: x
      rw [List.append_assoc]
      rfl
    · rfl
theorem ends_grown (c : Option Nat) : ∀ k m, (grwB c k).flatMap (ends c m) = rwsC c (k + m) 0
  | 0, m => by
    show [(([] : List Bool), 0)].flatMap (ends c m) = _
    rw [List.flatMap_singleton, Nat.zero_add]
    unfold ends
    exact (List.map_congr_left fun x _ => rfl).trans (List.map_id _)
  | k + 1, m => by
    show ((grwB c k).flatMap (grow1 (· ++ [false]) (· ++ [true]) c)).flatMap (ends c m) = _
    rw [List.flatMap_assoc]
    rw [show (fun x => (grow1 (· ++ [false]) (· ++ [true]) c x).flatMap (ends c m)) = ends c (m + 1) from funext fun p => ends_grow1 c m p]
    rw [ends_grown c k (m + 1)]
    congr 1
    omega
theorem grwB_rows (c : Option Nat) (n : Nat) : ((grwB c (2 * n)).filter fun p => p.2 == 0).map (·.1) = rws (low n c) (2 * n) 0 := by
  rw [← rwsC_low c n (2 * n) 0 (by omega) (Nat.zero_le _)]
  have h := ends_grown c (2 * n) 0
  rw [Nat.add_zero] at h
  rw [← h]
  generalize grwB c (2 * n) = l
  induction l with
  | nil => rfl
  | cons p l ih =>
    rw [List.flatMap_cons, ← ih]
    unfold ends
    show _ = List.map _ (if p.2 = 0 then [[]] else []) ++ _
    by_cases e : p.2 = 0
    · rw [List.filter_cons_of_pos (by simp [e]), if_pos e, List.map_cons]
      show _ = (p.1 ++ []) :: List.map _ _
      rw [List.append_nil]
    · rw [List.filter_cons_of_neg (by simp [e]), if_neg e]
      rfl
/-- growing carried over -/
theorem grown_map {α β : Type} (f : α → β) (d u : α → α) (d' u' : β → β) (hd : ∀ x, f (d x) = d' (f x)) (hu : ∀ x, f (u x) = u' (f x)) (c : Option Nat) (a : α) : ∀ k, grown d' u' c (f a) k = (grown d u c a k).map fun p => (f p.1, p.2)
  | 0 => rfl
  | k + 1 => by
    show growAll d' u' c (grown d' u' c (f a) k) = (growAll d u c (grown d u c a k)).map _
    rw [grown_map f d u d' u' hd hu c a k]
    unfold growAll
    rw [List.flatMap_map, List.map_flatMap]
    congr 1
    funext p
    unfold grow1
    rw [List.map_append]
    congr 1
    · split
      · show [(d' (f p.1), p.2 - 1)] = [(f (d p.1), p.2 - 1)]
        rw [hd]
      · rfl
    · split
      · show [(u' (f p.1), p.2 + 1)] = [(f (u p.1), p.2 + 1)]
        rw [hu]
      · rfl
/-! ### the order of texts -/
/-- false stands ahead of true -/
def ltB : List Bool → List Bool → Bool
  | [], [] => false
  | [], _ :: _ => true
  | _ :: _, [] => false
  | a :: r, b :: t => (!a && b) || (a == b && ltB r t)
theorem rws_sorted (T : Nat) : ∀ k h, (rws T k h).Pairwise fun a b => ltB a b = true
  | 0, h => by
    unfold rws
    split
    · exact List.pairwise_singleton _ _
    · exact List.Pairwise.nil
  | k + 1, h => by
    unfold rws
    rw [List.pairwise_append]
    refine ⟨?_, ?_, fun a ha b hb => ?_⟩
    · split
      · exact List.Pairwise.nil
      · rw [List.pairwise_map]
        refine (rws_sorted T k (h - 1)).imp fun {a b} e => ?_
        show (false || (true && ltB a b)) = true
        rw [e]
        rfl
    · split
      · rw [List.pairwise_map]
        refine (rws_sorted T k (h + 1)).imp fun {a b} e => ?_
        show (false || (true && ltB a b)) = true
        rw [e]
        rfl
      · exact List.Pairwise.nil
    · have h1 : ∃ r, a = false :: r := by
        split at ha
        · cases ha
        · obtain ⟨r, _, e⟩ := List.mem_map.mp ha
          exact ⟨r, e.symm⟩
      have h2 : ∃ r, b = true :: r := by
        split at hb
        · obtain ⟨r, _, e⟩ := List.mem_map.mp hb
          exact ⟨r, e.symm⟩
        · cases hb
      obtain ⟨r, rfl⟩ := h1
      obtain ⟨t, rfl⟩ := h2
      rfl
/-- ranks rise as the rows do -/
theorem rank_lt_iff (T : Nat) : ∀ (a b : List Bool) (h : Nat), a.length = b.length → okb (some T) h a = true → okb (some T) h b = true → (rankOf T h a < rankOf T h b ↔ ltB a b = true)
  | [], [], h, _, _, _ => by
    constructor
    · intro e
      exact absurd e (Nat.lt_irrefl _)
    · intro e
      cases e
  | [], _ :: _, _, e, _, _ => by cases e
  | _ :: _, [], _, e, _, _ => by cases e
  | false :: a, false :: b, h, e, ea, eb => by
    have el : a.length = b.length := Nat.succ.inj e
    have := rank_lt_iff T a b (h - 1) el (okb_down ea).2 (okb_down eb).2
    show rankOf T (h - 1) a < rankOf T (h - 1) b ↔ (false || (true && ltB a b)) = true
    rw [this]
    simp
  | true :: a, true :: b, h, e, ea, eb => by
    have el : a.length = b.length := Nat.succ.inj e
    have := rank_lt_iff T a b (h + 1) el (okb_up ea).2 (okb_up eb).2
    show dn T a.length h + rankOf T (h + 1) a < dn T b.length h + rankOf T (h + 1) b ↔ (false || (true && ltB a b)) = true
    rw [el]
    simp only [Bool.true_and, Bool.false_or]
    rw [← this]
    omega
  | false :: a, true :: b, h, e, ea, eb => by
    have el : a.length = b.length := Nat.succ.inj e
    obtain ⟨h0, ea'⟩ := okb_down ea
    have h1 := rank_lt ea'
    constructor
    · intro _
      rfl
    · intro _
      show rankOf T (h - 1) a < dn T b.length h + rankOf T (h + 1) b
      unfold dn
      rw [if_neg h0, ← el]
      omega
  | true :: a, false :: b, h, e, ea, eb => by
    have el : a.length = b.length := Nat.succ.inj e
    obtain ⟨h0, eb'⟩ := okb_down eb
    have h1 := rank_lt eb'
    constructor
    · intro z
      have z : dn T a.length h + rankOf T (h + 1) a < rankOf T (h - 1) b := z
      unfold dn at z
      rw [if_neg h0, el] at z
      omega
    · intro z
      cases z
end Hr
/-! ### defs of the text, by what they promise -/
namespace Hr
open PySem PySem.Spec PyProof.Rows L2
theorem same_upd {H : Hp} {p : Addr} {o : HO} (h : H p = none) : Same H (upd H p o) := fun b x e => by
  rw [upd_ne (ne_of_none e h)]
  exact e
/-- what was new may change -/
theorem same_updN {H0 H : Hp} {p : Addr} {o : HO} (s : Same H0 H) (n : H0 p = none) : Same H0 (upd H p o) := fun b x e => by
  rw [upd_ne (ne_of_none e n)]
  exact s b x e
theorem sz {n : Nat} (h : n ≤ 1000000) : n ≤ sizeLine := Nat.le_trans h (by decide)
theorem szl {n : Nat} (h : n < 1000000) : n < sizeLine := Nat.lt_of_lt_of_le h (by decide)
section
variable (K : PySem.W.Frag) (mg : Str → Option Value)
structure Def (x : Str) (st : Stmt) (ps : List Str) : Prop where
  ex : ∃ (f : Addr) (fd : FuncData), Fun K x x st f fd ∧ mg x = some (.ref f) ∧ Binds K fd ps []
/-- a def whose last parameter is None where it is left out -/
structure DefD (x : Str) (st : Stmt) (ps : List Str) : Prop where
  ex : ∃ (f : Addr) (fd : FuncData), FunD K x x (defArgs st) (defBody st) (defScope st) [V.non] [] f fd ∧ mg x = some (.ref f) ∧ Binds K fd ps [] ∧ ∃ ds, Vals [V.non] ds ∧ Binds K fd ps ds
/-- a def whose last parameter is dv where it is left out -/
structure DefV (x : Str) (st : Stmt) (ps : List Str) (dv : V) : Prop where
  ex : ∃ (f : Addr) (fd : FuncData), FunD K x x (defArgs st) (defBody st) (defScope st) [dv] [] f fd ∧ mg x = some (.ref f) ∧ Binds K fd ps [] ∧ ∃ ds, Vals [dv] ds ∧ Binds K fd ps ds
structure Cal (CX : CXT) (P : Program) (w : World) (base : Heap) (k : Nat) (x : Str) (dvs : List V) (sp : Sp) : Prop where
  ex : ∃ (f : Addr) (fd : FuncData) (ps : List Str) (ds : List Value), FnOk P w K mg base CX k f fd ps sp ∧ mg x = some (.ref f) ∧ PySem.W.keepIn K (.ref f) = true ∧ Binds K fd ps ds ∧ Vals dvs ds
end
section
variable {P : Program} {w : World} {K : PySem.W.Frag} {mg : Str → Option Value} {base : Heap}
theorem Def.cal {x : Str} {st : Stmt} {N ps : List Str} {k : Nat} {sp : Sp} (D : Def K mg x st ps) (S : FnScope N ps (defScope st)) (len : ∀ vs H Q E, sp vs H Q E → vs.length = ps.length)
    (hbody : ∀ (f : Addr) (cdv : Value) (A : Around) (outer : List Env) (s : Shared) (H : Hp) (vs : List V) (Q : VK) (E : XK), Room k (A.deeper (envOfC x (defScope st) s.heap.objs.size f cdv)) → sp vs H Q E →
      ∃ t, PSs (cxOf CX0 P w K mg base N x (defScope st) f cdv A outer s H E).nox (defBody st) t ∧ t { nx := fun _ H' => Q .non H', rt := Q } (start N vs) H) : Cal K mg CX0 P w base (k + 1) x [] sp := by
  obtain ⟨f, fd, F, hm, b⟩ := D.ex
  exact ⟨f, fd, ps, [], F.ok S len (hbody f), hm, F.kp, b, .nil⟩
theorem DefD.ok {x : Str} {st : Stmt} {N ps : List Str} {k : Nat} {sp : Sp} (D : DefD K mg x st ps) (S : FnScope N ps (defScope st)) (len : ∀ vs H Q E, sp vs H Q E → vs.length = ps.length)
    (hbody : ∀ (f : Addr) (cdv : Value) (A : Around) (outer : List Env) (s : Shared) (H : Hp) (vs : List V) (Q : VK) (E : XK), Room k (A.deeper (envOfC x (defScope st) s.heap.objs.size f cdv)) → sp vs H Q E →
      ∃ t, PSs (cxOf CX0 P w K mg base N x (defScope st) f cdv A outer s H E).nox (defBody st) t ∧ t { nx := fun _ H' => Q .non H', rt := Q } (start N vs) H) :
    Cal K mg CX0 P w base (k + 1) x [] sp ∧ Cal K mg CX0 P w base (k + 1) x [.non] sp := by
  obtain ⟨f, fd, F, hm, b, ds, vd, b2⟩ := D.ex
  have G : FnOk P w K mg base CX0 (k + 1) f fd ps sp := F.ok S len fun cdv A outer s H vs Q E hr hsp => by
    obtain ⟨t, h, q⟩ := hbody f cdv A outer s H vs Q E hr hsp
    exact ⟨t, h.nox, q⟩
  exact ⟨⟨f, fd, ps, [], G, hm, F.kp, b, .nil⟩, ⟨f, fd, ps, ds, G, hm, F.kp, b2, vd⟩⟩
theorem DefV.ok {x : Str} {st : Stmt} {N ps : List Str} {dv : V} {k : Nat} {sp : Sp} (D : DefV K mg x st ps dv) (S : FnScope N ps (defScope st)) (len : ∀ vs H Q E, sp vs H Q E → vs.length = ps.length)
    (hbody : ∀ (f : Addr) (cdv : Value) (A : Around) (outer : List Env) (s : Shared) (H : Hp) (vs : List V) (Q : VK) (E : XK), Room k (A.deeper (envOfC x (defScope st) s.heap.objs.size f cdv)) → sp vs H Q E →
      ∃ t, PSs (cxOf CX0 P w K mg base N x (defScope st) f cdv A outer s H E).nox (defBody st) t ∧ t { nx := fun _ H' => Q .non H', rt := Q } (start N vs) H) :
    Cal K mg CX0 P w base (k + 1) x [] sp ∧ Cal K mg CX0 P w base (k + 1) x [dv] sp := by
  obtain ⟨f, fd, F, hm, b, ds, vd, b2⟩ := D.ex
  have G : FnOk P w K mg base CX0 (k + 1) f fd ps sp := F.ok S len fun cdv A outer s H vs Q E hr hsp => by
    obtain ⟨t, h, q⟩ := hbody f cdv A outer s H vs Q E hr hsp
    exact ⟨t, h.nox, q⟩
  exact ⟨⟨f, fd, ps, [], G, hm, F.kp, b, .nil⟩, ⟨f, fd, ps, ds, G, hm, F.kp, b2, vd⟩⟩
/-- a weaker promise -/
theorem Cal.imp {CX : CXT} {x : Str} {dvs : List V} {k : Nat} {sp sp' : Sp} (C : Cal K mg CX P w base k x dvs sp) (h : ∀ vs H Q E, sp' vs H Q E → sp vs H Q E) : Cal K mg CX P w base k x dvs sp' := by
  obtain ⟨f, fd, ps, ds, G, hm, kp, b, d⟩ := C.ex
  exact ⟨f, fd, ps, ds, G.imp h, hm, kp, b, d⟩
end
section
variable {X : Cx}
theorem pe_c {k j : Nat} {x : Str} {dvs : List V} {sp : Sp} {e : Expr} {es : List Expr} {t : TA} {p pos : Pos} (c : Cal X.K X.mg CX0 X.prog X.w X.base k x dvs sp) (hr : Room j X.A) (ha : PA X (e :: es) t) (hk : k ≤ j := by decide) (hg : Gl X x := by rfl)
    (hdb : (x == ("__debug__" : Str)) = false := by decide) (he : starEach (e :: es) X.env = (false, eval e X.env) :: starEach es X.env := by rfl) (hpl : (backTo pos (starEach es X.env)).any (·.1) = false := by rfl) :
    PE X (.Call (.Name x p) (e :: es) [] pos) (tCall sp dvs E0 t) := by
  obtain ⟨f, fd, ps, ds, F, hm, kp, b, d⟩ := c.ex
  exact pe_call F (hr.mono hk) hg hm kp b d pass0 ha hdb he hpl
end
/-- from what the top has left -/
theorem def_mk {K : PySem.W.Frag} {mg : Str → Option Value} {h : Heap} {x : Str} {st : Stmt} {ps : List Str} {f : Addr} {oc : Value} {od an : Option Addr} {osl : Array (Option Value)} {kV doc pm cdv ct : Value} (X : K.In h) (G : h.Ns mainGlobals mg)
    (hb : ∀ (kV doc pm : Value) (an : Option Addr) (cdv ct : Value) (us : List Value), us.length = ps.length → bindArgs (PySem.W.fnOf x x (defArgs st) (defBody st) (defScope st) .none kV doc pm an cdv ct) ⟨us, []⟩ = pure (ps.zip us))
    (a : PySem.W.nsIn K mainGlobals x = some (some (.ref f))) (l : K.lookup f = some ⟨oc, od, .func (PySem.W.fnOf x x (defArgs st) (defBody st) (defScope st) .none kV doc pm an cdv ct), osl⟩)
    (c : PySem.W.codeIn K cdv x = true) (k : PySem.W.keepIn K (.ref f) = true) : Def K mg x st ps :=
  have F := fun_mk (st := st) l c k
  ⟨f, _, F, PySem.W.mg_of X G a, F.binds hb⟩
theorem defD_mk {K : PySem.W.Frag} {mg : Str → Option Value} {h : Heap} {x : Str} {st : Stmt} {ps : List Str} {f T : Addr} {oc tc : Value} {od an td : Option Addr} {osl tsl : Array (Option Value)} {kV doc pm cdv ct : Value} {n m : Nat} (X : K.In h) (G : h.Ns mainGlobals mg)
    (hn : ps.length = m + 1)
    (hb2 : ∀ (T : Addr) (kV doc pm : Value) (an : Option Addr) (cdv ct : Value) (us its : List Value), us.length = m + 1 → its.length = 1 →
      ∃ k, bindArgs (PySem.W.fnOf x x (defArgs st) (defBody st) (defScope st) (.ref T) kV doc pm an cdv ct) ⟨us, []⟩ = seqItems? (.ref T) >>= k ∧ k (some its.toArray) = pure (ps.zip (us ++ its.drop 1)))
    (hb1 : ∀ (T : Addr) (kV doc pm : Value) (an : Option Addr) (cdv ct : Value) (us its : List Value), us.length = m → its.length = 1 →
      ∃ k, bindArgs (PySem.W.fnOf x x (defArgs st) (defBody st) (defScope st) (.ref T) kV doc pm an cdv ct) ⟨us, []⟩ = seqItems? (.ref T) >>= k ∧ k (some its.toArray) = pure (ps.zip (us ++ its.drop 0)))
    (a : PySem.W.nsIn K mainGlobals x = some (some (.ref f))) (l : K.lookup f = some ⟨oc, od, .func (PySem.W.fnOf x x (defArgs st) (defBody st) (defScope st) (.ref T) kV doc pm an cdv ct), osl⟩)
    (c : PySem.W.codeIn K cdv x = true) (k : PySem.W.keepIn K (.ref f) = true) (lT : K.lookup T = some ⟨tc, td, .seq #[.none] n, tsl⟩) : DefD K mg x st ps := by
  have F : FunD K x x (defArgs st) (defBody st) (defScope st) [V.non] [] f (PySem.W.fnOf x x (defArgs st) (defBody st) (defScope st) (.ref T) kV doc pm an cdv ct) :=
    ⟨⟨oc, od, .ref T, kV, doc, pm, an, cdv, ct, osl, rfl, l, c, .inr ⟨List.cons_ne_nil _ _, T, _, [.none], n, rfl, lT, rfl, .cons rfl .nil⟩, .inl rfl⟩, k⟩
  obtain ⟨d2, v2, b2⟩ := F.binds1 (m + 1) 1 (List.cons_ne_nil _ _) (by rw [hn]; rfl) (fun T kV doc pm an cdv ct us its h1 h2 => hb2 T kV doc pm an cdv ct us its h1 h2)
  obtain ⟨d1, v1, b1⟩ := F.binds1 m 0 (List.cons_ne_nil _ _) (by rw [hn]; rfl) (fun T kV doc pm an cdv ct us its h1 h2 => hb1 T kV doc pm an cdv ct us its h1 h2)
  have e2 : d2 = [] := by
    cases v2
    rfl
  subst e2
  exact ⟨f, _, F, PySem.W.mg_of X G a, b2, d1, v1, b1⟩
theorem defV_mk {K : PySem.W.Frag} {mg : Str → Option Value} {h : Heap} {x : Str} {st : Stmt} {ps : List Str} {dv : V} {u : Value} {f T : Addr} {oc tc : Value} {od an td : Option Addr} {osl tsl : Array (Option Value)} {kV doc pm cdv ct : Value} {n m : Nat} (X : K.In h) (G : h.Ns mainGlobals mg)
    (hn : ps.length = m + 1)
    (hb2 : ∀ (T : Addr) (kV doc pm : Value) (an : Option Addr) (cdv ct : Value) (us its : List Value), us.length = m + 1 → its.length = 1 →
      ∃ k, bindArgs (PySem.W.fnOf x x (defArgs st) (defBody st) (defScope st) (.ref T) kV doc pm an cdv ct) ⟨us, []⟩ = seqItems? (.ref T) >>= k ∧ k (some its.toArray) = pure (ps.zip (us ++ its.drop 1)))
    (hb1 : ∀ (T : Addr) (kV doc pm : Value) (an : Option Addr) (cdv ct : Value) (us its : List Value), us.length = m → its.length = 1 →
      ∃ k, bindArgs (PySem.W.fnOf x x (defArgs st) (defBody st) (defScope st) (.ref T) kV doc pm an cdv ct) ⟨us, []⟩ = seqItems? (.ref T) >>= k ∧ k (some its.toArray) = pure (ps.zip (us ++ its.drop 0)))
    (a : PySem.W.nsIn K mainGlobals x = some (some (.ref f))) (l : K.lookup f = some ⟨oc, od, .func (PySem.W.fnOf x x (defArgs st) (defBody st) (defScope st) (.ref T) kV doc pm an cdv ct), osl⟩)
    (c : PySem.W.codeIn K cdv x = true) (k : PySem.W.keepIn K (.ref f) = true) (hu : RelV dv u) (lT : K.lookup T = some ⟨tc, td, .seq #[u] n, tsl⟩) : DefV K mg x st ps dv := by
  have F : FunD K x x (defArgs st) (defBody st) (defScope st) [dv] [] f (PySem.W.fnOf x x (defArgs st) (defBody st) (defScope st) (.ref T) kV doc pm an cdv ct) :=
    ⟨⟨oc, od, .ref T, kV, doc, pm, an, cdv, ct, osl, rfl, l, c, .inr ⟨List.cons_ne_nil _ _, T, _, [u], n, rfl, lT, rfl, .cons hu .nil⟩, .inl rfl⟩, k⟩
  obtain ⟨d2, v2, b2⟩ := F.binds1 (m + 1) 1 (List.cons_ne_nil _ _) (by rw [hn]; rfl) (fun T kV doc pm an cdv ct us its h1 h2 => hb2 T kV doc pm an cdv ct us its h1 h2)
  obtain ⟨d1, v1, b1⟩ := F.binds1 m 0 (List.cons_ne_nil _ _) (by rw [hn]; rfl) (fun T kV doc pm an cdv ct us its h1 h2 => hb1 T kV doc pm an cdv ct us its h1 h2)
  have e2 : d2 = [] := by
    cases v2
    rfl
  subst e2
  exact ⟨f, _, F, PySem.W.mg_of X G a, b2, d1, v1, b1⟩
end Hr
/-! ### the text of this law -/
namespace Hr
open PySem PySem.Spec PyProof.Rows L2
def topS (i : Nat) : Stmt := PySem.Challenge.pw_hillrows_k04_whole_all_in_order.main.body.getD i (.Pass ⟨0, 0, 0, 0⟩)
abbrev sCounted : Stmt := topS 9
abbrev sHill : Stmt := topS 10
abbrev sTable : Stmt := topS 11
abbrev sStep : Stmt := topS 12
abbrev sLow : Stmt := topS 13
abbrev sIsNum : Stmt := topS 14
abbrev sChNum : Stmt := topS 15
abbrev sChCei : Stmt := topS 16
abbrev sHeights : Stmt := topS 20
abbrev sIsHill : Stmt := topS 21
abbrev sIsRow : Stmt := topS 22
abbrev sChHill : Stmt := topS 23
abbrev sRank : Stmt := topS 25
abbrev sRowAt : Stmt := topS 26
abbrev sSignAt : Stmt := topS 27
abbrev sNext : Stmt := topS 28
abbrev sAhead : Stmt := topS 29
abbrev sBeside : Stmt := topS 30
abbrev sNumOf : Stmt := topS 31
abbrev sOfNum : Stmt := topS 32
abbrev sDown : Stmt := topS 33
abbrev sCount : Stmt := topS 34
abbrev sMixed : Stmt := topS 36
abbrev sNumber : Stmt := topS 37
abbrev sAll : Stmt := topS 38
abbrev sLaw : Stmt := topS 39
end Hr
/-! ### the table of ways -/
namespace Hr
open PySem PySem.Spec PyProof.Rows L2
theorem scLow : FnScope ["height", "ceiling"] ["height", "ceiling"] (defScope sLow) := ⟨rfl, rfl, rfl, by decide +kernel, rfl, by decide +kernel, by decide +kernel⟩
theorem scIsNum : FnScope ["value", "most", "least"] ["value", "most", "least"] (defScope sIsNum) := ⟨rfl, rfl, rfl, by decide +kernel, rfl, by decide +kernel, by decide +kernel⟩
theorem scChNum : FnScope ["value", "most", "least"] ["value", "most", "least"] (defScope sChNum) := ⟨rfl, rfl, rfl, by decide +kernel, rfl, by decide +kernel, by decide +kernel⟩
theorem scChCei : FnScope ["ceiling"] ["ceiling"] (defScope sChCei) := ⟨rfl, rfl, rfl, by decide +kernel, rfl, by decide +kernel, by decide +kernel⟩
theorem scStep : FnScope ["found", "padded", "height"] ["found"] (defScope sStep) := ⟨rfl, rfl, rfl, by decide +kernel, rfl, by decide +kernel, by decide +kernel⟩
theorem scTable : FnScope ["left", "top", "table", "_"] ["left", "top"] (defScope sTable) := ⟨rfl, rfl, rfl, by decide +kernel, rfl, by decide +kernel, by decide +kernel⟩
theorem scHill : FnScope ["n", "ceiling"] ["n", "ceiling"] (defScope sHill) := ⟨rfl, rfl, rfl, by decide +kernel, rfl, by decide +kernel, by decide +kernel⟩
theorem scCounted : FnScope ["n", "ceiling"] ["n", "ceiling"] (defScope sCounted) := ⟨rfl, rfl, rfl, by decide +kernel, rfl, by decide +kernel, by decide +kernel⟩
/-- a ceiling as a value -/
def cV : Option Nat → V
  | none => .non
  | some k => .int (k : Int)
/-- a ceiling in its bounds -/
def cOk (m : Nat) : Option Nat → Prop
  | none => True
  | some k => k ≤ m
section
variable {P : Program} {w : World} {K : PySem.W.Frag} {mg : Str → Option Value} {base : Heap}
def spLow : Sp := fun vs H Q _ => ∃ (h : Nat) (c : Option Nat), vs = [.int (h : Int), cV c] ∧ Q (.int ((low h c : Nat) : Int)) H
theorem cal_low (D : Def K mg "lower_of" sLow ["height", "ceiling"]) (mmin : mg "min" = none) : Cal K mg CX0 P w base 1 "lower_of" [] spLow := by
  refine D.cal scLow (fun vs H Q E h => ?_) (fun f cdv A outer s H vs Q E hr h => ?_)
  · obtain ⟨h, c, rfl, _⟩ := h
    rfl
  · obtain ⟨h, c, rfl, q⟩ := h
    refine ⟨_, pss_one (ps_ret (pe_ifExp (pt_cmp (pc_isN (pv 1))) (pv 0) (pe_callB (call_min2 rfl) (by rfl) mmin boot_min (pa_cons (pv 0) (pa_cons (pv 1) pa_nil))))), ?_⟩
    cases c with
    | none => exact ⟨.non, rfl, true, rfl, iteT ⟨_, rfl, q⟩⟩
    | some k =>
      refine ⟨.int (k : Int), rfl, false, rfl, iteF ⟨_, rfl, _, rfl, _, _, rfl, ?_⟩⟩
      have e : (if (k : Int) < (h : Int) then (k : Int) else (h : Int)) = ((low h (some k) : Nat) : Int) := by
        show _ = ((min h k : Nat) : Int)
        split <;> omega
      rw [e]
      exact q
/-- a number within its bounds: True -/
def spIsNum : Sp := fun vs H Q _ => ∃ (i m : Int), vs = [.int i, .int m, .int 0] ∧ Q (.bl (decide (0 ≤ i ∧ i ≤ m))) H
theorem cal_isNum (D : DefV K mg "is_number" sIsNum ["value", "most", "least"] (.int 0)) (misi : mg "isinstance" = none) (mint : mg "int" = none) (mbool : mg "bool" = none) : Cal K mg CX0 P w base 1 "is_number" [] spIsNum ∧ Cal K mg CX0 P w base 1 "is_number" [.int 0] spIsNum := by
  refine D.ok scIsNum (fun vs H Q E h => ?_) (fun f cdv A outer s H vs Q E hr h => ?_)
  · obtain ⟨i, m, rfl, _⟩ := h
    rfl
  · obtain ⟨i, m, rfl, q⟩ := h
    refine ⟨_, pss_one (ps_ret (pe_and (pe_callB call_isi (by rfl) misi (by decide +kernel) (pa_cons (pv 0) (pa_cons (pe_bltn (v := .ty "int") (u := .type "int") (by rfl) mint (by decide +kernel) rfl) pa_nil)))
      (pe_and (pe_not (pe_callB call_isi (by rfl) misi (by decide +kernel) (pa_cons (pv 0) (pa_cons (pe_bltn (v := .ty "bool") (u := .type "bool") (by rfl) mbool (by decide +kernel) rfl) pa_nil))))
      (pe_one (pe_chain op_le op_le (pv 2) (pv 0) (pv 1)))))), ?_⟩
    refine ⟨.int i, rfl, .int i, .ty "int", _, _, true, rfl, .ty "int", .base (.int i), kit_ty (by decide +kernel), true, rfl, iteT ?_⟩
    refine ⟨.int i, rfl, .int i, .ty "bool", _, _, false, rfl, .ty "bool", .base (.int i), kit_ty (by decide +kernel), false, rfl, true, rfl, iteT ?_⟩
    refine ⟨.int 0, rfl, .int i, rfl, 0, i, rfl, rfl, decide (0 ≤ i), rfl, ite2 (fun e => ?_) (fun e => ?_)⟩
    · refine ⟨.int m, rfl, i, m, rfl, rfl, ?_⟩
      have e0 : 0 ≤ i := of_decide_eq_true e
      show Q (.bl (decide (i ≤ m))) H
      rw [show decide (i ≤ m) = decide (0 ≤ i ∧ i ≤ m) from decide_eq_decide.mpr ⟨fun z => ⟨e0, z⟩, fun z => z.2⟩]
      exact q
    · have e0 : ¬ 0 ≤ i := fun z => e (decide_eq_true z)
      rw [show false = decide (0 ≤ i ∧ i ≤ m) from (decide_eq_false (fun z => e0 z.1)).symm]
      exact q
/-- nothing is refused -/
def spChNum : Sp := fun vs H Q _ => ∃ (i m : Int), vs = [.int i, .int m, .int 0] ∧ 0 ≤ i ∧ i ≤ m ∧ Q .non H
theorem cal_chNum (D : DefV K mg "check_number" sChNum ["value", "most", "least"] (.int 0)) (C : Cal K mg CX0 P w base 1 "is_number" [] spIsNum) : Cal K mg CX0 P w base 2 "check_number" [] spChNum ∧ Cal K mg CX0 P w base 2 "check_number" [.int 0] spChNum := by
  refine D.ok scChNum (fun vs H Q E h => ?_) (fun f cdv A outer s H vs Q E hr h => ?_)
  · obtain ⟨i, m, rfl, _⟩ := h
    rfl
  · obtain ⟨i, m, rfl, h0, h1, q⟩ := h
    refine ⟨_, pss_one (ps_if (pt_not (pt_val (pe_c C hr (pa_cons (pv 0) (pa_cons (pv 1) (pa_cons (pv 2) pa_nil)))))) pss_never pss_nil), ?_⟩
    refine ⟨.int i, rfl, .int m, rfl, .int 0, rfl, i, m, rfl, true, ?_, iteF q⟩
    rw [decide_eq_true (show 0 ≤ i ∧ i ≤ m from ⟨h0, h1⟩)]
def spChCei : Sp := fun vs H Q _ => ∃ (c : Option Nat), vs = [cV c] ∧ cOk 200 c ∧ Q .non H
theorem cal_chCei (D : Def K mg "check_ceiling" sChCei ["ceiling"]) (C : Cal K mg CX0 P w base 2 "check_number" [.int 0] spChNum) {tk : Tok} (gM : mg "MOST_HEIGHT" = some (.int 200 tk)) : Cal K mg CX0 P w base 3 "check_ceiling" [] spChCei := by
  refine D.cal scChCei (fun vs H Q E h => ?_) (fun f cdv A outer s H vs Q E hr h => ?_)
  · obtain ⟨c, rfl, _⟩ := h
    rfl
  · obtain ⟨c, rfl, hc, q⟩ := h
    refine ⟨_, pss_one (ps_if (pt_cmp (pc_notN (pv 0))) (pss_one (ps_expr (pe_c C hr (pa_cons (pv 0) (pa_cons (pe_glob (v := .int 200) (by rfl) gM ⟨_, rfl⟩) pa_nil))))) pss_nil), ?_⟩
    cases c with
    | none => exact ⟨.non, rfl, false, rfl, iteF q⟩
    | some k =>
      have hk : k ≤ 200 := hc
      exact ⟨.int (k : Int), rfl, true, rfl, iteT ⟨.int (k : Int), rfl, _, _, rfl, by omega, by omega, q⟩⟩
/-- one sign more -/
def spStep : Sp := fun vs H Q _ => ∃ (a : Addr) (T k : Nat), vs = [.ref a] ∧ H a = some (.lst ((rowW T k).map V.int)) ∧ T ≤ 1000 ∧
  ∀ H' p, Same H H' → H p = none → H' p = some (.lst ((rowW T (k + 1)).map V.int)) → Q (.ref p) H'
theorem cal_step (D : Def K mg "with_one_more_sign" sStep ["found"]) (mlen : mg "len" = none) (mrange : mg "range" = none) : Cal K mg CX0 P w base 1 "with_one_more_sign" [] spStep := by
  refine D.cal scStep (fun vs H Q E h => ?_) (fun f cdv A outer s H vs Q E hr h => ?_)
  · obtain ⟨a, T, k, rfl, _⟩ := h
    rfl
  · obtain ⟨a, T, k, rfl, ha, hT, q⟩ := h
    refine ⟨_, pss_cons (ps_set (i := 1) scStep.nd rfl (.inr rfl) (pe_op op_cat (pe_op op_cat (pe_lst (pa_cons pe_int pa_nil)) (pv 0)) (pe_lst (pa_cons pe_int pa_nil))))
      (pss_one (ps_ret (pe_lc (own := [("height", 2)]) (g := gName 2) (tt := tYes) rfl scStep.nd (pi_range1 (by rfl) mrange (pa_cons (pe_callB call_len_seq (by rfl) mlen PySem.boot_len (pa_cons (pv 0) pa_nil)) pa_nil))
        (blkOk_by (N := ["found", "padded", "height"]) (sc := defScope sStep) (by decide +kernel)) (fun _ _ _ _ _ => pg_name (i := 2) scStep.nd rfl (Or.inl rfl)) (fun _ _ _ _ _ => pts_nil)
        (fun _ _ _ _ _ => pe_op op_add (pe_ix (r := rIxL K) ix_list (pv 1) (pv 2) (fun _ _ => rfl)) (pe_ix (r := rIxL K) ix_list (pv 1) (pe_op op_add (pv 2) pe_int) (fun _ _ => rfl)))))), ?_⟩
    have hl : ((rowW T k).map V.int).length = T + 1 := by rw [List.length_map, rowW_len]
    refine ⟨sz (by decide), fun p1 n1 => ?_⟩
    have s1 := same_upd (o := .lst [.int 0]) n1
    refine ⟨.ref a, rfl, p1, a, _, _, rfl, rfl, upd_same, s1 _ _ ha, sz (by rw [hl]; show 1 + (T + 1) ≤ _; omega), fun p2 n2 => ?_⟩
    have s2 := s1.trans (same_upd (o := .lst ([.int 0] ++ (rowW T k).map V.int)) n2)
    refine ⟨sz (by decide), fun p3 n3 => ?_⟩
    have n23 : p2 ≠ p3 := ne_of_none upd_same n3
    have s3 := s2.trans (same_upd (o := .lst [.int 0]) n3)
    refine ⟨p2, p3, _, _, rfl, rfl, by rw [upd_ne n23]; exact upd_same, upd_same, sz (by rw [List.length_append, hl]; show 1 + (T + 1) + 1 ≤ _; omega), fun p4 n4 => ?_⟩
    have s4 := s3.trans (same_upd (o := .lst ([.int 0] ++ (rowW T k).map V.int ++ [.int 0])) n4)
    have ep : ([V.int 0] ++ (rowW T k).map V.int ++ [V.int 0]) = (padW (rowW T k)).map V.int := by
      unfold padW
      rw [List.map_cons, List.map_append]
      rfl
    -- the comprehension
    refine ⟨.ref a, rfl, a, _, rfl, .inl (.inl (.inl (s4 _ _ ha))), ((T + 1 : Nat) : Int), by rw [hl], by omega, by omega, fun D nD => ?_⟩
    have hp4 := s4
    have np4 : p4 ≠ D := ne_of_none (upd_same : (upd _ p4 (.lst ([.int 0] ++ (rowW T k).map V.int ++ [.int 0]))) p4 = some _) nD
    refine lc_range (lo := 0) (n := T + 1) (fun i H' => Same H H' ∧ H' p4 = some (.lst ((padW (rowW T k)).map V.int)) ∧ H' D = some (.lst (((rowW T (k + 1)).take i).map V.int))) ?_ ?_ ?_
    · refine ⟨same_updN s4 (s4.free nD), ?_, upd_same⟩
      rw [upd_ne np4, upd_same, ep]
    · intro i H' hi ⟨sm, e4, eD⟩
      obtain ⟨x, y, e1, e2, e3⟩ := row_step (T := T) (k := k) (h := i) (by omega)
      have g1 : ((padW (rowW T k)).map V.int)[i]? = some (.int x) := by rw [List.getElem?_map, e1]; rfl
      have g2 : ((padW (rowW T k)).map V.int)[i + 2]? = some (.int y) := by rw [List.getElem?_map, e2]; rfl
      refine ⟨rfl, ?_⟩
      unfold tYes
      refine iteT ?_
      refine ⟨.ref p4, rfl, .int (0 + (i : Int)), rfl, p4, _, _, .int x, rfl, rfl, .inl (.inl e4), at_of (by omega) g1, ?_⟩
      refine ⟨.ref p4, rfl, .int (0 + (i : Int)), rfl, _, _, rfl, rfl, p4, _, _, .int y, rfl, rfl, .inl (.inl e4), at_of (j := i + 2) (by omega) g2, ?_⟩
      refine ⟨x, y, rfl, rfl, _, eD, szl ?_, same_updN sm (s4.free nD), ?_, ?_⟩
      · rw [List.length_map, List.length_take]
        omega
      · rw [upd_ne np4]
        exact e4
      · rw [upd_same, List.take_add_one, e3, List.map_append]
        rfl
    · intro H' ⟨sm, e4, eD⟩
      rw [List.take_of_length_le (by rw [rowW_len]; omega)] at eD
      exact q H' D sm (s4.free nD) eD
end
end Hr
namespace Hr
open PySem PySem.Spec PyProof.Rows L2
/-- the table of ways at p: for each number of signs to n a list by heights to T -/
def Tbl (H : Hp) (p : Addr) (n T : Nat) : Prop := ∃ q : Nat → Addr, H p = some (.lst ((List.range (n + 1)).map fun k => V.ref (q k))) ∧ ∀ k, k ≤ n → H (q k) = some (.lst ((rowW T k).map V.int))
theorem Tbl.same {H H' : Hp} {p : Addr} {n T : Nat} (s : Same H H') (t : Tbl H p n T) : Tbl H' p n T := by
  obtain ⟨q, h1, h2⟩ := t
  exact ⟨q, s _ _ h1, fun k hk => s _ _ (h2 k hk)⟩
theorem range_get {n k : Nat} (q : Nat → Addr) (h : k ≤ n) : ((List.range (n + 1)).map fun k => V.ref (q k))[k]? = some (V.ref (q k)) := by
  rw [List.getElem?_map, List.getElem?_range (by omega)]
  rfl
theorem row0_lst (T : Nat) : [V.int 1] ++ (List.replicate T [V.int 0]).flatten = (rowW T 0).map V.int := by
  rw [rowW_zero, List.map_cons, List.map_replicate]
  have e : ∀ n : Nat, (List.replicate n [V.int 0]).flatten = List.replicate n (V.int 0) := by
    intro n
    induction n with
    | zero => rfl
    | succ n ih => rw [List.replicate_succ, List.replicate_succ, List.flatten_cons, ih]; rfl
  rw [e]
  rfl
section
variable {P : Program} {w : World} {K : PySem.W.Frag} {mg : Str → Option Value} {base : Heap}
def spTable : Sp := fun vs H Q _ => ∃ (n T : Nat), vs = [.int (n : Int), .int (T : Int)] ∧ n ≤ 1000 ∧ T ≤ 1000 ∧ ∀ H' p, Same H H' → H p = none → Tbl H' p n T → Q (.ref p) H'
theorem cal_table (D : Def K mg "ways_table" sTable ["left", "top"]) (C : Cal K mg CX0 P w base 1 "with_one_more_sign" [] spStep) (mrange : mg "range" = none) : Cal K mg CX0 P w base 2 "ways_table" [] spTable := by
  refine D.cal scTable (fun vs H Q E h => ?_) (fun f cdv A outer s H vs Q E hr h => ?_)
  · obtain ⟨n, T, rfl, _⟩ := h
    rfl
  · obtain ⟨n, T, rfl, hn, hT, q⟩ := h
    refine ⟨_, pss_cons (ps_set (i := 2) scTable.nd rfl (.inl rfl) (pe_lst (pa_cons (pe_op op_cat (pe_lst (pa_cons pe_int pa_nil)) (pe_op op_rep (pe_lst (pa_cons pe_int pa_nil)) (pv 1))) pa_nil)))
      (pss_cons (ps_for PassesOwn.never rfl (pi_range1 (by rfl) mrange (pa_cons (pv 0) pa_nil)) (pg_name (i := 3) scTable.nd rfl (.inl rfl))
        (pss_one (ps_expr (pe_bm PySem.F.plainAttrs_list PySem.F.slot_list_append PySem.F.type_list_append mt_append (pv 2) (pa_cons (pe_c C hr (pa_cons (pe_ix ix_list (pv 2) (pe_un un_neg pe_int) (fun _ _ => rfl)) pa_nil)) pa_nil)))))
      (pss_one (ps_ret (pv 2)))), ?_⟩
    refine ⟨sz (by decide), fun p1 n1 => ⟨sz (by decide), fun p2 n2 => ?_⟩⟩
    have s1 := same_upd (o := .lst [.int 1]) n1
    have s2 := s1.trans (same_upd (o := .lst [.int 0]) n2)
    refine ⟨.int (T : Int), rfl, p2, (T : Int), _, rfl, rfl, upd_same, by omega, by omega, sz (by show 1 * T ≤ _; omega), fun p3 n3 => ?_⟩
    have s3 := s2.trans (same_upd (o := .lst (List.replicate (T : Int).toNat [V.int 0]).flatten) n3)
    have n13 : p1 ≠ p3 := ne_of_none (by rw [upd_ne (ne_of_none upd_same n2)]; exact upd_same) n3
    have n12 : p1 ≠ p2 := ne_of_none upd_same n2
    have lz : (List.replicate (T : Int).toNat [V.int 0]).flatten.length = T := by
      have := congrArg List.length (row0_lst T)
      rw [List.length_append, List.length_map, rowW_len] at this
      have e : ([V.int 1] : List V).length = 1 := rfl
      rw [Int.toNat_natCast]
      omega
    refine ⟨p1, p3, _, _, rfl, rfl, by rw [upd_ne n13, upd_ne n12]; exact upd_same, upd_same, sz (by rw [lz]; show 1 + T ≤ _; omega), fun p4 n4 => ?_⟩
    rw [Int.toNat_natCast, row0_lst]
    rw [Int.toNat_natCast] at n4 s3
    have s4 := s3.trans (same_upd (o := .lst ((rowW T 0).map V.int)) n4)
    refine ⟨sz (show 1 ≤ 1000000 by decide), fun o no => ?_⟩
    have n4o : p4 ≠ o := ne_of_none upd_same no
    have s5 := same_updN (o := .lst [V.ref p4]) s4 (s4.free no)
    refine ⟨.int (n : Int), rfl, (n : Int), rfl, by omega, by omega, ?_⟩
    refine for_range (lo := 0) (n := n) (fun i σ H' => ∃ (y : Option V) (q : Nat → Addr), σ = [some (.int (n : Int)), some (.int (T : Int)), some (.ref o), y] ∧ Same H H' ∧
      H' o = some (.lst ((List.range (i + 1)).map fun k => V.ref (q k))) ∧ ∀ k, k ≤ i → H' (q k) = some (.lst ((rowW T k).map V.int)) ∧ q k ≠ o) ?_ ?_ ?_
    · refine ⟨none, fun _ => p4, rfl, s5, upd_same, fun k hk => ?_⟩
      have : k = 0 := by omega
      subst this
      refine ⟨?_, n4o⟩
      rw [upd_ne n4o]
      exact upd_same
    · rintro i σ H1 hi ⟨y, qa, rfl, sm, eo, er⟩
      have eL : ((List.range (i + 1)).map fun k => V.ref (qa k)) = ((List.range i).map fun k => V.ref (qa k)) ++ [V.ref (qa i)] := by
        rw [List.range_succ, List.map_append]
        rfl
      refine ⟨.ref o, rfl, .inl ⟨rfl, _, .inl (.inl eo)⟩, .ref o, rfl, 1, rfl, o, _, -1, .ref (qa i), rfl, rfl, .inl (.inl eo), by rw [eL]; exact atI_last _ _, ?_⟩
      refine ⟨qa i, T, i, rfl, (er i (Nat.le_refl _)).1, hT, fun H2 p sm2 np ep => ?_⟩
      have eo2 : H2 o = some (.lst ((List.range (i + 1)).map fun k => V.ref (qa k))) := sm2 _ _ eo
      have npo : p ≠ o := fun z => by
        rw [z, eo] at np
        cases np
      refine ⟨o, _, .ref p, rfl, rfl, eo2, szl (by rw [List.length_map, List.length_range]; omega), ?_⟩
      refine ⟨_, fun k => if k = i + 1 then p else qa k, rfl, same_updN (sm.trans sm2) (s4.free no), ?_, fun k hk => ?_⟩
      · rw [upd_same, List.range_succ (n := i + 1), List.map_append]
        congr 2
        congr 1
        · refine List.map_congr_left fun k hk => ?_
          have := List.mem_range.mp hk
          dsimp only
          rw [if_neg (by omega)]
        · show [V.ref p] = [V.ref (if i + 1 = i + 1 then p else qa (i + 1))]
          rw [if_pos rfl]
      · dsimp only
        by_cases e : k = i + 1
        · rw [if_pos e]
          refine ⟨?_, npo⟩
          rw [upd_ne npo, e]
          exact ep
        · rw [if_neg e]
          obtain ⟨h1, h2⟩ := er k (by omega)
          refine ⟨?_, h2⟩
          rw [upd_ne h2]
          exact sm2 _ _ h1
    · rintro σ H1 ⟨y, qa, rfl, sm, eo, er⟩
      exact ⟨.ref o, rfl, q H1 o sm (s4.free no) ⟨qa, eo, fun k hk => (er k hk).1⟩⟩
def spHill : Sp := fun vs H Q _ => ∃ (n : Nat) (c : Option Nat), vs = [.int (n : Int), cV c] ∧ n ≤ 400 ∧ ∀ H' p, Same H H' → H p = none → Tbl H' p (2 * n) (low n c) → Q (.ref p) H'
theorem low_le (n : Nat) (c : Option Nat) : low n c ≤ n := by
  cases c with
  | none => exact Nat.le_refl _
  | some k => exact Nat.min_le_left _ _
theorem cal_hill (D : Def K mg "hill_table" sHill ["n", "ceiling"]) (C : Cal K mg CX0 P w base 2 "ways_table" [] spTable) (C2 : Cal K mg CX0 P w base 1 "lower_of" [] spLow) : Cal K mg CX0 P w base 3 "hill_table" [] spHill := by
  refine D.cal scHill (fun vs H Q E h => ?_) (fun f cdv A outer s H vs Q E hr h => ?_)
  · obtain ⟨n, c, rfl, _⟩ := h
    rfl
  · obtain ⟨n, c, rfl, hn, q⟩ := h
    refine ⟨_, pss_one (ps_ret (pe_c C hr (pa_cons (pe_op op_mul pe_int (pv 0)) (pa_cons (pe_c C2 hr (pa_cons (pv 0) (pa_cons (pv 1) pa_nil))) pa_nil)))), ?_⟩
    have hl := low_le n c
    refine ⟨.int (n : Int), rfl, 2, _, rfl, rfl, .inl ⟨by decide, by decide⟩, .int (n : Int), rfl, cV c, rfl, n, c, rfl, 2 * n, low n c, ?_, by omega, by omega, q⟩
    rw [Int.natCast_mul]
    rfl
/-- as many as the hill rows of n under the ceiling -/
def spCounted : Sp := fun vs H Q _ => ∃ (n : Nat) (c : Option Nat), vs = [.int (n : Int), cV c] ∧ n ≤ 200 ∧ cOk 200 c ∧ ∀ H', Same H H' → Q (.int ((W (low n c) (2 * n) 0 : Nat) : Int)) H'
theorem cal_counted (D : DefD K mg "counted" sCounted ["n", "ceiling"]) (C : Cal K mg CX0 P w base 3 "hill_table" [] spHill) (C2 : Cal K mg CX0 P w base 2 "check_number" [.int 0] spChNum) (C3 : Cal K mg CX0 P w base 3 "check_ceiling" [] spChCei)
    {tk : Tok} (gM : mg "MOST_UPS" = some (.int 200 tk)) : Cal K mg CX0 P w base 4 "counted" [] spCounted ∧ Cal K mg CX0 P w base 4 "counted" [.non] spCounted := by
  refine D.ok scCounted (fun vs H Q E h => ?_) (fun f cdv A outer s H vs Q E hr h => ?_)
  · obtain ⟨n, c, rfl, _⟩ := h
    rfl
  · obtain ⟨n, c, rfl, hn, hc, q⟩ := h
    refine ⟨_, pss_cons (ps_expr (pe_c C2 hr (pa_cons (pv 0) (pa_cons (pe_glob (v := .int 200) (by rfl) gM ⟨_, rfl⟩) pa_nil))))
      (pss_cons (ps_expr (pe_c C3 hr (pa_cons (pv 1) pa_nil)))
      (pss_one (ps_ret (pe_ix ix_list (pe_ix ix_list (pe_c C hr (pa_cons (pv 0) (pa_cons (pv 1) pa_nil))) (pe_op op_mul pe_int (pv 0)) (fun _ _ => rfl)) pe_int (fun _ _ => rfl))))), ?_⟩
    refine ⟨.int (n : Int), rfl, (n : Int), 200, rfl, by omega, by omega, ?_⟩
    refine ⟨cV c, rfl, c, rfl, hc, ?_⟩
    refine ⟨.int (n : Int), rfl, cV c, rfl, n, c, rfl, by omega, fun H' p sm np ⟨qa, e1, e2⟩ => ?_⟩
    have e3 := e2 (2 * n) (Nat.le_refl _)
    refine ⟨.int (n : Int), rfl, 2, _, rfl, rfl, .inl ⟨by decide, by decide⟩, p, _, _, .ref (qa (2 * n)), rfl, rfl, .inl (.inl e1), at_of (j := 2 * n) (by rw [Int.natCast_mul]; rfl) (range_get qa (Nat.le_refl _)), ?_⟩
    refine ⟨qa (2 * n), _, 0, .int ((W (low n c) (2 * n) 0 : Nat) : Int), rfl, rfl, .inl (.inl e3), at_of (j := 0) rfl ?_, q H' sm⟩
    rw [List.getElem?_map, rowW_get (Nat.zero_le _)]
    rfl
end
end Hr
/-! ### the law's own numbers -/
namespace Hr
open PySem PySem.Spec PyProof.Rows L2
/-- what _law_mixed makes of a cell at its place -/
def mixed (z k : Int) : Int :=
  let m := (z % 2147483629 + 104729 * (k + 1)) * 16807 % 2147483647
  m * m % 2147483629 * 48271 % 2147483647
theorem mixed_nonneg (z k : Int) : 0 ≤ mixed z k := Int.emod_nonneg _ (by decide)
theorem mixed_lt (z k : Int) : mixed z k < 2147483647 := Int.emod_lt_of_pos _ (by decide)
theorem scMixed : FnScope ["_law_cell", "_law_k", "_law_mark"] ["_law_cell", "_law_k"] (defScope sMixed) := ⟨rfl, rfl, rfl, by decide +kernel, rfl, by decide +kernel, by decide +kernel⟩
section
variable {P : Program} {w : World} {K : PySem.W.Frag} {mg : Str → Option Value} {base : Heap}
def spMixed : Sp := fun vs H Q _ => ∃ (z k : Int), vs = [.int z, .int k] ∧ Q (.int (mixed z k)) H
theorem cal_mixed (D : Def K mg "_law_mixed" sMixed ["_law_cell", "_law_k"]) : Cal K mg CX0 P w base 1 "_law_mixed" [] spMixed := by
  refine D.cal scMixed (fun vs H Q E h => ?_) (fun f cdv A outer s H vs Q E hr h => ?_)
  · obtain ⟨z, k, rfl, _⟩ := h
    rfl
  · obtain ⟨z, k, rfl, q⟩ := h
    refine ⟨_, pss_cons (ps_set (i := 2) scMixed.nd rfl (.inl rfl) (pe_op op_mod (pe_op op_mul (pe_op op_add (pe_op op_mod (pv 0) pe_int) (pe_op op_mul pe_int (pe_op op_add (pv 1) pe_int))) pe_int) pe_int))
      (pss_one (ps_ret (pe_op op_mod (pe_op op_mul (pe_op op_mod (pe_op op_mul (pv 2) (pv 2)) pe_int) pe_int) pe_int))), ?_⟩
    refine ⟨.int z, rfl, z, 2147483629, rfl, rfl, (by show (0 : Int) < 2147483629; decide), .int k, rfl, k, 1, rfl, rfl, 104729, k + 1, rfl, rfl, .inl ⟨by decide, by decide⟩, z % 2147483629, 104729 * (k + 1), rfl, rfl, _, 16807, rfl, rfl, .inr ⟨by decide, by decide⟩,
      _, 2147483647, rfl, rfl, (by show (0 : Int) < 2147483647; decide), ?_⟩
    have h0 : 0 ≤ (z % 2147483629 + 104729 * (k + 1)) * 16807 % 2147483647 := Int.emod_nonneg _ (by decide)
    have h1 : (z % 2147483629 + 104729 * (k + 1)) * 16807 % 2147483647 < 2147483647 := Int.emod_lt_of_pos _ (by decide)
    refine ⟨_, rfl, _, rfl, _, _, rfl, rfl, .inl ⟨by omega, by omega⟩, _, 2147483629, rfl, rfl, (by show (0 : Int) < 2147483629; decide), _, 48271, rfl, rfl, .inr ⟨by decide, by decide⟩, _, 2147483647, rfl, rfl, (by show (0 : Int) < 2147483647; decide), ?_⟩
    exact q
end
end Hr
/-! ### rows as texts -/
namespace Hr
open PySem PySem.Spec PyProof.Rows L2
def code (b : Bool) : Nat := if b = true then 117 else 100
def txt (l : List Bool) : Str := ⟨(l.map code).toArray⟩
def sgn (b : Bool) : Str := ⟨#[code b]⟩
theorem txt_len (l : List Bool) : (txt l).length = l.length := by
  show ((l.map code).toArray).size = _
  rw [List.size_toArray, List.length_map]
theorem txt_size (l : List Bool) : (txt l).cps.size = l.length := txt_len l
theorem txt_at (l : List Bool) (i : Nat) : (txt l).cps[i]? = (l[i]?).map code := by
  show ((l.map code).toArray)[i]? = _
  rw [List.getElem?_toArray, List.getElem?_map]
theorem code_inj {a b : Bool} (h : code a = code b) : a = b := by
  cases a <;> cases b <;> first | rfl | (exact absurd h (by decide))
theorem map_code_inj : ∀ {a b : List Bool}, a.map code = b.map code → a = b
  | [], [], _ => rfl
  | [], _ :: _, e => by cases e
  | _ :: _, [], e => by cases e
  | x :: a, y :: b, e => by
    rw [List.map_cons, List.map_cons] at e
    injection e with e1 e2
    rw [code_inj e1, map_code_inj e2]
theorem txt_inj {a b : List Bool} (h : txt a = txt b) : a = b := by
  have := congrArg (fun z : Str => z.cps.toList) h
  exact map_code_inj (by simpa [txt] using this)
theorem txt_append (a b : List Bool) : txt a ++ txt b = txt (a ++ b) := by
  have := SX.S_cat (a.map code) (b.map code)
  rw [← List.map_append] at this
  exact this
theorem eU : ("u" : Str) = ⟨#[117]⟩ := by decide +kernel
theorem eD : ("d" : Str) = ⟨#[100]⟩ := by decide +kernel
theorem eE : ("" : Str) = ⟨#[]⟩ := by decide +kernel
theorem sgn_u : sgn true = ("u" : Str) := eU.symm
theorem sgn_d : sgn false = ("d" : Str) := eD.symm
theorem one_inj {a b : Nat} : ((⟨#[a]⟩ : Str) = ⟨#[b]⟩) ↔ a = b := by
  constructor
  · intro h
    have := congrArg (fun z : Str => z.cps.toList) h
    simpa using this
  · intro h
    rw [h]
theorem is_u (c : Nat) : decide (V.str ⟨#[c]⟩ = V.str ("u" : Str)) = decide (c = 117) := by
  refine decide_eq_decide.mpr ?_
  rw [eU]
  exact ⟨fun z => one_inj.mp (V.str.inj z), fun z => by rw [z]⟩
theorem code_u (b : Bool) : decide (code b = 117) = b := by cases b <;> rfl
/-- a text of ups and downs alone -/
def isS (c : Nat) : Bool := decide (c = 117) || decide (c = 100)
def isRowB (z : Str) : Bool := z.cps.toList.all isS
theorem isRowB_txt (l : List Bool) : isRowB (txt l) = true := by
  show (l.map code).toArray.toList.all isS = true
  rw [List.all_eq_true]
  intro c hc
  have hc : c ∈ l.map code := hc
  obtain ⟨b, _, rfl⟩ := List.mem_map.mp hc
  cases b <;> rfl
/-- the signs of a text -/
def signs (z : Str) : List Bool := z.cps.toList.map fun c => decide (c = 117)
theorem signs_txt (l : List Bool) : signs (txt l) = l := by
  show (l.map code).map _ = l
  rw [List.map_map]
  refine (List.map_congr_left fun b _ => ?_).trans (List.map_id l)
  exact code_u b
theorem txt_signs {z : Str} (h : isRowB z = true) : txt (signs z) = z := by
  obtain ⟨⟨l⟩⟩ := z
  have h : l.all isS = true := h
  show (⟨((l.map fun c => decide (c = 117)).map code).toArray⟩ : Str) = ⟨l.toArray⟩
  congr 2
  rw [List.map_map]
  refine (List.map_congr_left fun c hc => ?_).trans (List.map_id l)
  have := List.all_eq_true.mp h c hc
  unfold isS at this
  show code (decide (c = 117)) = c
  by_cases e : c = 117
  · rw [e]
    rfl
  · have e2 : c = 100 := by simpa [e] using this
    rw [e2]
    rfl
theorem signs_len (z : Str) : (signs z).length = z.length := by
  unfold signs
  rw [List.length_map, Array.length_toList]
  rfl
/-- whether a text is a hill row under a ceiling -/
def hillB (c : Option Nat) (z : Str) : Bool := isRowB z && okb c 0 (signs z)
theorem hillB_txt (c : Option Nat) (l : List Bool) : hillB c (txt l) = okb c 0 l := by
  unfold hillB
  rw [isRowB_txt, signs_txt, Bool.true_and]
theorem in_signs (c : Nat) : inV (.str ⟨#[c]⟩) [.str "u", .str "d"] = isS c := by
  have e : ∀ (k : Nat), ((⟨#[k]⟩ : Str) == ⟨#[c]⟩) = decide (c = k) := fun k => by
    by_cases h : c = k
    · rw [h]
      simp
    · rw [decide_eq_false h]
      refine beq_eq_false_iff_ne.mpr fun z => h (one_inj.mp z).symm
  show (("u" : Str) == ⟨#[c]⟩ || (("d" : Str) == ⟨#[c]⟩ || false)) = _
  rw [eU, eD, e, e, Bool.or_false]
  rfl
theorem take_snoc {α : Type} {l : List α} {i : Nat} {x : α} (h : l[i]? = some x) : l.take (i + 1) = l.take i ++ [x] := by
  rw [List.take_add_one, h]
  rfl
theorem scIsRow : FnScope ["text", "sign"] ["text"] (defScope sIsRow) := ⟨rfl, rfl, rfl, by decide +kernel, rfl, by decide +kernel, by decide +kernel⟩
theorem scHeights : FnScope ["row", "height", "found", "sign"] ["row"] (defScope sHeights) := ⟨rfl, rfl, rfl, by decide +kernel, rfl, by decide +kernel, by decide +kernel⟩
theorem scIsHill : FnScope ["row", "ceiling", "found"] ["row", "ceiling"] (defScope sIsHill) := ⟨rfl, rfl, rfl, by decide +kernel, rfl, by decide +kernel, by decide +kernel⟩
section
variable {P : Program} {w : World} {K : PySem.W.Frag} {mg : Str → Option Value} {base : Heap}
def spIsRow : Sp := fun vs H Q _ => ∃ (z : Str), vs = [.str z] ∧ z.length ≤ 1000 ∧ ∀ H', Same H H' → Q (.bl (isRowB z)) H'
theorem cal_isRow (D : Def K mg "is_row" sIsRow ["text"]) (misi : mg "isinstance" = none) (mstr : mg "str" = none) (mall : mg "all" = none) {t1 t2 : Tok} (gU : mg "UP" = some (.str "u" t1)) (gD : mg "DOWN" = some (.str "d" t2)) : Cal K mg CX0 P w base 1 "is_row" [] spIsRow := by
  refine D.cal scIsRow (fun vs H Q E h => ?_) (fun f cdv A outer s H vs Q E hr h => ?_)
  · obtain ⟨z, rfl, _⟩ := h
    rfl
  · obtain ⟨z, rfl, hz, q⟩ := h
    refine ⟨_, pss_one (ps_ret (pe_and (pe_callB call_isi (by rfl) misi (by decide +kernel) (pa_cons (pv 0) (pa_cons (pe_bltn (v := .ty "str") (u := .type "str") (by rfl) mstr (by decide +kernel) rfl) pa_nil)))
      (pe_one (pe_callB (cr_all rfl) (by rfl) mall (by decide +kernel) (pa_cons (pe_lc (own := [("sign", 1)]) (g := gName 1) (tt := tYes) rfl scIsRow.nd (pi_str (pv 0))
        (blkOk_by (N := ["text", "sign"]) (sc := defScope sIsRow) (by decide +kernel)) (fun _ _ _ _ _ => pg_name (i := 1) scIsRow.nd rfl (Or.inl rfl)) (fun _ _ _ _ _ => pts_nil)
        (fun _ _ _ _ _ => pe_cmpR (r := rIn K false) op_in_seq (pv 1) (pe_tup (pa_cons (pe_glob (v := .str "u") (by rfl) gU ⟨_, rfl⟩) (pa_cons (pe_glob (v := .str "d") (by rfl) gD ⟨_, rfl⟩) pa_nil))) (by rfl))) pa_nil))))), ?_⟩
    refine ⟨.str z, rfl, .str z, .ty "str", _, _, true, rfl, .ty "str", .base (.str z), kit_ty (by decide +kernel), true, rfl, iteT ?_⟩
    refine ⟨.str z, rfl, z, rfl, fun D nD => ?_⟩
    refine lc_it walk_str (fun i H' => Same H H' ∧ H' D = some (.lst (((z.cps.toList.take i).map isS).map V.bl))) ⟨same_upd nD, upd_same⟩ (fun _ _ _ _ => trivial) ?_ ?_
    · rintro i x H1 H2 hi ⟨sm, eD⟩ ⟨rfl, c, hc, rfl⟩
      have hc' : z.cps.toList[i]? = some c := by rw [Array.getElem?_toList]; exact hc
      refine ⟨rfl, ?_⟩
      unfold tYes
      refine iteT ?_
      refine ⟨_, rfl, sz (show 2 ≤ 1000000 by decide), fun t nt => ?_⟩
      have nDt : D ≠ t := ne_of_none eD nt
      refine ⟨t, _, rfl, .inr (.inl (.inl upd_same)), rfl, rfl, _, by rw [upd_ne nDt]; exact eD, szl ?_, same_updN (sm.trans (same_upd nt)) nD, ?_⟩
      · rw [List.length_map, List.length_map, List.length_take]
        have : z.cps.toList.length = z.length := rfl
        omega
      · rw [upd_same, take_snoc hc', List.map_append, List.map_append]
        show some (HO.lst (_ ++ [V.bl (inV (.str ⟨#[c]⟩) [.str "u", .str "d"])])) = _
        rw [in_signs]
        rfl
    · rintro H1 ⟨sm, eD⟩
      refine ⟨D, _, rfl, .inl (.inl eD), ?_⟩
      have e : (((z.cps.toList.take z.cps.size).map isS).all id) = isRowB z := by
        rw [List.take_of_length_le (by rw [Array.length_toList]; exact Nat.le_refl _), List.all_map]
        rfl
      rw [e]
      exact q H1 sm
def spHeights : Sp := fun vs H Q _ => ∃ (l : List Bool), vs = [.str (txt l)] ∧ l.length ≤ 1000 ∧ ∀ H' p, Same H H' → H p = none → H' p = some (.lst ((hts 0 l).map V.int)) → Q (.ref p) H'
theorem cal_heights (D : Def K mg "heights" sHeights ["row"]) (C : Cal K mg CX0 P w base 1 "is_row" [] spIsRow) {t1 : Tok} (gU : mg "UP" = some (.str "u" t1)) : Cal K mg CX0 P w base 2 "heights" [] spHeights := by
  refine D.cal scHeights (fun vs H Q E h => ?_) (fun f cdv A outer s H vs Q E hr h => ?_)
  · obtain ⟨z, rfl, _⟩ := h
    rfl
  · obtain ⟨l, rfl, hl, q⟩ := h
    have nd := scHeights.nd
    refine ⟨_, pss_cons (ps_if (pt_not (pt_val (pe_c C hr (pa_cons (pv 0) pa_nil)))) pss_never pss_nil)
      (pss_cons (ps_set (i := 1) nd rfl (.inl rfl) pe_int)
      (pss_cons (ps_set (i := 2) nd rfl (.inl rfl) (pe_lst (pa_cons (pv 1) pa_nil)))
      (pss_cons (ps_for PassesOwn.never rfl (pi_str (pv 0)) (pg_name (i := 3) nd rfl (.inl rfl))
        (pss_cons (ps_aug (i := 1) nd rfl (.inl rfl) (pe_ifExp (pt_cmpR op_eq (pv 3) (pe_glob (v := .str "u") (by rfl) gU ⟨_, rfl⟩) (nomark _)) pe_int (pe_un un_neg pe_int)) ip_add)
        (pss_one (ps_expr (pe_bm PySem.F.plainAttrs_list PySem.F.slot_list_append PySem.F.type_list_append mt_append (pv 2) (pa_cons (pv 1) pa_nil))))))
      (pss_one (ps_ret (pv 2)))))), ?_⟩
    refine ⟨.str (txt l), rfl, txt l, rfl, by rw [txt_len]; exact hl, fun H1 s1 => ⟨true, by rw [isRowB_txt], iteF ?_⟩⟩
    refine ⟨.int 0, rfl, sz (show 1 ≤ 1000000 by decide), fun o no => ?_⟩
    have n0 : H o = none := s1.free no
    refine ⟨.str (txt l), rfl, txt l, rfl, ?_⟩
    refine for_it walk_str (fun i σ H' => ∃ y, σ = [some (.str (txt l)), some (.int ((l.take i).map sg).sum), some (.ref o), y] ∧ Same H H' ∧ H' o = some (.lst ((hts 0 (l.take i)).map V.int))) ?_ (fun _ _ _ _ _ => trivial) ?_ ?_
    · exact ⟨none, rfl, same_updN s1 n0, upd_same⟩
    · rintro i x σ H2 H3 hi ⟨y, rfl, sm, eo⟩ ⟨rfl, c, hc, rfl⟩
      rw [txt_at] at hc
      obtain ⟨b, hb, rfl⟩ := Option.map_eq_some_iff.mp hc
      have e1 : ((l.take (i + 1)).map sg).sum = ((l.take i).map sg).sum + sg b := by
        rw [take_snoc hb, List.map_append, List.sum_append]
        show _ + (sg b + 0) = _
        omega
      have e2 : hts 0 (l.take (i + 1)) = hts 0 (l.take i) ++ [((l.take (i + 1)).map sg).sum] := by
        rw [e1, take_snoc hb, hts_snoc, Int.zero_add]
      have hlen : ((hts 0 (l.take i)).map V.int).length < sizeLine := szl (by rw [List.length_map, hts_len, List.length_take]; omega)
      refine ⟨_, rfl, .str ⟨#[code b]⟩, rfl, rfl, decide (code b = 117), congrArg V.bl (is_u _), ?_⟩
      rw [code_u]
      cases b with
      | true =>
        refine iteT ?_
        refine ⟨_, 1, rfl, rfl, .ref o, rfl, .inl ⟨rfl, _, .inl (.inl eo)⟩, _, rfl, o, _, _, rfl, rfl, eo, hlen, some (.str ⟨#[code true]⟩), ?_, same_updN sm n0, ?_⟩
        · rw [e1]
          rfl
        · rw [upd_same, e2, e1, List.map_append]
          rfl
      | false =>
        refine iteF ?_
        refine ⟨1, rfl, _, -1, rfl, rfl, .ref o, rfl, .inl ⟨rfl, _, .inl (.inl eo)⟩, _, rfl, o, _, _, rfl, rfl, eo, hlen, some (.str ⟨#[code false]⟩), ?_, same_updN sm n0, ?_⟩
        · rw [e1]
          rfl
        · rw [upd_same, e2, e1, List.map_append]
          rfl
    · rintro σ H2 ⟨y, rfl, sm, eo⟩
      rw [txt_size, List.take_length] at eo
      exact ⟨.ref o, rfl, q H2 o sm n0 eo⟩
def spIsHill : Sp := fun vs H Q _ => ∃ (z : Str) (c : Option Nat), vs = [.str z, cV c] ∧ z.length ≤ 1000 ∧ ∀ H', Same H H' → Q (.bl (hillB c z)) H'
theorem cal_isHill (D : DefD K mg "is_hill" sIsHill ["row", "ceiling"]) (C : Cal K mg CX0 P w base 1 "is_row" [] spIsRow) (C2 : Cal K mg CX0 P w base 2 "heights" [] spHeights) (mmin : mg "min" = none) (mmax : mg "max" = none) :
    Cal K mg CX0 P w base 3 "is_hill" [] spIsHill ∧ Cal K mg CX0 P w base 3 "is_hill" [.non] spIsHill := by
  refine D.ok scIsHill (fun vs H Q E h => ?_) (fun f cdv A outer s H vs Q E hr h => ?_)
  · obtain ⟨z, c, rfl, _⟩ := h
    rfl
  · obtain ⟨z, c, rfl, hz, q⟩ := h
    have nd := scIsHill.nd
    refine ⟨_, pss_cons (ps_if (pt_not (pt_val (pe_c C hr (pa_cons (pv 0) pa_nil)))) (pss_one (ps_ret pe_bl)) pss_nil)
      (pss_cons (ps_set (i := 2) nd rfl (.inl rfl) (pe_c C2 hr (pa_cons (pv 0) pa_nil)))
      (pss_cons (ps_if (PW.pt (pw_or (pt_cmpR op_ne (pe_ix ix_list (pv 2) (pe_un un_neg pe_int) (fun _ _ => rfl)) pe_int (nomark _)) (pw_or1 (pt_cmpR op_lt (pe_callB (cr_min rfl) (by rfl) mmin boot_min (pa_cons (pv 2) pa_nil)) pe_int (nomark _))))) (pss_one (ps_ret pe_bl)) pss_nil)
      (pss_one (ps_ret (pe_or (pe_cmp (pc_isN (pv 1))) (pe_one (pe_cmpR op_le (pe_callB (cr_max rfl) (by rfl) mmax boot_max (pa_cons (pv 2) pa_nil)) (pv 1) (nomark _)))))))), ?_⟩
    refine ⟨.str z, rfl, z, rfl, hz, fun H1 s1 => ⟨isRowB z, rfl, ?_⟩⟩
    by_cases hrow : isRowB z = true
    · rw [hrow]
      refine iteF ?_
      obtain ⟨l, rfl⟩ : ∃ l, z = txt l := ⟨signs z, (txt_signs hrow).symm⟩
      rw [txt_len] at hz
      refine ⟨.str (txt l), rfl, l, rfl, hz, fun H2 p s2 np ep => ?_⟩
      have hS : SqL K H2 p ((hts 0 l).map V.int) := .inl (.inl ep)
      have hne : 0 < (hts 0 l).length := by rw [hts_len]; omega
      have hlast : (hts 0 l).map V.int = ((hts 0 l).dropLast).map V.int ++ [.int (l.map sg).sum] := by
        conv => lhs; rw [hts_last l 0]
        rw [List.map_append, Int.zero_add]
        rfl
      have iff := okb_iff c l 0 (fun k _ => Nat.zero_le _)
      have qq : ∀ b : Bool, (b = true ↔ okb c 0 l = true) → ∀ H', Same H H' → Q (.bl b) H' := fun b hb H' sm => by
        have := q H' sm
        rw [hillB_txt] at this
        have e : b = okb c 0 l := Bool.eq_iff_iff.mpr hb
        rw [e]
        exact this
      have sm := s1.trans s2
      refine ⟨.ref p, rfl, 1, rfl, p, _, -1, .int (l.map sg).sum, rfl, rfl, hS, by rw [hlast]; exact atI_last _ _, rfl, _, rfl, ite2 (fun e => ?_) (fun e => ?_)⟩
      · refine iteT ?_
        refine qq false ⟨fun z => (nomatch z), fun z => ?_⟩ H2 sm
        have := (iff.mp z).1
        have e' : ¬ (V.int (l.map sg).sum = V.int 0) := by simpa using e
        exact absurd (congrArg V.int (by have : ((0 : Nat) : Int) + (l.map sg).sum = 0 := this; omega)) e'
      · have e0 : (l.map sg).sum = 0 := by
          have : V.int (l.map sg).sum = V.int 0 := by simpa using e
          exact V.int.inj this
        refine ⟨.ref p, rfl, p, hts 0 l, rfl, hS, hne, fun m hm hmin => ⟨_, _, rfl, rfl, _, rfl, ite2 (fun g => ?_) (fun g => ?_)⟩⟩
        · have g0 : m < 0 := of_decide_eq_true g
          refine qq false ⟨fun z => (nomatch z), fun z => ?_⟩ H2 sm
          have := (iff.mp z).2.1 m hm
          omega
        · have g0 : ¬ m < 0 := fun z => g (decide_eq_true z)
          have hpos : ∀ x ∈ hts 0 l, 0 ≤ x := fun x hx => by
            have := hmin x hx
            omega
          cases c with
          | none =>
            refine ⟨.non, rfl, true, rfl, iteT ?_⟩
            refine qq true ⟨fun _ => iff.mpr ⟨by show ((0 : Nat) : Int) + _ = 0; omega, hpos, fun k z => by cases z⟩, fun _ => rfl⟩ H2 sm
          | some k =>
            refine ⟨.int (k : Int), rfl, false, rfl, iteF ?_⟩
            refine ⟨.ref p, rfl, p, hts 0 l, rfl, hS, hne, fun M hM hmax => ⟨.int (k : Int), rfl, M, (k : Int), rfl, rfl, ?_⟩⟩
            refine qq (decide (M ≤ (k : Int))) ⟨fun z => ?_, fun z => ?_⟩ H2 sm
            · have hk := of_decide_eq_true z
              refine iff.mpr ⟨by show ((0 : Nat) : Int) + _ = 0; omega, hpos, fun k' z' x hx => ?_⟩
              cases z'
              have := hmax x hx
              omega
            · exact decide_eq_true ((iff.mp z).2.2 k rfl M hM)
    · have hrow' : isRowB z = false := by simpa using hrow
      rw [hrow']
      refine iteT ?_
      have e : hillB c z = false := by
        unfold hillB
        rw [hrow', Bool.false_and]
      have := q H1 s1
      rw [e] at this
      exact this
end
end Hr
/-! ### ranks -/
namespace Hr
open PySem PySem.Spec PyProof.Rows L2
theorem scChHill : FnScope ["row", "ceiling"] ["row", "ceiling"] (defScope sChHill) := ⟨rfl, rfl, rfl, by decide +kernel, rfl, by decide +kernel, by decide +kernel⟩
theorem scRank : FnScope ["row", "ceiling"] ["row", "ceiling"] (defScope sRank) := ⟨rfl, rfl, rfl, by decide +kernel, rfl, by decide +kernel, by decide +kernel⟩
theorem scRowAt : FnScope ["n", "r", "ceiling", "table"] ["n", "r", "ceiling"] (defScope sRowAt) := ⟨rfl, rfl, rfl, by decide +kernel, rfl, by decide +kernel, by decide +kernel⟩
theorem scSignAt : FnScope ["n", "r", "place", "ceiling", "row"] ["n", "r", "place", "ceiling"] (defScope sSignAt) := ⟨rfl, rfl, rfl, by decide +kernel, rfl, by decide +kernel, by decide +kernel⟩
theorem scNext : FnScope ["row", "ceiling"] ["row", "ceiling"] (defScope sNext) := ⟨rfl, rfl, rfl, by decide +kernel, rfl, by decide +kernel, by decide +kernel⟩
theorem scAhead : FnScope ["row", "ceiling"] ["row", "ceiling"] (defScope sAhead) := ⟨rfl, rfl, rfl, by decide +kernel, rfl, by decide +kernel, by decide +kernel⟩
theorem scBeside : FnScope ["row", "ceiling", "step", "table", "r"] ["row", "ceiling", "step"] (defScope sBeside) := ⟨rfl, rfl, rfl, by decide +kernel, rfl, by decide +kernel, by decide +kernel⟩
theorem scNumOf : FnScope ["row", "table", "r", "height", "left", "sign"] ["row", "table"] (defScope sNumOf) := ⟨rfl, rfl, rfl, by decide +kernel, rfl, by decide +kernel, by decide +kernel⟩
theorem scOfNum : FnScope ["r", "table", "signs", "height", "ahead", "left", "down"] ["r", "table"] (defScope sOfNum) := ⟨rfl, rfl, rfl, by decide +kernel, rfl, by decide +kernel, by decide +kernel⟩
theorem scDown : FnScope ["table", "height", "left"] ["table", "height", "left"] (defScope sDown) := ⟨rfl, rfl, rfl, by decide +kernel, rfl, by decide +kernel, by decide +kernel⟩
theorem scCount : FnScope ["table"] ["table"] (defScope sCount) := ⟨rfl, rfl, rfl, by decide +kernel, rfl, by decide +kernel, by decide +kernel⟩
theorem sgn_sum : ∀ l : List Bool, ((l.map sgn).map (·.length)).sum = l.length
  | [] => rfl
  | b :: r => by
    rw [List.map_cons, List.map_cons, List.sum_cons, sgn_sum r, List.length_cons]
    show 1 + _ = _
    omega
theorem args_pik {p : Addr} {x y : Int} {h k : Nat} (hx : x = (h : Int)) (hy : y = (k : Int)) : [V.ref p, V.int x, V.int y] = [V.ref p, V.int (h : Int), V.int (k : Int)] := by
  rw [hx, hy]
theorem join_signs (l : List Bool) : Txt.join ("" : Str) (l.map sgn) = txt l := by
  have h := SX.join_S [] (l.map fun b => [code b])
  have e1 : (l.map fun b => [code b]).map SX.S = l.map sgn := by
    rw [List.map_map]
    rfl
  rw [e1] at h
  have e2 : ∀ l : List Bool, TL.joinL [] (l.map fun b => [code b]) = l.map code := by
    intro l
    induction l with
    | nil => rfl
    | cons b l ih =>
      cases l with
      | nil => rfl
      | cons b2 l =>
        show [code b] ++ ([] ++ TL.joinL [] ((b2 :: l).map fun b => [code b])) = _
        rw [ih]
        rfl
  rw [e2] at h
  rw [eE]
  exact h
section
variable {P : Program} {w : World} {K : PySem.W.Frag} {mg : Str → Option Value} {base : Heap}
def spDown : Sp := fun vs H Q _ => ∃ (p : Addr) (n T h k : Nat), vs = [.ref p, .int (h : Int), .int (k : Int)] ∧ Tbl H p n T ∧ k ≤ n ∧ h ≤ T + 1 ∧ Q (.int ((dn T k h : Nat) : Int)) H
theorem cal_down (D : Def K mg "ways_down" sDown ["table", "height", "left"]) : Cal K mg CX0 P w base 1 "ways_down" [] spDown := by
  refine D.cal scDown (fun vs H Q E h => ?_) (fun f cdv A outer s H vs Q E hr h => ?_)
  · obtain ⟨p, n, T, h, k, rfl, _⟩ := h
    rfl
  · obtain ⟨p, n, T, h, k, rfl, ⟨qa, e1, e2⟩, hk, hh, q⟩ := h
    refine ⟨_, pss_one (ps_ret (pe_ifExp (pt_cmpR op_gt (pv 1) pe_int (nomark _)) (pe_ix ix_list (pe_ix ix_list (pv 0) (pv 2) (fun _ _ => rfl)) (pe_op op_sub (pv 1) pe_int) (fun _ _ => rfl)) pe_int)), ?_⟩
    refine ⟨.int (h : Int), rfl, (h : Int), 0, rfl, rfl, _, rfl, ite2 (fun e => ?_) (fun e => ?_)⟩
    · have e0 : 0 < h := by
        have := of_decide_eq_true e
        omega
      refine ⟨.ref p, rfl, .int (k : Int), rfl, p, _, _, .ref (qa k), rfl, rfl, .inl (.inl e1), at_of rfl (range_get qa hk), ?_⟩
      refine ⟨.int (h : Int), rfl, (h : Int), 1, rfl, rfl, qa k, _, _, .int ((W T k (h - 1) : Nat) : Int), rfl, rfl, .inl (.inl (e2 k hk)), at_of (j := h - 1) (by omega) ?_, ?_⟩
      · rw [List.getElem?_map, rowW_get (by omega)]
        rfl
      · unfold dn at q
        rw [if_neg (by omega)] at q
        exact q
    · have e0 : h = 0 := by
        have : ¬ (0 : Int) < (h : Int) := fun z => e (decide_eq_true z)
        omega
      unfold dn at q
      rw [if_pos e0] at q
      exact q
def spCount : Sp := fun vs H Q _ => ∃ (p : Addr) (n T : Nat), vs = [.ref p] ∧ Tbl H p n T ∧ Q (.int ((W T n 0 : Nat) : Int)) H
theorem cal_count (D : Def K mg "row_count" sCount ["table"]) : Cal K mg CX0 P w base 1 "row_count" [] spCount := by
  refine D.cal scCount (fun vs H Q E h => ?_) (fun f cdv A outer s H vs Q E hr h => ?_)
  · obtain ⟨p, n, T, rfl, _⟩ := h
    rfl
  · obtain ⟨p, n, T, rfl, ⟨qa, e1, e2⟩, q⟩ := h
    refine ⟨_, pss_one (ps_ret (pe_ix ix_list (pe_ix ix_list (pv 0) (pe_un un_neg pe_int) (fun _ _ => rfl)) pe_int (fun _ _ => rfl))), ?_⟩
    have eL : ((List.range (n + 1)).map fun k => V.ref (qa k)) = ((List.range n).map fun k => V.ref (qa k)) ++ [V.ref (qa n)] := by
      rw [List.range_succ, List.map_append]
      rfl
    refine ⟨.ref p, rfl, 1, rfl, p, _, -1, .ref (qa n), rfl, rfl, .inl (.inl e1), by rw [eL]; exact atI_last _ _, ?_⟩
    refine ⟨qa n, _, 0, .int ((W T n 0 : Nat) : Int), rfl, rfl, .inl (.inl (e2 n (Nat.le_refl _))), at_of (j := 0) rfl ?_, q⟩
    rw [List.getElem?_map, rowW_get (Nat.zero_le _)]
    rfl
def spNumOf : Sp := fun vs H Q _ => ∃ (l : List Bool) (p : Addr) (T : Nat), vs = [.str (txt l), .ref p] ∧ Tbl H p l.length T ∧ okb (some T) 0 l = true ∧ l.length ≤ 1000 ∧ Q (.int ((rankOf T 0 l : Nat) : Int)) H
theorem cal_numOf (D : Def K mg "number_of" sNumOf ["row", "table"]) (C : Cal K mg CX0 P w base 1 "ways_down" [] spDown) (mlen : mg "len" = none) {t1 : Tok} (gU : mg "UP" = some (.str "u" t1)) : Cal K mg CX0 P w base 2 "number_of" [] spNumOf := by
  refine D.cal scNumOf (fun vs H Q E h => ?_) (fun f cdv A outer s H vs Q E hr h => ?_)
  · obtain ⟨l, p, T, rfl, _⟩ := h
    rfl
  · obtain ⟨l, p, T, rfl, tb, ok, hl, q⟩ := h
    have nd := scNumOf.nd
    refine ⟨_, pss_cons (ps_set (i := 2) nd rfl (.inl rfl) pe_int) (pss_cons (ps_set (i := 3) nd rfl (.inl rfl) pe_int)
      (pss_cons (ps_set (i := 4) nd rfl (.inl rfl) (pe_callB call_len_str (by rfl) mlen PySem.boot_len (pa_cons (pv 0) pa_nil)))
      (pss_cons (ps_for PassesOwn.never rfl (pi_str (pv 0)) (pg_name (i := 5) nd rfl (.inl rfl))
        (pss_cons (ps_aug (i := 4) nd rfl (.inl rfl) pe_int ip_sub)
        (pss_one (ps_if (pt_cmpR op_eq (pv 5) (pe_glob (v := .str "u") (by rfl) gU ⟨_, rfl⟩) (nomark _))
          (pss_cons (ps_aug (i := 2) nd rfl (.inl rfl) (pe_c C hr (pa_cons (pv 1) (pa_cons (pv 3) (pa_cons (pv 4) pa_nil)))) ip_add)
            (pss_one (ps_aug (i := 3) nd rfl (.inl rfl) pe_int ip_add)))
          (pss_one (ps_aug (i := 3) nd rfl (.inl rfl) pe_int ip_sub))))))
      (pss_one (ps_ret (pv 2)))))), ?_⟩
    refine ⟨.str (txt l), rfl, txt l, rfl, sz (by rw [txt_len]; omega), ?_⟩
    refine ⟨.str (txt l), rfl, txt l, rfl, ?_⟩
    refine for_it walk_str (fun i σ H' => ∃ (ri hi li : Int) (r h : Nat) (y : Option V), σ = [some (.str (txt l)), some (.ref p), some (.int ri), some (.int hi), some (.int li), y] ∧ H' = H ∧
      r + rankOf T h (l.drop i) = rankOf T 0 l ∧ okb (some T) h (l.drop i) = true ∧ h ≤ T ∧ ri = (r : Int) ∧ hi = (h : Int) ∧ li = ((l.drop i).length : Int)) ?_ (fun _ _ _ _ _ => trivial) ?_ ?_
    · refine ⟨_, _, _, 0, 0, none, rfl, rfl, Nat.zero_add _, ok, Nat.zero_le _, rfl, rfl, ?_⟩
      rw [txt_len]
      rfl
    · rintro i x σ H2 H3 hi ⟨ri, hh, li, r, h, y, rfl, rfl, e1, e2, hT, er, eh, el⟩ ⟨rfl, c, hc, rfl⟩
      rw [txt_at] at hc
      obtain ⟨b, hb, rfl⟩ := Option.map_eq_some_iff.mp hc
      have hil : i < l.length := (List.getElem?_eq_some_iff.mp hb).1
      have ed : l.drop i = b :: l.drop (i + 1) := by
        rw [List.drop_eq_getElem_cons hil]
        congr 1
        exact (List.getElem?_eq_some_iff.mp hb).2
      rw [ed] at e1 e2 el
      rw [List.length_cons] at el
      refine ⟨_, rfl, _, 1, rfl, rfl, ?_⟩
      refine ⟨_, rfl, rfl, decide (code b = 117), congrArg V.bl (is_u _), ?_⟩
      rw [code_u]
      have hlen : (l.drop (i + 1)).length ≤ l.length := by rw [List.length_drop]; omega
      cases b with
      | true =>
        obtain ⟨a1, a2⟩ := okb_up e2
        have a1 : h < T := of_decide_eq_true a1
        refine iteT ?_
        refine ⟨_, rfl, .ref p, rfl, _, rfl, _, rfl, p, l.length, T, h, (l.drop (i + 1)).length, args_pik eh (by show li - 1 = _; omega), tb, hlen, by omega, _, _, rfl, rfl, _, rfl, _, 1, rfl, rfl, _, _, _, r + dn T (l.drop (i + 1)).length h, h + 1, _, rfl, rfl, ?_, a2, a1, ?_, ?_, ?_⟩
        · rw [← e1]
          show _ = r + (dn T (l.drop (i + 1)).length h + rankOf T (h + 1) (l.drop (i + 1)))
          omega
        · show ri + ((dn T (l.drop (i + 1)).length h : Nat) : Int) = _
          omega
        · show hh + 1 = _
          omega
        · show li - 1 = _
          omega
      | false =>
        obtain ⟨a1, a2⟩ := okb_down e2
        refine iteF ?_
        refine ⟨_, rfl, _, 1, rfl, rfl, _, _, _, r, h - 1, _, rfl, rfl, e1, a2, by omega, er, ?_, ?_⟩
        · show hh - 1 = _
          omega
        · show li - 1 = _
          omega
    · rintro σ H2 ⟨ri, hh, li, r, h, y, rfl, rfl, e1, e2, hT, er, eh, el⟩
      refine ⟨_, rfl, ?_⟩
      have e : l.drop (txt l).cps.size = [] := List.drop_eq_nil_of_le (by rw [txt_size]; exact Nat.le_refl _)
      rw [e] at e1
      have e1 : r = rankOf T 0 l := e1
      rw [er, e1]
      exact q
def spOfNum : Sp := fun vs H Q _ => ∃ (r n T : Nat) (p : Addr), vs = [.int (r : Int), .ref p] ∧ Tbl H p n T ∧ r < W T n 0 ∧ n ≤ 1000 ∧ ∀ H', Same H H' → Q (.str (txt (unrank T n 0 r))) H'
theorem cal_ofNum (D : Def K mg "row_of_number" sOfNum ["r", "table"]) (C : Cal K mg CX0 P w base 1 "ways_down" [] spDown) (mlen : mg "len" = none) (mrange : mg "range" = none) (mrev : mg "reversed" = none) {t1 t2 : Tok} (gU : mg "UP" = some (.str "u" t1)) (gD : mg "DOWN" = some (.str "d" t2)) :
    Cal K mg CX0 P w base 2 "row_of_number" [] spOfNum := by
  refine D.cal scOfNum (fun vs H Q E h => ?_) (fun f cdv A outer s H vs Q E hr h => ?_)
  · obtain ⟨r, n, T, p, rfl, _⟩ := h
    rfl
  · obtain ⟨r, n, T, p, rfl, tb, hr0, hn, q⟩ := h
    have nd := scOfNum.nd
    refine ⟨_, pss_cons (ps_set (i := 2) nd rfl (.inl rfl) (pe_lst pa_nil)) (pss_cons (ps_set (i := 3) nd rfl (.inl rfl) pe_int) (pss_cons (ps_set (i := 4) nd rfl (.inl rfl) (pv 0))
      (pss_cons (ps_for PassesOwn.never rfl (pi_revR (by rfl) mrev (prg_1 (by rfl) mrange (pe_op op_sub (pe_callB call_len_seq (by rfl) mlen PySem.boot_len (pa_cons (pv 1) pa_nil)) pe_int))) (pg_name (i := 5) nd rfl (.inl rfl))
        (pss_cons (ps_set (i := 6) nd rfl (.inl rfl) (pe_c C hr (pa_cons (pv 1) (pa_cons (pv 3) (pa_cons (pv 5) pa_nil)))))
        (pss_one (ps_if (pt_cmpR op_lt (pv 4) (pv 6) (nomark _))
          (pss_cons (ps_expr (pe_bm PySem.F.plainAttrs_list PySem.F.slot_list_append PySem.F.type_list_append mt_append (pv 2) (pa_cons (pe_glob (v := .str "d") (by rfl) gD ⟨_, rfl⟩) pa_nil)))
            (pss_one (ps_aug (i := 3) nd rfl (.inl rfl) pe_int ip_sub)))
          (pss_cons (ps_aug (i := 4) nd rfl (.inl rfl) (pv 6) ip_sub)
            (pss_cons (ps_expr (pe_bm PySem.F.plainAttrs_list PySem.F.slot_list_append PySem.F.type_list_append mt_append (pv 2) (pa_cons (pe_glob (v := .str "u") (by rfl) gU ⟨_, rfl⟩) pa_nil)))
            (pss_one (ps_aug (i := 3) nd rfl (.inl rfl) pe_int ip_add))))))))
      (pss_one (ps_ret (pe_join pe_str (pv 2))))))), ?_⟩
    refine ⟨Nat.zero_le _, fun o no => ?_⟩
    have s1 := same_upd (o := .lst []) no
    refine ⟨_, rfl, ?_⟩
    have tb1 := tb.same s1
    obtain ⟨qa, e1, e2⟩ := tb1
    have hlen : ((List.range (n + 1)).map fun k => V.ref (qa k)).length = n + 1 := by rw [List.length_map, List.length_range]
    refine ⟨.ref p, rfl, p, _, rfl, .inl (.inl (.inl e1)), _, 1, rfl, rfl, _, rfl, ?_⟩
    rw [hlen]
    have e0 : ((((n + 1 : Nat) : Int) - 1 - 0).toNat) = n := by omega
    refine ⟨by decide, by decide, by omega, by omega, ?_⟩
    rw [e0]
    refine for_it walk_rangeC (fun i σ H' => ∃ (hh ai : Int) (pre : List Bool) (h a : Nat) (y5 y6 : Option V), σ = [some (.int (r : Int)), some (.ref p), some (.ref o), some (.int hh), some (.int ai), y5, y6] ∧ Same H H' ∧
      H' o = some (.lst (pre.map fun b => V.str (sgn b))) ∧ pre.length = i ∧ pre ++ unrank T (n - i) h a = unrank T n 0 r ∧ a < W T (n - i) h ∧ h ≤ T ∧ hh = (h : Int) ∧ ai = (a : Int)) ?_ (fun _ _ _ _ _ => trivial) ?_ ?_
    · exact ⟨0, _, [], 0, r, none, none, rfl, s1, upd_same, rfl, rfl, hr0, Nat.zero_le _, rfl, rfl⟩
    · rintro i x σ H2 H3 hi ⟨hh, ai, pre, h, a, y5, y6, rfl, sm, eo, el, eu, ha, hT, eh, ea⟩ ⟨rfl, rfl⟩
      have en : n - i = (n - (i + 1)) + 1 := by omega
      rw [en] at eu ha
      rw [unrank_succ] at eu
      rw [W_succ] at ha
      have hpl : (pre.map fun b => V.str (sgn b)).length < sizeLine := szl (by rw [List.length_map]; omega)
      refine ⟨.ref p, rfl, .int hh, rfl, _, rfl, p, n, T, h, n - (i + 1), args_pik eh (by omega), tb.same sm, by omega, by omega, ?_⟩
      refine ⟨.int ai, rfl, _, rfl, _, _, rfl, rfl, _, rfl, ite2 (fun e => ?_) (fun e => ?_)⟩
      · have e0 : a < dn T (n - (i + 1)) h := by
          have := of_decide_eq_true e
          omega
        have h0 : h ≠ 0 := fun z => by
          unfold dn at e0
          rw [if_pos z] at e0
          omega
        rw [if_pos e0] at eu
        have ha' : a < W T (n - (i + 1)) (h - 1) := by
          unfold dn at e0
          rw [if_neg h0] at e0
          exact e0
        refine ⟨.ref o, rfl, .inl ⟨rfl, _, .inl (.inl eo)⟩, o, _, _, rfl, rfl, eo, hpl, ?_⟩
        refine ⟨_, rfl, _, 1, rfl, rfl, _, _, pre ++ [false], h - 1, a, _, _, rfl, same_updN sm no, ?_, ?_, ?_, ha', by omega, ?_, ea⟩
        · rw [upd_same, List.map_append, ← sgn_d]
          rfl
        · rw [List.length_append, el]
          rfl
        · rw [List.append_assoc]
          exact eu
        · show hh - 1 = _
          omega
      · have e0 : ¬ a < dn T (n - (i + 1)) h := fun z => e (decide_eq_true (by omega))
        rw [if_neg e0] at eu
        have hT' : h < T := by
          by_cases z : h < T
          · exact z
          · rw [if_neg z] at ha
            omega
        rw [if_pos hT'] at ha
        refine ⟨_, rfl, _, rfl, _, _, rfl, rfl, ?_⟩
        refine ⟨.ref o, rfl, .inl ⟨rfl, _, .inl (.inl eo)⟩, o, _, _, rfl, rfl, eo, hpl, ?_⟩
        refine ⟨_, rfl, _, 1, rfl, rfl, _, _, pre ++ [true], h + 1, a - dn T (n - (i + 1)) h, _, _, rfl, same_updN sm no, ?_, ?_, ?_, by omega, by omega, ?_, ?_⟩
        · rw [upd_same, List.map_append, ← sgn_u]
          rfl
        · rw [List.length_append, el]
          rfl
        · rw [List.append_assoc]
          exact eu
        · show hh + 1 = _
          omega
        · show ai - ((dn T (n - (i + 1)) h : Nat) : Int) = _
          omega
    · rintro σ H2 ⟨hh, ai, pre, h, a, y5, y6, rfl, sm, eo, el, eu, ha, hT, eh, ea⟩
      rw [Nat.sub_self] at eu
      have eu : pre = unrank T n 0 r := by
        rw [← eu]
        show pre = pre ++ []
        rw [List.append_nil]
      have em : (pre.map fun b => V.str (sgn b)) = (pre.map sgn).map V.str := by rw [List.map_map]; rfl
      rw [em] at eo
      refine ⟨⟨_, rfl⟩, .ref o, rfl, _, o, pre.map sgn, rfl, rfl, .inl (.inl (.inl eo)), ?_, ?_⟩
      · have := sgn_sum pre
        rw [this]
        show pre.length + _ * 0 ≤ 16777216
        omega
      · rw [join_signs, eu]
        exact q H2 sm
end
end Hr
namespace Hr
open PySem PySem.Spec PyProof.Rows L2
/-- a row's rank, how many there are, the row of a rank: of n ups under the ceiling c -/
def rk (c : Option Nat) (n : Nat) (l : List Bool) : Nat := rankOf (low n c) 0 l
def cntc (c : Option Nat) (n : Nat) : Nat := W (low n c) (2 * n) 0
def rowOf (c : Option Nat) (n r : Nat) : List Bool := unrank (low n c) (2 * n) 0 r
/-- a hill row of n ups under the ceiling c -/
def Hill (c : Option Nat) (n : Nat) (l : List Bool) : Prop := okb c 0 l = true ∧ l.length = 2 * n
theorem Hill.low {c : Option Nat} {n : Nat} {l : List Bool} (h : Hill c n l) : okb (some (low n c)) 0 l = true := okb_low (by rw [h.2]; omega) h.1
theorem Hill.rk_lt {c : Option Nat} {n : Nat} {l : List Bool} (h : Hill c n l) : rk c n l < cntc c n := by
  have := rank_lt h.low
  rw [h.2] at this
  exact this
theorem Hill.back {c : Option Nat} {n : Nat} {l : List Bool} (h : Hill c n l) : rowOf c n (rk c n l) = l := by
  have := unrank_rank h.low
  rw [h.2] at this
  exact this
theorem rowOf_hill {c : Option Nat} {n r : Nat} (h : r < cntc c n) : Hill c n (rowOf c n r) := by
  obtain ⟨a, b, _⟩ := unrank_ok h
  exact ⟨okb_up_of a, b⟩
theorem rowOf_rk {c : Option Nat} {n r : Nat} (h : r < cntc c n) : rk c n (rowOf c n r) = r := (unrank_ok h).2.2
theorem rowOf_len {c : Option Nat} {n r : Nat} (h : r < cntc c n) : (rowOf c n r).length = 2 * n := (rowOf_hill h).2
def nextV (c : Option Nat) (n : Nat) (l : List Bool) : V := if rk c n l + 1 < cntc c n then .str (txt (rowOf c n (rk c n l + 1))) else .non
def aheadV (c : Option Nat) (n : Nat) (l : List Bool) : V := if 0 < rk c n l then .str (txt (rowOf c n (rk c n l - 1))) else .non
section
variable {P : Program} {w : World} {K : PySem.W.Frag} {mg : Str → Option Value} {base : Heap}
def spChHill : Sp := fun vs H Q _ => ∃ (l : List Bool) (c : Option Nat), vs = [.str (txt l), cV c] ∧ okb c 0 l = true ∧ l.length ≤ 1000 ∧ ∀ H', Same H H' → Q .non H'
theorem cal_chHill (D : DefD K mg "check_hill" sChHill ["row", "ceiling"]) (C : Cal K mg CX0 P w base 3 "is_hill" [] spIsHill) : Cal K mg CX0 P w base 4 "check_hill" [] spChHill ∧ Cal K mg CX0 P w base 4 "check_hill" [.non] spChHill := by
  refine D.ok scChHill (fun vs H Q E h => ?_) (fun f cdv A outer s H vs Q E hr h => ?_)
  · obtain ⟨l, c, rfl, _⟩ := h
    rfl
  · obtain ⟨l, c, rfl, ok, hl, q⟩ := h
    refine ⟨_, pss_one (ps_if (pt_not (pt_val (pe_c C hr (pa_cons (pv 0) (pa_cons (pv 1) pa_nil))))) pss_never pss_nil), ?_⟩
    refine ⟨.str (txt l), rfl, cV c, rfl, txt l, c, rfl, by rw [txt_len]; exact hl, fun H' sm => ⟨true, ?_, iteF (q H' sm)⟩⟩
    rw [hillB_txt, ok]
theorem half_len (n : Nat) {z : Str} (h : z.length = 2 * n) : (z.length : Int) / 2 = (n : Int) := by
  rw [h]
  omega
def spRank : Sp := fun vs H Q _ => ∃ (l : List Bool) (c : Option Nat) (n : Nat), vs = [.str (txt l), cV c] ∧ cOk 200 c ∧ Hill c n l ∧ n ≤ 200 ∧ ∀ H', Same H H' → Q (.int ((rk c n l : Nat) : Int)) H'
theorem args_ic {x : Int} {c : Option Nat} {n : Nat} (h : x = (n : Int)) : [V.int x, cV c] = [V.int (n : Int), cV c] := by rw [h]
theorem cal_rank (D : DefD K mg "rank" sRank ["row", "ceiling"]) (C1 : Cal K mg CX0 P w base 3 "check_ceiling" [] spChCei) (C2 : Cal K mg CX0 P w base 4 "check_hill" [] spChHill) (C3 : Cal K mg CX0 P w base 3 "hill_table" [] spHill) (C4 : Cal K mg CX0 P w base 2 "number_of" [] spNumOf) (mlen : mg "len" = none) :
    Cal K mg CX0 P w base 5 "rank" [] spRank ∧ Cal K mg CX0 P w base 5 "rank" [.non] spRank := by
  refine D.ok scRank (fun vs H Q E h => ?_) (fun f cdv A outer s H vs Q E hr h => ?_)
  · obtain ⟨l, c, n, rfl, _⟩ := h
    rfl
  · obtain ⟨l, c, n, rfl, hc, hh, hn, q⟩ := h
    refine ⟨_, pss_cons (ps_expr (pe_c C1 hr (pa_cons (pv 1) pa_nil))) (pss_cons (ps_expr (pe_c C2 hr (pa_cons (pv 0) (pa_cons (pv 1) pa_nil))))
      (pss_one (ps_ret (pe_c C4 hr (pa_cons (pv 0) (pa_cons (pe_c C3 hr (pa_cons (pe_op op_fdiv (pe_callB call_len_str (by rfl) mlen PySem.boot_len (pa_cons (pv 0) pa_nil)) pe_int) (pa_cons (pv 1) pa_nil))) pa_nil)))))), ?_⟩
    have hz : (txt l).length = 2 * n := by rw [txt_len, hh.2]
    refine ⟨cV c, rfl, c, rfl, hc, ?_⟩
    refine ⟨.str (txt l), rfl, cV c, rfl, l, c, rfl, hh.1, by rw [hh.2]; omega, fun H1 s1 => ?_⟩
    refine ⟨.str (txt l), rfl, .str (txt l), rfl, txt l, rfl, sz (by rw [hz]; omega), _, 2, rfl, rfl, ⟨by decide, by decide⟩, cV c, rfl, n, c, args_ic (half_len n hz), by omega, fun H2 p s2 np tb => ?_⟩
    rw [← hh.2] at tb
    exact ⟨l, p, low n c, rfl, tb, hh.low, by rw [hh.2]; omega, q H2 (s1.trans s2)⟩
def spRowAt : Sp := fun vs H Q _ => ∃ (n r : Nat) (c : Option Nat), vs = [.int (n : Int), .int (r : Int), cV c] ∧ n ≤ 200 ∧ cOk 200 c ∧ r < cntc c n ∧ ∀ H', Same H H' → Q (.str (txt (rowOf c n r))) H'
theorem cal_rowAt (D : DefD K mg "row_at" sRowAt ["n", "r", "ceiling"]) (C0 : Cal K mg CX0 P w base 2 "check_number" [.int 0] spChNum) (C1 : Cal K mg CX0 P w base 3 "check_ceiling" [] spChCei) (C2 : Cal K mg CX0 P w base 1 "is_number" [.int 0] spIsNum) (C3 : Cal K mg CX0 P w base 3 "hill_table" [] spHill)
    (C4 : Cal K mg CX0 P w base 2 "row_of_number" [] spOfNum) (C5 : Cal K mg CX0 P w base 1 "row_count" [] spCount) {t1 : Tok} (gM : mg "MOST_UPS" = some (.int 200 t1)) :
    Cal K mg CX0 P w base 4 "row_at" [] spRowAt ∧ Cal K mg CX0 P w base 4 "row_at" [.non] spRowAt := by
  refine D.ok scRowAt (fun vs H Q E h => ?_) (fun f cdv A outer s H vs Q E hr h => ?_)
  · obtain ⟨l, c, n, rfl, _⟩ := h
    rfl
  · obtain ⟨n, r, c, rfl, hn, hc, hrr, q⟩ := h
    have nd := scRowAt.nd
    refine ⟨_, pss_cons (ps_expr (pe_c C0 hr (pa_cons (pv 0) (pa_cons (pe_glob (v := .int 200) (by rfl) gM ⟨_, rfl⟩) pa_nil)))) (pss_cons (ps_expr (pe_c C1 hr (pa_cons (pv 2) pa_nil)))
      (pss_cons (ps_set (i := 3) nd rfl (.inl rfl) (pe_c C3 hr (pa_cons (pv 0) (pa_cons (pv 2) pa_nil))))
      (pss_cons (ps_if (pt_not (pt_val (pe_c C2 hr (pa_cons (pv 1) (pa_cons (pe_op op_sub (pe_c C5 hr (pa_cons (pv 3) pa_nil)) pe_int) pa_nil))))) pss_never pss_nil)
      (pss_one (ps_ret (pe_c C4 hr (pa_cons (pv 1) (pa_cons (pv 3) pa_nil)))))))), ?_⟩
    refine ⟨.int (n : Int), rfl, (n : Int), 200, rfl, by omega, by omega, ?_⟩
    refine ⟨cV c, rfl, c, rfl, hc, ?_⟩
    refine ⟨.int (n : Int), rfl, cV c, rfl, n, c, rfl, by omega, fun H1 p s1 np tb => ?_⟩
    refine ⟨.int (r : Int), rfl, .ref p, rfl, p, 2 * n, low n c, rfl, tb, _, 1, rfl, rfl, _, _, rfl, true, ?_, iteF ?_⟩
    · have : r < W (low n c) (2 * n) 0 := hrr
      exact congrArg V.bl (decide_eq_true ⟨by omega, by show (r : Int) ≤ ((W (low n c) (2 * n) 0 : Nat) : Int) - 1; omega⟩)
    · exact ⟨.int (r : Int), rfl, .ref p, rfl, r, 2 * n, low n c, p, rfl, tb, hrr, by omega, fun H2 s2 => q H2 (s1.trans s2)⟩
def spSignAt : Sp := fun vs H Q _ => ∃ (n r k : Nat) (c : Option Nat) (b : Bool), vs = [.int (n : Int), .int (r : Int), .int (k : Int), cV c] ∧ n ≤ 200 ∧ cOk 200 c ∧ r < cntc c n ∧ (rowOf c n r)[k]? = some b ∧ ∀ H', Same H H' → Q (.str (sgn b)) H'
theorem cal_signAt (D : DefD K mg "sign_at" sSignAt ["n", "r", "place", "ceiling"]) (C1 : Cal K mg CX0 P w base 4 "row_at" [] spRowAt) (C2 : Cal K mg CX0 P w base 1 "is_number" [.int 0] spIsNum) (mlen : mg "len" = none) :
    Cal K mg CX0 P w base 5 "sign_at" [] spSignAt ∧ Cal K mg CX0 P w base 5 "sign_at" [.non] spSignAt := by
  refine D.ok scSignAt (fun vs H Q E h => ?_) (fun f cdv A outer s H vs Q E hr h => ?_)
  · obtain ⟨n, r, k, c, b, rfl, _⟩ := h
    rfl
  · obtain ⟨n, r, k, c, b, rfl, hn, hc, hrr, hb, q⟩ := h
    have nd := scSignAt.nd
    refine ⟨_, pss_cons (ps_set (i := 4) nd rfl (.inl rfl) (pe_c C1 hr (pa_cons (pv 0) (pa_cons (pv 1) (pa_cons (pv 3) pa_nil)))))
      (pss_cons (ps_if (pt_not (pt_val (pe_c C2 hr (pa_cons (pv 2) (pa_cons (pe_op op_sub (pe_callB call_len_str (by rfl) mlen PySem.boot_len (pa_cons (pv 4) pa_nil)) pe_int) pa_nil))))) pss_never pss_nil)
      (pss_one (ps_ret (pe_ix ix_str (pv 4) (pv 2) (fun _ _ => rfl))))), ?_⟩
    refine ⟨.int (n : Int), rfl, .int (r : Int), rfl, cV c, rfl, n, r, c, rfl, hn, hc, hrr, fun H1 s1 => ?_⟩
    have hlen := rowOf_len hrr
    have hz : (txt (rowOf c n r)).length ≤ sizeLine := sz (by rw [txt_len, hlen]; omega)
    have hk : k < 2 * n := by
      rw [← hlen]
      exact (List.getElem?_eq_some_iff.mp hb).1
    refine ⟨.int (k : Int), rfl, _, rfl, _, rfl, hz, _, 1, rfl, rfl, _, _, rfl, true, ?_, iteF ?_⟩
    · refine congrArg V.bl (decide_eq_true ⟨by omega, ?_⟩)
      show (k : Int) ≤ ((txt (rowOf c n r)).length : Int) - 1
      rw [txt_len, hlen]
      omega
    · refine ⟨_, rfl, .int (k : Int), rfl, _, _, code b, rfl, rfl, hz, atI_nat ?_, q H1 s1⟩
      show ((rowOf c n r).map code)[k]? = _
      rw [List.getElem?_map, hb]
      rfl
def besideV (c : Option Nat) (n : Nat) (x : Int) : V := if 0 ≤ x ∧ x < ((cntc c n : Nat) : Int) then .str (txt (rowOf c n x.toNat)) else .non
def spBeside : Sp := fun vs H Q _ => ∃ (l : List Bool) (c : Option Nat) (n : Nat) (st : Int), vs = [.str (txt l), cV c, .int st] ∧ cOk 200 c ∧ Hill c n l ∧ n ≤ 200 ∧ ∀ H', Same H H' → Q (besideV c n (((rk c n l : Nat) : Int) + st)) H'
theorem cal_beside (D : Def K mg "row_beside" sBeside ["row", "ceiling", "step"]) (C1 : Cal K mg CX0 P w base 3 "check_ceiling" [] spChCei) (C2 : Cal K mg CX0 P w base 4 "check_hill" [] spChHill) (C3 : Cal K mg CX0 P w base 3 "hill_table" [] spHill) (C4 : Cal K mg CX0 P w base 2 "number_of" [] spNumOf)
    (C5 : Cal K mg CX0 P w base 1 "is_number" [.int 0] spIsNum) (C6 : Cal K mg CX0 P w base 2 "row_of_number" [] spOfNum) (C7 : Cal K mg CX0 P w base 1 "row_count" [] spCount) (mlen : mg "len" = none) : Cal K mg CX0 P w base 5 "row_beside" [] spBeside := by
  refine D.cal scBeside (fun vs H Q E h => ?_) (fun f cdv A outer s H vs Q E hr h => ?_)
  · obtain ⟨l, c, n, st, rfl, _⟩ := h
    rfl
  · obtain ⟨l, c, n, st, rfl, hc, hh, hn, q⟩ := h
    have nd := scBeside.nd
    refine ⟨_, pss_cons (ps_expr (pe_c C1 hr (pa_cons (pv 1) pa_nil))) (pss_cons (ps_expr (pe_c C2 hr (pa_cons (pv 0) (pa_cons (pv 1) pa_nil))))
      (pss_cons (ps_set (i := 3) nd rfl (.inl rfl) (pe_c C3 hr (pa_cons (pe_op op_fdiv (pe_callB call_len_str (by rfl) mlen PySem.boot_len (pa_cons (pv 0) pa_nil)) pe_int) (pa_cons (pv 1) pa_nil))))
      (pss_cons (ps_set (i := 4) nd rfl (.inl rfl) (pe_op op_add (pe_c C4 hr (pa_cons (pv 0) (pa_cons (pv 3) pa_nil))) (pv 2)))
      (pss_cons (ps_if (pt_not (pt_val (pe_c C5 hr (pa_cons (pv 4) (pa_cons (pe_op op_sub (pe_c C7 hr (pa_cons (pv 3) pa_nil)) pe_int) pa_nil))))) (pss_one (ps_ret pe_non)) pss_nil)
      (pss_one (ps_ret (pe_c C6 hr (pa_cons (pv 4) (pa_cons (pv 3) pa_nil))))))))), ?_⟩
    have hz : (txt l).length = 2 * n := by rw [txt_len, hh.2]
    refine ⟨cV c, rfl, c, rfl, hc, ?_⟩
    refine ⟨.str (txt l), rfl, cV c, rfl, l, c, rfl, hh.1, by rw [hh.2]; omega, fun H1 s1 => ?_⟩
    refine ⟨.str (txt l), rfl, txt l, rfl, sz (by rw [hz]; omega), _, 2, rfl, rfl, ⟨by decide, by decide⟩, cV c, rfl, n, c, args_ic (half_len n hz), by omega, fun H2 p s2 np tb => ?_⟩
    have tb' := tb
    rw [← hh.2] at tb'
    refine ⟨.str (txt l), rfl, .ref p, rfl, l, p, low n c, rfl, tb', hh.low, by rw [hh.2]; omega, .int st, rfl, _, st, rfl, rfl, ?_⟩
    have sm := s1.trans s2
    refine ⟨_, rfl, .ref p, rfl, p, 2 * n, low n c, rfl, tb, _, 1, rfl, rfl, _, _, rfl, _, rfl, ?_⟩
    have qq := q
    unfold besideV at qq
    by_cases hb : 0 ≤ ((rk c n l : Nat) : Int) + st ∧ ((rk c n l : Nat) : Int) + st < ((cntc c n : Nat) : Int)
    · rw [show decide (0 ≤ ((rankOf (low n c) 0 l : Nat) : Int) + st ∧ ((rankOf (low n c) 0 l : Nat) : Int) + st ≤ ((W (low n c) (2 * n) 0 : Nat) : Int) - 1) = true from decide_eq_true ⟨hb.1, by have := hb.2; unfold rk cntc at this; omega⟩]
      refine iteF ?_
      have hx : ((((rk c n l : Nat) : Int) + st).toNat : Int) = ((rk c n l : Nat) : Int) + st := Int.toNat_of_nonneg hb.1
      refine ⟨_, rfl, .ref p, rfl, (((rk c n l : Nat) : Int) + st).toNat, 2 * n, low n c, p, ?_, tb, ?_, by omega, fun H3 s3 => ?_⟩
      · rw [hx]
        rfl
      · have := hb.2
        show (((rk c n l : Nat) : Int) + st).toNat < cntc c n
        omega
      · have := qq H3 (sm.trans s3)
        rw [if_pos hb] at this
        exact this
    · rw [show decide (0 ≤ ((rankOf (low n c) 0 l : Nat) : Int) + st ∧ ((rankOf (low n c) 0 l : Nat) : Int) + st ≤ ((W (low n c) (2 * n) 0 : Nat) : Int) - 1) = false from decide_eq_false fun z => hb ⟨z.1, by have := z.2; unfold rk cntc; omega⟩]
      refine iteT ?_
      have := qq H2 sm
      rw [if_neg hb] at this
      exact this
def spNext : Sp := fun vs H Q _ => ∃ (l : List Bool) (c : Option Nat) (n : Nat), vs = [.str (txt l), cV c] ∧ cOk 200 c ∧ Hill c n l ∧ n ≤ 200 ∧ ∀ H', Same H H' → Q (nextV c n l) H'
theorem cal_next (D : DefD K mg "next_row" sNext ["row", "ceiling"]) (C : Cal K mg CX0 P w base 5 "row_beside" [] spBeside) : Cal K mg CX0 P w base 6 "next_row" [] spNext ∧ Cal K mg CX0 P w base 6 "next_row" [.non] spNext := by
  refine D.ok scNext (fun vs H Q E h => ?_) (fun f cdv A outer s H vs Q E hr h => ?_)
  · obtain ⟨l, c, n, rfl, _⟩ := h
    rfl
  · obtain ⟨l, c, n, rfl, hc, hh, hn, q⟩ := h
    refine ⟨_, pss_one (ps_ret (pe_c C hr (pa_cons (pv 0) (pa_cons (pv 1) (pa_cons pe_int pa_nil))))), ?_⟩
    refine ⟨.str (txt l), rfl, cV c, rfl, l, c, n, 1, rfl, hc, hh, hn, fun H1 s1 => ?_⟩
    have e : besideV c n (((rk c n l : Nat) : Int) + 1) = nextV c n l := by
      unfold besideV nextV
      by_cases hb : rk c n l + 1 < cntc c n
      · rw [if_pos hb, if_pos (by omega), show (((rk c n l : Nat) : Int) + 1).toNat = rk c n l + 1 by omega]
      · rw [if_neg hb, if_neg (by omega)]
    rw [e]
    exact q H1 s1
def spAhead : Sp := fun vs H Q _ => ∃ (l : List Bool) (c : Option Nat) (n : Nat), vs = [.str (txt l), cV c] ∧ cOk 200 c ∧ Hill c n l ∧ n ≤ 200 ∧ ∀ H', Same H H' → Q (aheadV c n l) H'
theorem cal_ahead (D : DefD K mg "ahead_row" sAhead ["row", "ceiling"]) (C : Cal K mg CX0 P w base 5 "row_beside" [] spBeside) : Cal K mg CX0 P w base 6 "ahead_row" [] spAhead ∧ Cal K mg CX0 P w base 6 "ahead_row" [.non] spAhead := by
  refine D.ok scAhead (fun vs H Q E h => ?_) (fun f cdv A outer s H vs Q E hr h => ?_)
  · obtain ⟨l, c, n, rfl, _⟩ := h
    rfl
  · obtain ⟨l, c, n, rfl, hc, hh, hn, q⟩ := h
    refine ⟨_, pss_one (ps_ret (pe_c C hr (pa_cons (pv 0) (pa_cons (pv 1) (pa_cons (pe_un un_neg pe_int) pa_nil))))), ?_⟩
    refine ⟨.str (txt l), rfl, cV c, rfl, 1, rfl, l, c, n, -1, rfl, hc, hh, hn, fun H1 s1 => ?_⟩
    have hlt := hh.rk_lt
    have e : besideV c n (((rk c n l : Nat) : Int) + -1) = aheadV c n l := by
      unfold besideV aheadV
      by_cases hb : 0 < rk c n l
      · rw [if_pos hb, if_pos (by omega), show (((rk c n l : Nat) : Int) + -1).toNat = rk c n l - 1 by omega]
      · rw [if_neg hb, if_neg (by omega)]
    rw [e]
    exact q H1 s1
end
end Hr
namespace Hr
open PySem PySem.Spec PyProof.Rows L2
theorem scNumber : FnScope ["_law_script", "_law_k"] ["_law_script", "_law_k"] (defScope sNumber) := ⟨rfl, rfl, rfl, by decide +kernel, rfl, by decide +kernel, by decide +kernel⟩
section
variable {P : Program} {w : World} {K : PySem.W.Frag} {mg : Str → Option Value} {base : Heap}
def spNumber (K : PySem.W.Frag) : Sp := fun vs H Q _ => ∃ (a : Addr) (ns : List Int) (k : Nat), vs = [.ref a, .int (k : Int)] ∧ SqL K H a (ns.map V.int) ∧ Q (.int (mixed (ns.getD k 0) k)) H
theorem cal_number (D : Def K mg "_law_number" sNumber ["_law_script", "_law_k"]) (C : Cal K mg CX0 P w base 1 "_law_mixed" [] spMixed) (mlen : mg "len" = none) : Cal K mg CX0 P w base 2 "_law_number" [] (spNumber K) := by
  refine D.cal scNumber (fun vs H Q E h => ?_) (fun f cdv A outer s H vs Q E hr h => ?_)
  · obtain ⟨a, ns, k, rfl, _⟩ := h
    rfl
  · obtain ⟨a, ns, k, rfl, hS, q⟩ := h
    refine ⟨_, pss_one (ps_ret (pe_c C hr (pa_cons (pe_ifExp (pt_cmpR op_lt (pv 1) (pe_callB call_len_seq (by rfl) mlen PySem.boot_len (pa_cons (pv 0) pa_nil)) (nomark _)) (pe_ix ix_list (pv 0) (pv 1) (fun _ _ => rfl)) pe_int) (pa_cons (pv 1) pa_nil)))), ?_⟩
    refine ⟨.int (k : Int), rfl, .ref a, rfl, a, _, rfl, .inl hS, _, _, rfl, rfl, _, rfl, ite2 (fun e => ?_) (fun e => ?_)⟩
    · have hk : k < ns.length := by
        have := of_decide_eq_true e
        rw [List.length_map] at this
        omega
      refine ⟨.ref a, rfl, .int (k : Int), rfl, a, _, _, .int (ns.getD k 0), rfl, rfl, hS, atI_nat ?_, .int (k : Int), rfl, _, _, rfl, q⟩
      rw [List.getElem?_map, List.getElem?_eq_getElem hk, List.getD_eq_getElem?_getD, List.getElem?_eq_getElem hk]
      rfl
    · have hk : ns.length ≤ k := by
        have : ¬ (k : Int) < ((ns.map V.int).length : Int) := fun z => e (decide_eq_true z)
        rw [List.length_map] at this
        omega
      refine ⟨.int (k : Int), rfl, 0, (k : Int), rfl, ?_⟩
      rw [List.getD_eq_getElem?_getD, List.getElem?_eq_none hk] at q
      exact q
end
end Hr
/-! ### all hill rows by growing beginnings -/
namespace Hr
open PySem PySem.Spec PyProof.Rows L2
theorem scAll : FnScope ["_law_n", "_law_ceiling", "_law_rows", "_law_k", "_law_more", "_law_row", "_law_height"] ["_law_n", "_law_ceiling"] (defScope sAll) := ⟨rfl, rfl, rfl, by decide +kernel, rfl, by decide +kernel, by decide +kernel⟩
abbrev tD (r : Str) : Str := r ++ ("d" : Str)
abbrev tU (r : Str) : Str := r ++ ("u" : Str)
/-- pairs of a text and a height, as they lie -/
def IsRw (H : Hp) (v : V) (p : Str × Nat) : Prop := ∃ q, v = V.ref q ∧ H q = some (.tup [.str p.1, .int (p.2 : Int)])
def Rws (H : Hp) (xs : List V) (l : List (Str × Nat)) : Prop := Paired (IsRw H) xs l
theorem Rws.mono {H H' : Hp} (h : ∀ q ts, H q = some (.tup ts) → H' q = some (.tup ts)) : ∀ {xs : List V} {l : List (Str × Nat)}, Rws H xs l → Rws H' xs l
  | _, _, .nil => .nil
  | _, _, .cons ⟨q, e, r⟩ t => .cons ⟨q, e, h _ _ r⟩ (Rws.mono h t)
theorem Rws.same {H H' : Hp} (s : Same H H') {xs : List V} {l : List (Str × Nat)} (r : Rws H xs l) : Rws H' xs l := r.mono fun q ts e => s _ _ e
theorem Rws.upd {H : Hp} {m : Addr} {acc : List V} {o : HO} {xs : List V} {l : List (Str × Nat)} (r : Rws H xs l) (e : H m = some (.lst acc)) : Rws (upd H m o) xs l := r.mono fun q ts z => by
  rw [upd_ne (ne_of z e (by intro q; cases q))]
  exact z
theorem Rws.snoc {H : Hp} {v : V} {p : Str × Nat} : ∀ {xs : List V} {l : List (Str × Nat)}, Rws H xs l → IsRw H v p → Rws H (xs ++ [v]) (l ++ [p])
  | _, _, .nil, h => .cons h .nil
  | _, _, .cons a t, h => .cons a (Rws.snoc t h)
theorem Rws.len {H : Hp} : ∀ {xs : List V} {l : List (Str × Nat)}, Rws H xs l → xs.length = l.length
  | _, _, .nil => rfl
  | _, _, .cons _ t => congrArg Nat.succ (Rws.len t)
theorem Rws.get {H : Hp} : ∀ {xs : List V} {l : List (Str × Nat)} {i : Nat} {v : V}, Rws H xs l → xs[i]? = some v → ∃ p, l[i]? = some p ∧ IsRw H v p
  | _, _, i, v, .nil, e => by simp at e
  | _, _, 0, v, .cons a t, e => by
    have e1 := Option.some.inj e
    subst e1
    exact ⟨_, rfl, a⟩
  | _, _, i + 1, v, .cons a t, e => Rws.get (i := i) t e
/-- the rows grown in k signs, each with its height -/
abbrev grw (c : Option Nat) (k : Nat) : List (Str × Nat) := grown tD tU c ("" : Str) k
theorem grw_len (c : Option Nat) : ∀ k, ∀ p ∈ grw c k, p.1.length = k
  | 0, p, h => by
    rw [List.mem_singleton.mp h]
    rfl
  | k + 1, p, h => by
    obtain ⟨r, hr, hp⟩ := List.mem_flatMap.mp (show p ∈ growAll tD tU c (grw c k) from h)
    have ih := grw_len c k r hr
    unfold grow1 at hp
    rcases List.mem_append.mp hp with hp | hp
    · split at hp
      · rw [List.mem_singleton.mp hp]
        show (r.1 ++ ("d" : Str)).length = _
        rw [PySem.Str.length_append, ih]
        rfl
      · cases hp
    · split at hp
      · rw [List.mem_singleton.mp hp]
        show (r.1 ++ ("u" : Str)).length = _
        rw [PySem.Str.length_append, ih]
        rfl
      · cases hp
theorem growAll_take {c : Option Nat} {l : List (Str × Nat)} {i : Nat} {p : Str × Nat} (h : l[i]? = some p) : growAll tD tU c (l.take (i + 1)) = growAll tD tU c (l.take i) ++ grow1 tD tU c p := by
  unfold growAll
  rw [List.take_add_one, h, List.flatMap_append]
  show _ ++ List.flatMap _ [p] = _
  rw [List.flatMap_singleton]
/-- the texts of those on the ground -/
def onGround (l : List (Str × Nat)) : List Str := (l.filter fun p => p.2 == 0).map (·.1)
theorem onGround_take {l : List (Str × Nat)} {i : Nat} {p : Str × Nat} (h : l[i]? = some p) : onGround (l.take (i + 1)) = onGround (l.take i) ++ (if p.2 = 0 then [p.1] else []) := by
  unfold onGround
  rw [List.take_add_one, h, List.filter_append, List.map_append]
  congr 1
  show List.map _ (List.filter _ [p]) = _
  by_cases e : p.2 = 0
  · rw [List.filter_cons_of_pos (by simp [e]), if_pos e]
    rfl
  · rw [List.filter_cons_of_neg (by simp [e]), if_neg e]
    rfl
section
variable {P : Program} {w : World} {K : PySem.W.Frag} {mg : Str → Option Value} {base : Heap}
def spAll : Sp := fun vs H Q _ => ∃ (n : Nat) (c : Option Nat), vs = [.int (n : Int), cV c] ∧ n ≤ 6 ∧ ∀ H' p, Same H H' → H p = none → H' p = some (.lst ((onGround (grw c (2 * n))).map V.str)) → Q (.ref p) H'
theorem cal_all (D : Def K mg "_law_all" sAll ["_law_n", "_law_ceiling"]) (mrange : mg "range" = none) : Cal K mg CX0 P w base 1 "_law_all" [] spAll := by
  refine D.cal scAll (fun vs H Q E h => ?_) (fun f cdv A outer s H vs Q E hr h => ?_)
  · obtain ⟨n, c, rfl, _⟩ := h
    rfl
  · obtain ⟨n, c, rfl, hn, q⟩ := h
    refine ⟨_, pss_cons (ps_set (i := 2) scAll.nd rfl (.inl rfl) (pe_lst (pa_cons (pe_tup (pa_cons pe_str (pa_cons pe_int pa_nil))) pa_nil)))
      (pss_cons (ps_for PassesOwn.never rfl (pi_range1 (by rfl) mrange (pa_cons (pe_op op_mul pe_int (pv 0)) pa_nil)) (pg_name (i := 3) scAll.nd rfl (.inl rfl))
        (pss_cons (ps_set (i := 4) scAll.nd rfl (.inl rfl) (pe_lst pa_nil))
        (pss_cons (ps_for PassesOwn.never rfl (pi_list (pv 2)) (pg_tup rfl (pgs_cons (pg_name (i := 5) scAll.nd rfl (.inl rfl)) (pgs_cons (pg_name (i := 6) scAll.nd rfl (.inl rfl)) pgs_nil)))
          (pss_cons (ps_if (pt_cmpR op_gt (pv 6) pe_int (nomark _))
            (pss_one (ps_expr (pe_bm PySem.F.plainAttrs_list PySem.F.slot_list_append PySem.F.type_list_append mt_append (pv 4) (pa_cons (pe_tup (pa_cons (pe_op op_add_str (pv 5) pe_str) (pa_cons (pe_op op_sub (pv 6) pe_int) pa_nil))) pa_nil)))) pss_nil)
          (pss_one (ps_if (PW.pt (pw_or (pt_cmp (pc_isN (pv 1))) (pw_or1 (pt_cmpR op_lt (pv 6) (pv 1) (nomark _)))))
            (pss_one (ps_expr (pe_bm PySem.F.plainAttrs_list PySem.F.slot_list_append PySem.F.type_list_append mt_append (pv 4) (pa_cons (pe_tup (pa_cons (pe_op op_add_str (pv 5) pe_str) (pa_cons (pe_op op_add (pv 6) pe_int) pa_nil))) pa_nil)))) pss_nil))))
        (pss_one (ps_set (i := 2) scAll.nd rfl (.inl rfl) (pv 4))))))
      (pss_one (ps_ret (pe_lc (own := [("_law_row", 5), ("_law_height", 6)]) (g := gTup K 2 (gCons (gName 5) (gCons (gName 6) gNil))) rfl scAll.nd (pi_list (pv 2))
        (blkOk_by (N := ["_law_n", "_law_ceiling", "_law_rows", "_law_k", "_law_more", "_law_row", "_law_height"]) (sc := defScope sAll) (by decide +kernel))
        (fun _ _ _ _ _ => pg_tup rfl (pgs_cons (pg_name (i := 5) scAll.nd rfl (Or.inl rfl) (Or.inr rfl)) (pgs_cons (pg_name (i := 6) scAll.nd rfl (Or.inl rfl) (Or.inr rfl)) pgs_nil)))
        (fun _ _ _ _ _ => pts_one (pt_cmpR op_eq (pv 6) pe_int (nomark _))) (fun _ _ _ _ _ => pv 5))))), ?_⟩
    have hz : ∀ {α : Type} (l : List α) {m : Nat}, l.length ≤ m → m ≤ 100000 → l.length < sizeLine := fun l m h1 h2 => szl (by omega)
    refine ⟨sz (by decide), fun p1 n1 => ?_⟩
    have s1 := same_upd (o := .tup [.str "", .int 0]) n1
    refine ⟨sz (show 1 ≤ 1000000 by decide), fun p2 n2 => ?_⟩
    have n12 : p1 ≠ p2 := ne_of_none upd_same n2
    have s2 := s1.trans (same_upd (o := .lst [V.ref p1]) n2)
    refine ⟨.int (n : Int), rfl, 2, (n : Int), rfl, rfl, .inl ⟨by decide, by decide⟩, 2 * (n : Int), rfl, by omega, by omega, ?_⟩
    refine for_range (lo := 0) (n := 2 * n) (fun i σ H' => ∃ (y3 y4 y5 y6 : Option V) (r : Addr) (xs : List V), σ = [some (.int (n : Int)), some (cV c), some (.ref r), y3, y4, y5, y6] ∧ Same H H' ∧
      H r = none ∧ H' r = some (.lst xs) ∧ Rws H' xs (grw c i)) ?_ ?_ ?_
    · refine ⟨none, none, none, none, p2, [V.ref p1], rfl, s2, s1.free n2, upd_same, .cons ⟨p1, rfl, ?_⟩ .nil⟩
      rw [upd_ne n12, upd_same]
      rfl
    · rintro i σ H1 hi ⟨y3, y4, y5, y6, r, xs, rfl, sm, nr, er, R⟩
      refine ⟨Nat.zero_le _, fun m nm => ?_⟩
      have s3 := same_upd (o := .lst []) nm
      have hxl := R.len
      have hgl : (grw c i).length ≤ 2 ^ i := grown_len tD tU c "" i
      have hpi : 2 ^ i ≤ 2 ^ 12 := Nat.pow_le_pow_right (by decide) (by omega)
      have hp12 : 2 ^ 12 = 4096 := rfl
      refine ⟨.ref r, rfl, r, rfl, ⟨_, .inl (.inl (s3 _ _ er))⟩, ?_⟩
      have nmr : r ≠ m := ne_of_none er nm
      refine for_list (K := K) (a := r) (xs := xs) (fun j σ H' => ∃ (y5 y6 : Option V) (acc : List V), σ = [some (.int (n : Int)), some (cV c), some (.ref r), some (.int (0 + (i : Int))), some (.ref m), y5, y6] ∧ Same H1 H' ∧
        H' m = some (.lst acc) ∧ Rws H' acc (growAll tD tU c ((grw c i).take j))) ?_ ?_ ?_ ?_
      · exact ⟨y5, y6, [], rfl, s3, upd_same, .nil⟩
      · rintro j σ H' _ ⟨_, _, acc, rfl, sm1, em, R1⟩
        exact .inl (.inl (sm1 _ _ er))
      · rintro j v σ H2 hv ⟨_, _, acc, rfl, sm1, em, R1⟩
        obtain ⟨p, hp, qa, rfl, eq⟩ := R.get hv
        have eq2 := sm1 _ _ eq
        have hpl := grw_len c i p (List.mem_of_getElem? hp)
        have hl1 := R1.len
        have hg : (growAll tD tU c ((grw c i).take j)).length ≤ 2 * 4096 := by
          have : (growAll tD tU c ((grw c i).take j)).length ≤ 2 * ((grw c i).take j).length := by
            generalize (grw c i).take j = l
            induction l with
            | nil => exact Nat.le_refl _
            | cons p l il =>
              have e : growAll tD tU c (p :: l) = grow1 tD tU c p ++ growAll tD tU c l := rfl
              rw [e, List.length_append, List.length_cons]
              have : (grow1 tD tU c p).length ≤ 2 := by
                unfold grow1
                rw [List.length_append]
                split <;> split <;> simp
              omega
          rw [List.length_take] at this
          omega
        refine ⟨qa, _, rfl, .inl (.inl eq2), rfl, _, _, rfl, _, _, rfl, rfl, ?_⟩
        have hz6 : p.1.length + 1 ≤ sizeLine := sz (by omega)
        have eG : growAll tD tU c ((grw c i).take (j + 1)) = (growAll tD tU c ((grw c i).take j) ++ (if 0 < p.2 then [(tD p.1, p.2 - 1)] else [])) ++ (if under c p.2 = true then [(tU p.1, p.2 + 1)] else []) := by
          rw [growAll_take hp]
          unfold grow1
          rw [List.append_assoc]
        refine ⟨.int (p.2 : Int), rfl, (p.2 : Int), 0, rfl, rfl, _, rfl, ite2 (fun e => ?_) (fun e => ?_)⟩
        · have e0 : 0 < p.2 := by
            have := of_decide_eq_true e
            omega
          refine ⟨.ref m, rfl, .inl ⟨rfl, _, .inl (.inl em)⟩, .str p.1, rfl, p.1, "d", rfl, rfl, hz6, .int (p.2 : Int), rfl, (p.2 : Int), 1, rfl, rfl, sz (show 2 ≤ 1000000 by decide), fun t nt => ?_⟩
          have nmt : m ≠ t := ne_of_none em nt
          have smt := sm1.trans (same_upd (o := .tup [.str (p.1 ++ "d"), .int ((p.2 : Int) - 1)]) nt)
          have emt : upd H2 t (.tup [.str (p.1 ++ "d"), .int ((p.2 : Int) - 1)]) m = some (.lst acc) := by
            rw [upd_ne nmt]
            exact em
          refine ⟨m, acc, .ref t, rfl, rfl, emt, szl (by omega), ?_⟩
          have smC := same_updN (o := .lst (acc ++ [.ref t])) smt nm
          have RC : Rws (upd (upd H2 t (.tup [.str (p.1 ++ "d"), .int ((p.2 : Int) - 1)])) m (.lst (acc ++ [.ref t]))) (acc ++ [.ref t]) (growAll tD tU c ((grw c i).take j) ++ (if 0 < p.2 then [(tD p.1, p.2 - 1)] else [])) := by
            rw [if_pos e0]
            refine Rws.upd (acc := acc) (Rws.snoc (R1.same (same_upd nt)) ⟨t, rfl, ?_⟩) emt
            rw [upd_same, show ((p.2 : Int) - 1) = ((p.2 - 1 : Nat) : Int) by omega]
          have emC : upd (upd H2 t (.tup [.str (p.1 ++ "d"), .int ((p.2 : Int) - 1)])) m (.lst (acc ++ [.ref t])) m = some (.lst (acc ++ [.ref t])) := upd_same
          have hL : (acc ++ [V.ref t]).length ≤ 9000 := by
            rw [List.length_append]
            show acc.length + 1 ≤ 9000
            omega
          revert smC RC emC hL
          generalize upd (upd H2 t (.tup [.str (p.1 ++ "d"), .int ((p.2 : Int) - 1)])) m (.lst (acc ++ [.ref t])) = Hc
          generalize acc ++ [V.ref t] = aC
          intro smC RC emC hL
          have app : ∀ (c' : Option Nat), c' = c → under c' p.2 = true → ∀ t, Hc t = none → Same H1 (upd (upd Hc t (.tup [.str (p.1 ++ "u"), .int ((p.2 : Int) + 1)])) m (.lst (aC ++ [.ref t]))) ∧
              Rws (upd (upd Hc t (.tup [.str (p.1 ++ "u"), .int ((p.2 : Int) + 1)])) m (.lst (aC ++ [.ref t]))) (aC ++ [.ref t]) (growAll tD tU c ((grw c i).take (j + 1))) := by
            intro c' ec hu t nt
            have nmt : m ≠ t := ne_of_none emC nt
            have smt := smC.trans (same_upd (o := .tup [.str (p.1 ++ "u"), .int ((p.2 : Int) + 1)]) nt)
            refine ⟨same_updN smt nm, ?_⟩
            rw [eG, if_pos (show under c p.2 = true from ec ▸ hu)]
            refine Rws.upd (acc := aC) (Rws.snoc (RC.same (same_upd nt)) ⟨t, rfl, ?_⟩) (by rw [upd_ne nmt]; exact emC)
            rw [upd_same, show ((p.2 : Int) + 1) = ((p.2 + 1 : Nat) : Int) by omega]
          cases c with
          | none =>
            refine ⟨.non, rfl, true, rfl, ?_⟩
            refine iteT ?_
            refine iteT ?_
            refine ⟨.ref m, rfl, .inl ⟨rfl, _, .inl (.inl emC)⟩, .str p.1, rfl, p.1, "u", rfl, rfl, hz6, .int (p.2 : Int), rfl, (p.2 : Int), 1, rfl, rfl, sz (show 2 ≤ 1000000 by decide), fun t nt => ?_⟩
            obtain ⟨a1, a2⟩ := app none rfl rfl t nt
            exact ⟨m, aC, .ref t, rfl, rfl, by rw [upd_ne (ne_of_none emC nt)]; exact emC, szl (by omega), _, _, _, rfl, a1, upd_same, a2⟩
          | some k =>
            refine ⟨.int (k : Int), rfl, false, rfl, ?_⟩
            refine iteF ?_
            refine ⟨.int (p.2 : Int), rfl, .int (k : Int), rfl, (p.2 : Int), (k : Int), rfl, rfl, _, rfl, ite2 (fun e => ?_) (fun e => ?_)⟩
            · have hu : under (some k) p.2 = true := decide_eq_true (by have := of_decide_eq_true e; omega)
              refine ⟨.ref m, rfl, .inl ⟨rfl, _, .inl (.inl emC)⟩, .str p.1, rfl, p.1, "u", rfl, rfl, hz6, .int (p.2 : Int), rfl, (p.2 : Int), 1, rfl, rfl, sz (show 2 ≤ 1000000 by decide), fun t nt => ?_⟩
              obtain ⟨a1, a2⟩ := app (some k) rfl hu t nt
              exact ⟨m, aC, .ref t, rfl, rfl, by rw [upd_ne (ne_of_none emC nt)]; exact emC, szl (by omega), _, _, _, rfl, a1, upd_same, a2⟩
            · have hu : ¬ under (some k) p.2 = true := fun z => e (decide_eq_true (by have := of_decide_eq_true (show decide (p.2 < k) = true from z); omega))
              refine ⟨_, _, aC, rfl, smC, emC, ?_⟩
              rw [eG, if_neg hu, List.append_nil]
              exact RC
        · have e0 : ¬ 0 < p.2 := fun z => e (decide_eq_true (by omega))
          have smC := sm1
          have RC : Rws H2 acc (growAll tD tU c ((grw c i).take j) ++ (if 0 < p.2 then [(tD p.1, p.2 - 1)] else [])) := by
            rw [if_neg e0, List.append_nil]
            exact R1
          have emC := em
          have hL : acc.length ≤ 9000 := by omega
          revert smC RC emC hL
          generalize H2 = Hc
          generalize acc = aC
          intro smC RC emC hL
          have app : ∀ (c' : Option Nat), c' = c → under c' p.2 = true → ∀ t, Hc t = none → Same H1 (upd (upd Hc t (.tup [.str (p.1 ++ "u"), .int ((p.2 : Int) + 1)])) m (.lst (aC ++ [.ref t]))) ∧
              Rws (upd (upd Hc t (.tup [.str (p.1 ++ "u"), .int ((p.2 : Int) + 1)])) m (.lst (aC ++ [.ref t]))) (aC ++ [.ref t]) (growAll tD tU c ((grw c i).take (j + 1))) := by
            intro c' ec hu t nt
            have nmt : m ≠ t := ne_of_none emC nt
            have smt := smC.trans (same_upd (o := .tup [.str (p.1 ++ "u"), .int ((p.2 : Int) + 1)]) nt)
            refine ⟨same_updN smt nm, ?_⟩
            rw [eG, if_pos (show under c p.2 = true from ec ▸ hu)]
            refine Rws.upd (acc := aC) (Rws.snoc (RC.same (same_upd nt)) ⟨t, rfl, ?_⟩) (by rw [upd_ne nmt]; exact emC)
            rw [upd_same, show ((p.2 : Int) + 1) = ((p.2 + 1 : Nat) : Int) by omega]
          cases c with
          | none =>
            refine ⟨.non, rfl, true, rfl, ?_⟩
            refine iteT ?_
            refine iteT ?_
            refine ⟨.ref m, rfl, .inl ⟨rfl, _, .inl (.inl emC)⟩, .str p.1, rfl, p.1, "u", rfl, rfl, hz6, .int (p.2 : Int), rfl, (p.2 : Int), 1, rfl, rfl, sz (show 2 ≤ 1000000 by decide), fun t nt => ?_⟩
            obtain ⟨a1, a2⟩ := app none rfl rfl t nt
            exact ⟨m, aC, .ref t, rfl, rfl, by rw [upd_ne (ne_of_none emC nt)]; exact emC, szl (by omega), _, _, _, rfl, a1, upd_same, a2⟩
          | some k =>
            refine ⟨.int (k : Int), rfl, false, rfl, ?_⟩
            refine iteF ?_
            refine ⟨.int (p.2 : Int), rfl, .int (k : Int), rfl, (p.2 : Int), (k : Int), rfl, rfl, _, rfl, ite2 (fun e => ?_) (fun e => ?_)⟩
            · have hu : under (some k) p.2 = true := decide_eq_true (by have := of_decide_eq_true e; omega)
              refine ⟨.ref m, rfl, .inl ⟨rfl, _, .inl (.inl emC)⟩, .str p.1, rfl, p.1, "u", rfl, rfl, hz6, .int (p.2 : Int), rfl, (p.2 : Int), 1, rfl, rfl, sz (show 2 ≤ 1000000 by decide), fun t nt => ?_⟩
              obtain ⟨a1, a2⟩ := app (some k) rfl hu t nt
              exact ⟨m, aC, .ref t, rfl, rfl, by rw [upd_ne (ne_of_none emC nt)]; exact emC, szl (by omega), _, _, _, rfl, a1, upd_same, a2⟩
            · have hu : ¬ under (some k) p.2 = true := fun z => e (decide_eq_true (by have := of_decide_eq_true (show decide (p.2 < k) = true from z); omega))
              refine ⟨_, _, aC, rfl, smC, emC, ?_⟩
              rw [eG, if_neg hu, List.append_nil]
              exact RC
      · rintro σ H2 ⟨_, _, acc, rfl, sm1, em, R1⟩
        refine ⟨_, rfl, _, _, _, _, m, acc, rfl, sm.trans sm1, sm.free nm, em, ?_⟩
        rw [hxl, List.take_length] at R1
        exact R1
    · rintro σ H1 ⟨y3, y4, y5, y6, r, xs, rfl, sm, nr, er, R⟩
      have hxl := R.len
      refine ⟨.ref r, rfl, r, rfl, ⟨_, .inl (.inl er)⟩, fun D nD => ?_⟩
      have hgl : (grw c (2 * n)).length ≤ 2 ^ (2 * n) := grown_len tD tU c "" (2 * n)
      have hpi : 2 ^ (2 * n) ≤ 2 ^ 12 := Nat.pow_le_pow_right (by decide) (by omega)
      have hp12 : 2 ^ 12 = 4096 := rfl
      refine lc_list (K := K) (a := r) (xs := xs) (fun j H' => Same H1 H' ∧ H' D = some (.lst ((onGround ((grw c (2 * n)).take j)).map V.str))) ?_ ?_ ?_ ?_
      · exact ⟨same_upd nD, upd_same⟩
      · rintro j H' _ ⟨sm1, _⟩
        exact .inl (.inl (sm1 _ _ er))
      · rintro j v H2 hv ⟨sm1, eD⟩
        obtain ⟨p, hp, qa, rfl, eq⟩ := R.get hv
        have eq2 := sm1 _ _ eq
        refine ⟨qa, _, rfl, .inl (.inl eq2), rfl, _, _, rfl, _, _, rfl, rfl, rfl, ?_⟩
        refine ⟨_, rfl, rfl, _, rfl, ite2 (fun e => ?_) (fun e => ?_)⟩
        · have e0 : p.2 = 0 := by
            have := V.int.inj (of_decide_eq_true e)
            omega
          refine ⟨_, rfl, _, eD, ?_, same_updN sm1 nD, ?_⟩
          · rw [List.length_map]
            refine szl ?_
            have : (onGround ((grw c (2 * n)).take j)).length ≤ (grw c (2 * n)).length := by
              unfold onGround
              rw [List.length_map]
              exact Nat.le_trans (List.length_filter_le _ _) (by rw [List.length_take]; omega)
            omega
          · rw [upd_same, onGround_take hp, if_pos e0, List.map_append]
            rfl
        · have e0 : ¬ p.2 = 0 := fun z => e (decide_eq_true (by rw [z]; rfl))
          refine ⟨sm1, ?_⟩
          rw [onGround_take hp, if_neg e0, List.append_nil]
          exact eD
      · rintro H2 ⟨sm1, eD⟩
        rw [hxl, List.take_length] at eD
        exact q H2 D (sm.trans sm1) (sm.free nD) eD
end
end Hr
namespace Hr
open PySem PySem.Spec PyProof.Rows L2
theorem onGround_rows (c : Option Nat) (n : Nat) : onGround (grw c (2 * n)) = (rws (low n c) (2 * n) 0).map txt := by
  rw [← grwB_rows c n]
  have hD : ∀ x : List Bool, txt (x ++ [false]) = txt x ++ ("d" : Str) := fun x => by
    rw [← txt_append, ← sgn_d]
    rfl
  have hU : ∀ x : List Bool, txt (x ++ [true]) = txt x ++ ("u" : Str) := fun x => by
    rw [← txt_append, ← sgn_u]
    rfl
  have h := grown_map txt (· ++ [false]) (· ++ [true]) tD tU hD hU c [] (2 * n)
  have e0 : txt [] = ("" : Str) := eE.symm
  rw [e0] at h
  show onGround (grown tD tU c ("" : Str) (2 * n)) = _
  rw [h]
  unfold onGround
  rw [List.filter_map, List.map_map, List.map_map]
  rfl
end Hr
/-! ### texts in order, lists as data -/
namespace Hr
open PySem PySem.Spec PyProof.Rows L2
def leS (a b : Str) : Prop := ltCps b.cps.toList a.cps.toList = false
theorem ltCps_tri : ∀ {a b c : List Nat}, ltCps b a = false → ltCps c b = false → ltCps c a = false
  | [], [], [], _, _ => rfl
  | [], _ :: _, [], _, h => by cases h
  | [], [], z :: c, _, h2 => rfl
  | [], y :: b, z :: c, _, _ => rfl
  | x :: a, [], _, h, _ => by cases h
  | x :: a, y :: b, [], _, h => by cases h
  | x :: a, y :: b, z :: c, h1, h2 => by
    have h1 : (decide (y < x) || (y == x && ltCps b a)) = false := h1
    have h2 : (decide (z < y) || (z == y && ltCps c b)) = false := h2
    show (decide (z < x) || (z == x && ltCps c a)) = false
    rw [Bool.or_eq_false_iff] at h1 h2 ⊢
    obtain ⟨p1, q1⟩ := h1
    obtain ⟨p2, q2⟩ := h2
    have p1 := of_decide_eq_false p1
    have p2 := of_decide_eq_false p2
    refine ⟨decide_eq_false (by omega), ?_⟩
    by_cases e : z = x
    · have e1 : y = x := by omega
      have e2 : z = y := by omega
      rw [e1] at q1
      rw [e2] at q2
      have q1 : ltCps b a = false := by simpa using q1
      have q2 : ltCps c b = false := by simpa using q2
      rw [ltCps_tri q1 q2, Bool.and_false]
    · rw [show (z == x) = false by simp [e], Bool.false_and]
theorem ltCps_anti : ∀ {a b : List Nat}, ltCps b a = false → ltCps a b = false → a = b
  | [], [], _, _ => rfl
  | [], _ :: _, _, h => by cases h
  | _ :: _, [], h, _ => by cases h
  | x :: a, y :: b, h1, h2 => by
    have h1 : (decide (y < x) || (y == x && ltCps b a)) = false := h1
    have h2 : (decide (x < y) || (x == y && ltCps a b)) = false := h2
    rw [Bool.or_eq_false_iff] at h1 h2
    obtain ⟨p1, q1⟩ := h1
    obtain ⟨p2, q2⟩ := h2
    have p1 := of_decide_eq_false p1
    have p2 := of_decide_eq_false p2
    have e : x = y := by omega
    subst e
    have q1 : ltCps b a = false := by simpa using q1
    have q2 : ltCps a b = false := by simpa using q2
    rw [ltCps_anti q1 q2]
theorem risingS_pair : ∀ (r : List Str) (p : Str), risingS p r = true → (p :: r).Pairwise leS
  | [], p, _ => List.pairwise_singleton _ _
  | x :: r, p, h => by
    have h : (!ltCps x.cps.toList p.cps.toList && risingS x r) = true := h
    rw [Bool.and_eq_true] at h
    have hx : leS p x := by simpa [leS] using h.1
    have ih := risingS_pair r x h.2
    refine List.pairwise_cons.mpr ⟨fun b hb => ?_, ih⟩
    rcases List.mem_cons.mp hb with e | e
    · rw [e]
      exact hx
    · exact ltCps_tri hx ((List.pairwise_cons.mp ih).1 b e)
theorem sortedS_pair : ∀ {l : List Str}, sortedS l = true → l.Pairwise leS
  | [], _ => List.Pairwise.nil
  | x :: r, h => risingS_pair r x h
theorem ltB_cps : ∀ {a b : List Bool}, a.length = b.length → ltB a b = true → ltCps (b.map code) (a.map code) = false
  | [], [], _, h => by cases h
  | [], _ :: _, e, _ => by cases e
  | _ :: _, [], e, _ => by cases e
  | x :: a, y :: b, e, h => by
    have e' : a.length = b.length := Nat.succ.inj e
    show (decide (code y < code x) || (code y == code x && ltCps (b.map code) (a.map code))) = false
    cases x <;> cases y
    · have h : ltB a b = true := h
      rw [ltB_cps e' h]
      rfl
    · rfl
    · cases h
    · have h : ltB a b = true := h
      rw [ltB_cps e' h]
      rfl
theorem rws_mem_len (T : Nat) : ∀ k h, ∀ l ∈ rws T k h, l.length = k
  | 0, h, l, hl => by
    unfold rws at hl
    split at hl
    · rw [List.mem_singleton.mp hl]
      rfl
    · cases hl
  | k + 1, h, l, hl => by
    unfold rws at hl
    rcases List.mem_append.mp hl with z | z
    · split at z
      · cases z
      · obtain ⟨r, hr, rfl⟩ := List.mem_map.mp z
        rw [List.length_cons, rws_mem_len T k _ r hr]
    · split at z
      · obtain ⟨r, hr, rfl⟩ := List.mem_map.mp z
        rw [List.length_cons, rws_mem_len T k _ r hr]
      · cases z
theorem rows_le (T k h : Nat) : ((rws T k h).map txt).Pairwise leS := by
  rw [List.pairwise_map]
  have h1 := rws_sorted T k h
  have h2 := rws_mem_len T k h
  refine (List.Pairwise.and_mem.mp h1).imp fun {a b} ⟨ma, mb, e⟩ => ?_
  exact ltB_cps ((h2 a ma).trans (h2 b mb).symm) e
theorem sorted_same {ys : List Str} {T k h : Nat} (p : ys.Perm ((rws T k h).map txt)) (s : sortedS ys = true) : ys = (rws T k h).map txt :=
  List.Perm.eq_of_pairwise (le := leS) (fun a b _ _ h1 h2 => by
    obtain ⟨⟨a⟩⟩ := a
    obtain ⟨⟨b⟩⟩ := b
    have : a = b := ltCps_anti h1 h2
    rw [this]) (sortedS_pair s) (rows_le T k h) p
section
variable {K : PySem.W.Frag} {H : Hp}
theorem dp_ints : ∀ ns : List Int, DpAll K H (ns.map V.int) (ns.map PyData.int)
  | [] => .nil
  | n :: r => .cons (.int n) (dp_ints r)
theorem dp_strs : ∀ xs : List Str, DpAll K H (xs.map V.str) (xs.map PyData.str)
  | [] => .nil
  | x :: r => .cons (.str x) (dp_strs r)
end
theorem lay_ints : ∀ ns : List Int, PyData.canLayAll0 (ns.map PyData.int) = true
  | [] => rfl
  | n :: r => by
    show (true && PyData.canLayAll0 (r.map PyData.int)) = true
    rw [lay_ints r]
    rfl
theorem dep_ints : ∀ ns : List Int, PyData.depthAll (ns.map PyData.int) = 0
  | [] => rfl
  | n :: r => by
    show max 0 (PyData.depthAll (r.map PyData.int)) = 0
    rw [dep_ints r]
    rfl
theorem lay_txts : ∀ ls : List (List Bool), PyData.canLayAll0 ((ls.map txt).map PyData.str) = true
  | [] => rfl
  | l :: r => by
    show (PyData.strOk (txt l) && PyData.canLayAll0 ((r.map txt).map PyData.str)) = true
    rw [lay_txts r, Bool.and_true]
    show (l.map code).toArray.all (· < 0x110000) = true
    rw [List.all_toArray, List.all_eq_true]
    intro c hc
    obtain ⟨b, _, rfl⟩ := List.mem_map.mp hc
    cases b <;> rfl
theorem dep_strs : ∀ xs : List Str, PyData.depthAll (xs.map PyData.str) = 0
  | [] => rfl
  | n :: r => by
    show max 0 (PyData.depthAll (r.map PyData.str)) = 0
    rw [dep_strs r]
    rfl
theorem sh_ints (ns : List Int) : SeqAt.shaped (.list (ns.map PyData.int)) = true := by
  show (PyData.canLayAll0 (ns.map PyData.int) && decide (PyData.depthAll (ns.map PyData.int) + 1 ≤ 64)) = true
  rw [lay_ints, dep_ints]
  rfl
theorem sh_txts (ls : List (List Bool)) : SeqAt.shaped (.list ((ls.map txt).map PyData.str)) = true := by
  show (PyData.canLayAll0 ((ls.map txt).map PyData.str) && decide (PyData.depthAll ((ls.map txt).map PyData.str) + 1 ≤ 64)) = true
  rw [lay_txts, dep_strs]
  rfl
end Hr
/-! ### the law -/
namespace Hr
open PySem PySem.Spec PyProof.Rows L2
abbrev nLaw : List Str := ["_law_script", "_law_mark", "_law_n", "_law_ceiling", "_law_rows", "_law_number_here", "_law_row", "_law_signs", "_law_place"]
theorem scLaw : FnScope ["_law_script", "_law_mark", "_law_n", "_law_ceiling", "_law_rows", "_law_number_here", "_law_row", "_law_signs", "_law_place"] ["_law_script"] (defScope sLaw) := ⟨rfl, rfl, rfl, by decide +kernel, rfl, by decide +kernel, by decide +kernel⟩
theorem cnt_small : ∀ n, n < 6 → ∀ T, T ≤ n → W T (2 * n) 0 < 64 := by decide
section
variable {P : Program} {w : World} {K : PySem.W.Frag} {mg : Str → Option Value} {base : Heap}
def spLaw (K : PySem.W.Frag) : Sp := fun vs H Q _ => ∃ (a : Addr) (ns : List Int), vs = [.ref a] ∧ SqL K H a (ns.map V.int) ∧ ns.length ≤ 63 ∧ ∀ H', Q (.bl true) H'
theorem ok_law {f : Addr} {fd : FuncData} (F : Fun K "law" "law" sLaw f fd) (cC1 : Cal K mg CX0 P w base 4 "counted" [] spCounted) (cNum : Cal K mg CX0 P w base 2 "_law_number" [] (spNumber K)) (cAll : Cal K mg CX0 P w base 1 "_law_all" [] spAll)
    (cRowAt : Cal K mg CX0 P w base 4 "row_at" [] spRowAt) (cRowAt1 : Cal K mg CX0 P w base 4 "row_at" [.non] spRowAt) (cRank : Cal K mg CX0 P w base 5 "rank" [] spRank) (cRank1 : Cal K mg CX0 P w base 5 "rank" [.non] spRank)
    (cSign : Cal K mg CX0 P w base 5 "sign_at" [] spSignAt) (cNext : Cal K mg CX0 P w base 6 "next_row" [] spNext) (cNext1 : Cal K mg CX0 P w base 6 "next_row" [.non] spNext) (cAhead : Cal K mg CX0 P w base 6 "ahead_row" [] spAhead)
    (mlen : mg "len" = none) (mrange : mg "range" = none) (msorted : mg "sorted" = none) : FnOk P w K mg base CX0 7 f fd ["_law_script"] (spLaw K) := by
  refine F.ok scLaw (fun vs H Q E h => ?_) (fun cdv A outer s H vs Q E hr h => ?_)
  · obtain ⟨a, ns, rfl, _⟩ := h
    rfl
  · obtain ⟨a, ns, rfl, hS, hlen, q⟩ := h
    have nd := scLaw.nd
    refine ⟨_, pss_cons (ps_set (i := 1) nd rfl (.inl rfl) (pe_op op_add (pe_c cNum hr (pa_cons (pv 0) (pa_cons pe_int pa_nil))) (pe_callB call_len_seq (by rfl) mlen PySem.boot_len (pa_cons (pv 0) pa_nil))))
      (pss_cons (ps_set (i := 2) nd rfl (.inr rfl) (pe_op op_mod (pv 1) pe_int))
      (pss_cons (ps_set (i := 3) nd rfl (.inr rfl) (pe_ix ix_list (pe_lst (pa_cons pe_non (pa_cons (pe_op op_mod (pe_op op_fdiv (pv 1) pe_int) pe_int) pa_nil))) (pe_op op_mod (pe_op op_fdiv (pv 1) pe_int) pe_int) (fun _ _ => rfl)))
      (pss_cons (ps_set (i := 4) nd rfl (.inl rfl) (pe_c cAll hr (pa_cons (pv 2) (pa_cons (pv 3) pa_nil))))
      (pss_cons (ps_if (PW.pt (pw_or (pt_cmpR op_ne (pe_c cC1 hr (pa_cons (pv 2) (pa_cons (pv 3) pa_nil))) (pe_callB call_len_seq (by rfl) mlen PySem.boot_len (pa_cons (pv 4) pa_nil)) (nomark _)) (pw_or1 (pt_cmpR (op_neD hr.units) (pv 4) (pe_callB cr_sortedS (by rfl) msorted (by decide +kernel) (pa_cons (pv 4) pa_nil)) (nomark _))))) (pss_one (ps_ret pe_bl)) pss_nil)
      (pss_cons (ps_for PassesOwn.never rfl (pi_range1 (by rfl) mrange (pa_cons (pe_callB call_len_seq (by rfl) mlen PySem.boot_len (pa_cons (pv 4) pa_nil)) pa_nil)) (pg_name (i := 5) nd rfl (.inr rfl))
        (pss_cons (ps_set (i := 6) nd rfl (.inl rfl) (pe_c cRowAt hr (pa_cons (pv 2) (pa_cons (pv 5) (pa_cons (pv 3) pa_nil)))))
        (pss_cons (ps_if (PW.pt (pw_or (pt_cmpR op_ne (pv 6) (pe_ix ix_list (pv 4) (pv 5) (fun _ _ => rfl)) (nomark _)) (pw_or1 (pt_cmpR op_ne (pe_c cRank hr (pa_cons (pv 6) (pa_cons (pv 3) pa_nil))) (pv 5) (nomark _))))) (pss_one (ps_ret pe_bl)) pss_nil)
        (pss_cons (ps_setLc (i := 7) (own := [("_law_place", 8)]) (g := gName 8) (tt := tYes) rfl nd rfl rfl (sw_true rfl rfl rfl (by decide +kernel)) (pi_range1 (by rfl) mrange (pa_cons (pe_op op_mul pe_int (pv 2)) pa_nil))
          (blkOk_by (N := nLaw) (sc := defScope sLaw) (by decide +kernel)) (fun _ _ _ _ _ => pg_name (i := 8) nd rfl (Or.inl rfl)) (fun _ _ _ _ _ => pts_nil)
          (fun _ _ _ _ _ => pe_c cSign hr (pa_cons (pv 2) (pa_cons (pv 5) (pa_cons (pv 8) (pa_cons (pv 3) pa_nil))))))
        (pss_cons (ps_if (pt_cmpR op_ne (pe_join pe_str (pv 7)) (pv 6) (nomark _)) (pss_one (ps_ret pe_bl)) pss_nil)
        (pss_cons (ps_if (pt_cmpR op_ne (pe_c cNext hr (pa_cons (pv 6) (pa_cons (pv 3) pa_nil))) (pe_ix ix_list (pe_op op_cat (pv 4) (pe_lst (pa_cons pe_non pa_nil))) (pe_op op_add (pv 5) pe_int) (fun _ _ => rfl)) (nomark _)) (pss_one (ps_ret pe_bl)) pss_nil)
        (pss_cons (ps_if (pt_cmpR op_ne (pe_c cAhead hr (pa_cons (pv 6) (pa_cons (pv 3) pa_nil))) (pe_ix ix_list (pe_op op_cat (pe_lst (pa_cons pe_non pa_nil)) (pv 4)) (pv 5) (fun _ _ => rfl)) (nomark _)) (pss_one (ps_ret pe_bl)) pss_nil)
        (pss_cons (ps_if (PW.pt (pw_and (pt_cmp (pc_isN (pv 3))) (pw_and1 (PW.pt (pw_or (pt_cmpR op_ne (pe_c cRank1 hr (pa_cons (pv 6) pa_nil)) (pv 5) (nomark _)) (pw_or1 (pt_cmpR op_ne (pe_c cRowAt1 hr (pa_cons (pv 2) (pa_cons (pv 5) pa_nil))) (pv 6) (nomark _)))))))) (pss_one (ps_ret pe_bl)) pss_nil)
        (pss_one (ps_if (PW.pt (pw_and (pt_cmp (pc_isN (pv 3))) (pw_and1 (pt_cmpR op_ne (pe_c cNext1 hr (pa_cons (pv 6) pa_nil)) (pe_c cNext hr (pa_cons (pv 6) (pa_cons pe_non pa_nil))) (nomark _))))) (pss_one (ps_ret pe_bl)) pss_nil))))))))))
      (pss_one (ps_ret pe_bl))))))), ?_⟩
    have hsz : ∀ {x : Nat}, x ≤ 1000 → x ≤ sizeLine := fun h => sz (by omega)
    refine ⟨.ref a, rfl, a, ns, 0, rfl, hS, .ref a, rfl, a, _, rfl, .inl hS, _, _, rfl, rfl, ?_⟩
    have h0 := mixed_nonneg (ns.getD 0 0) ((0 : Nat) : Int)
    obtain ⟨mk, emk, hmk⟩ : ∃ mk : Int, mixed (ns.getD 0 0) ((0 : Nat) : Int) + ((ns.map V.int).length : Int) = mk ∧ 0 ≤ mk := ⟨_, rfl, by omega⟩
    show gName 1 (V.int (mixed (ns.getD 0 0) ((0 : Nat) : Int) + ((ns.map V.int).length : Int))) _ _ _
    rw [emk]
    refine ⟨_, rfl, mk, 6, rfl, rfl, (by show (0 : Int) < 6; decide), ?_⟩
    obtain ⟨n, en, hn⟩ : ∃ n : Nat, mk % 6 = (n : Int) ∧ n < 6 := ⟨(mk % 6).toNat, by omega, by omega⟩
    show gName 2 (V.int (mk % 6)) _ _ _
    rw [en]
    obtain ⟨d, ed, hd⟩ : ∃ d : Nat, mk / 6 % 7 = (d : Int) ∧ d ≤ 6 := ⟨(mk / 6 % 7).toNat, by omega, by omega⟩
    obtain ⟨co, j, ej, eco, hco⟩ : ∃ (co : Option Nat) (j : Nat), mk / 42 % 2 = (j : Int) ∧ ([V.non, V.int (mk / 6 % 7)])[j]? = some (cV co) ∧ cOk 200 co := by
      by_cases h : mk / 42 % 2 = 0
      · exact ⟨none, 0, h, rfl, trivial⟩
      · exact ⟨some d, 1, by omega, by rw [ed]; rfl, by show d ≤ 200; omega⟩
    refine ⟨_, rfl, mk, 6, rfl, rfl, ⟨by decide, by decide⟩, mk / 6, 7, rfl, rfl, (by show (0 : Int) < 7; decide), sz (show 2 ≤ 1000000 by decide), fun l nl => ?_⟩
    refine ⟨_, rfl, mk, 42, rfl, rfl, ⟨by decide, by decide⟩, mk / 42, 2, rfl, rfl, (by show (0 : Int) < 2; decide), l, _, _, cV co, rfl, rfl, .inl (.inl upd_same), at_of ej eco, ?_⟩
    -- rows
    refine ⟨_, rfl, _, rfl, n, co, rfl, by omega, fun H1 p s1 np ep => ?_⟩
    rw [onGround_rows] at ep
    have hcn : (rws (low n co) (2 * n) 0).length = cntc co n := rws_len _ _ _
    have hc64 : cntc co n < 64 := cnt_small n hn _ (low_le n co)
    have hxl : (((rws (low n co) (2 * n) 0).map txt).map V.str).length = cntc co n := by rw [List.length_map, List.length_map, hcn]
    have hat : ∀ r, r < cntc co n → (((rws (low n co) (2 * n) 0).map txt).map V.str)[r]? = some (.str (txt (rowOf co n r))) := fun r hr => by
      rw [List.getElem?_map, List.getElem?_map, unrank_get hr]
      rfl
    generalize hrows : (rws (low n co) (2 * n) 0).map txt = rows at ep hxl hat
    have hS1 : SqL K H1 p (rows.map V.str) := .inl (.inl ep)
    refine ⟨_, rfl, _, rfl, n, co, rfl, by omega, hco, fun H2 s2 => ?_⟩
    refine ⟨.ref p, rfl, p, _, rfl, .inl (s2.seq hS1), rfl, _, rfl, ?_⟩
    rw [hxl]
    refine iteNS rfl ?_
    refine ⟨.ref p, rfl, .ref p, rfl, p, rows, rfl, s2.seq hS1, by rw [← hrows, List.length_map, hcn]; exact hc64, fun ys p2 hperm hsort np2 => ?_⟩
    have eys : ys = rows := by
      rw [← hrows] at hperm ⊢
      exact sorted_same hperm hsort
    subst eys
    have s3 := same_upd (o := .lst (ys.map V.str)) np2
    have shr : SeqAt.shaped (.list (ys.map PyData.str)) = true := by
      rw [← hrows]
      exact sh_txts _
    refine ⟨_, _, .lst (s3.seq (s2.seq hS1)) (dp_strs ys), .lst (.inl (.inl upd_same)) (dp_strs ys), shr, shr, _, rfl, ?_⟩
    rw [PySem.SeqAt.eqv_refl _ (SeqAt.canLay_of_shaped shr)]
    refine iteF ?_
    have sm : Same H1 (upd H2 p2 (.lst (ys.map V.str))) := s2.trans s3
    refine ⟨.ref p, rfl, p, _, rfl, .inl (sm.seq hS1), ((cntc co n : Nat) : Int), by rw [hxl], by omega, by omega, ?_⟩
    refine for_range (lo := 0) (n := cntc co n) (fun i σ H' => ∃ (y5 y6 y7 y8 : Option V), σ = [some (.ref a), some (.int mk), some (.int (n : Int)), some (cV co), some (.ref p), y5, y6, y7, y8] ∧ Same H1 H') ?_ ?_ ?_
    · exact ⟨none, none, none, none, rfl, sm⟩
    · rintro i σ H3 hi ⟨y5, y6, y7, y8, rfl, sm3⟩
      show gName 5 (V.int (0 + (i : Int))) _ _ _
      rw [Int.zero_add]
      have hh := rowOf_hill hi
      have hrk := rowOf_rk hi
      have hlen2 := rowOf_len hi
      refine ⟨_, rfl, _, rfl, _, rfl, n, i, co, rfl, by omega, hco, hi, fun H4 s4 => ?_⟩
      have sm4 := sm3.trans s4
      refine ⟨_, rfl, .ref p, rfl, .int (i : Int), rfl, p, _, _, _, rfl, rfl, sm4.seq hS1, atI_nat (hat i hi), rfl, _, rfl, iteNS rfl ?_⟩
      refine ⟨_, rfl, _, rfl, rowOf co n i, co, n, rfl, hco, hh, by omega, fun H5 s5 => ?_⟩
      rw [hrk]
      refine ⟨_, rfl, rfl, _, rfl, iteNS rfl ?_⟩
      have sm5 := sm4.trans s5
      -- the signs
      refine ⟨_, rfl, 2, (n : Int), rfl, rfl, .inl ⟨by decide, by decide⟩, 2 * (n : Int), rfl, by omega, by omega, fun D nD => ?_⟩
      refine lc_range (lo := 0) (n := 2 * n) (fun k H' => Same H5 H' ∧ H' D = some (.lst (((rowOf co n i).take k).map fun b => V.str (sgn b)))) ⟨same_upd nD, upd_same⟩ ?_ ?_
      · rintro k H6 hk ⟨sm6, eD⟩
        obtain ⟨b, hb⟩ : ∃ b, (rowOf co n i)[k]? = some b := ⟨_, List.getElem?_eq_getElem (by rw [hlen2]; exact hk)⟩
        refine ⟨rfl, ?_⟩
        unfold tYes
        refine iteT ?_
        refine ⟨_, rfl, _, rfl, _, rfl, _, rfl, n, i, k, co, b, ?_, by omega, hco, hi, hb, fun H7 s7 => ?_⟩
        · show [V.int (n : Int), V.int (i : Int), V.int (0 + (k : Int)), cV co] = _
          rw [Int.zero_add]
        refine ⟨_, s7 _ _ eD, szl ?_, same_updN (sm6.trans s7) nD, ?_⟩
        · rw [List.length_map, List.length_take]
          omega
        · rw [upd_same, take_snoc hb, List.map_append]
          rfl
      · rintro H6 ⟨sm6, eD⟩
        rw [List.take_of_length_le (by rw [hlen2]; exact Nat.le_refl _)] at eD
        have em : ((rowOf co n i).map fun b => V.str (sgn b)) = ((rowOf co n i).map sgn).map V.str := by rw [List.map_map]; rfl
        rw [em] at eD
        refine ⟨⟨_, rfl⟩, .ref D, rfl, _, D, (rowOf co n i).map sgn, rfl, rfl, .inl (.inl (.inl eD)), ?_, _, rfl, ?_⟩
        · rw [sgn_sum, hlen2]
          show 2 * n + _ * 0 ≤ 16777216
          omega
        rw [join_signs]
        refine ⟨rfl, _, rfl, iteNS rfl ?_⟩
        have sm7 := sm5.trans sm6
        -- next
        refine ⟨_, rfl, _, rfl, rowOf co n i, co, n, rfl, hco, hh, by omega, fun H7 s7 => ?_⟩
        have ep7 := (sm7.trans s7) _ _ ep
        refine ⟨.ref p, rfl, sz (show 1 ≤ 1000000 by decide), fun p3 np3 => ?_⟩
        have n3 : p ≠ p3 := ne_of_none ep7 np3
        refine ⟨p, p3, _, _, rfl, rfl, by rw [upd_ne n3]; exact ep7, upd_same, sz (by rw [hxl]; show _ + 1 ≤ _; omega), fun p4 np4 => ?_⟩
        have enext : (ys.map V.str ++ [V.non])[i + 1]? = some (nextV co n (rowOf co n i)) := by
          unfold nextV
          rw [hrk]
          by_cases hb : i + 1 < cntc co n
          · rw [if_pos hb, List.getElem?_append_left (by rw [hxl]; exact hb), hat _ hb]
          · rw [if_neg hb, List.getElem?_append_right (by rw [hxl]; omega), hxl, show i + 1 - cntc co n = 0 by omega]
            rfl
        have sc1 : scal (nextV co n (rowOf co n i)) (nextV co n (rowOf co n i)) = true := by
          unfold nextV
          split <;> rfl
        refine ⟨_, rfl, _, 1, rfl, rfl, p4, _, _, _, rfl, rfl, .inl (.inl upd_same), at_of (j := i + 1) rfl enext, sc1, _, rfl, iteNS rfl ?_⟩
        have sm8 : Same H7 (upd (upd H7 p3 (.lst [.non])) p4 (.lst (ys.map V.str ++ [V.non]))) := (same_upd np3).trans (same_upd np4)
        -- ahead
        refine ⟨_, rfl, _, rfl, rowOf co n i, co, n, rfl, hco, hh, by omega, fun H8 s8 => ?_⟩
        have ep8 := s8 _ _ (sm8 _ _ ep7)
        refine ⟨sz (show 1 ≤ 1000000 by decide), fun p5 np5 => ?_⟩
        have n5 : p ≠ p5 := ne_of_none ep8 np5
        refine ⟨.ref p, rfl, p5, p, _, _, rfl, rfl, upd_same, by rw [upd_ne n5]; exact ep8, sz (by rw [hxl]; show 1 + _ ≤ _; omega), fun p6 np6 => ?_⟩
        have eahead : ([V.non] ++ ys.map V.str)[i]? = some (aheadV co n (rowOf co n i)) := by
          unfold aheadV
          rw [hrk]
          by_cases hb : 0 < i
          · rw [if_pos hb, List.getElem?_append_right (by show 1 ≤ i; omega)]
            exact hat (i - 1) (by omega)
          · have : i = 0 := by omega
            rw [if_neg hb, this]
            rfl
        have sc2 : scal (aheadV co n (rowOf co n i)) (aheadV co n (rowOf co n i)) = true := by
          unfold aheadV
          split <;> rfl
        refine ⟨_, rfl, p6, _, _, _, rfl, rfl, .inl (.inl upd_same), atI_nat eahead, sc2, _, rfl, iteNS rfl ?_⟩
        have sm9 : Same H8 (upd (upd H8 p5 (.lst [.non])) p6 (.lst ([V.non] ++ ys.map V.str))) := (same_upd np5).trans (same_upd np6)
        have smA : Same H1 (upd (upd H8 p5 (.lst [.non])) p6 (.lst ([V.non] ++ ys.map V.str))) := ((((sm7.trans s7).trans sm8).trans s8).trans sm9)
        cases co with
        | some k =>
          refine ⟨_, rfl, false, rfl, ?_⟩
          refine iteF ?_
          refine iteF ?_
          refine ⟨_, rfl, false, rfl, ?_⟩
          refine iteF ?_
          refine iteF ?_
          exact ⟨_, _, _, _, rfl, smA⟩
        | none =>
          refine ⟨.non, rfl, true, rfl, ?_⟩
          refine iteT ?_
          refine ⟨_, rfl, rowOf none n i, none, n, rfl, trivial, hh, by omega, fun H9 s9 => ?_⟩
          rw [hrk]
          refine ⟨_, rfl, rfl, _, rfl, iteNS rfl ?_⟩
          refine ⟨_, rfl, _, rfl, n, i, none, rfl, by omega, trivial, hi, fun HA sA => ⟨_, rfl, rfl, _, rfl, iteNS rfl ?_⟩⟩
          refine ⟨.non, rfl, true, rfl, ?_⟩
          refine iteT ?_
          refine ⟨_, rfl, rowOf none n i, none, n, rfl, trivial, hh, by omega, fun HB sB => ?_⟩
          refine ⟨_, rfl, rowOf none n i, none, n, rfl, trivial, hh, by omega, fun HC sC => ⟨sc1, _, rfl, iteNS rfl ?_⟩⟩
          exact ⟨_, _, _, _, rfl, (((smA.trans s9).trans sA).trans sB).trans sC⟩
    · rintro σ H3 ⟨y5, y6, y7, y8, rfl, sm3⟩
      exact q _
end
end Hr
/-! ### what the top has written -/
namespace Hr
open PySem PySem.Spec PyProof.Rows L2
theorem all_mk {l : PySem.W.OpenLaw} {w : World} {K : PySem.W.Frag} {h : Heap} {mg : Str → Option Value} {fa f : Addr} (X : K.In h) (G : h.Ns mainGlobals mg) (hfa : mg "law" = some (.ref fa))
    {od an : Option Addr} {sl : Array (Option Value)} {oc kV dc pm cd ct : Value} {tk_MOST_UPS tk_MOST_HEIGHT tk_UP tk_DOWN : Tok} 
    (a : PySem.W.nsIn K mainGlobals "law" = some (some (.ref f))) (l1 : K.lookup f = some ⟨oc, od, .func (PySem.W.fnOf "law" "law" (defArgs sLaw) (defBody sLaw) (defScope sLaw) .none kV dc pm an cd ct), sl⟩) (c : PySem.W.codeIn K cd "law" = true) (k : PySem.W.keepIn K (.ref f) = true)
    (d_hill_table : Def K mg "hill_table" sHill ["n", "ceiling"])
    (d_ways_table : Def K mg "ways_table" sTable ["left", "top"])
    (d_with_one_more_sign : Def K mg "with_one_more_sign" sStep ["found"])
    (d_lower_of : Def K mg "lower_of" sLow ["height", "ceiling"])
    (d_check_ceiling : Def K mg "check_ceiling" sChCei ["ceiling"])
    (d_heights : Def K mg "heights" sHeights ["row"])
    (d_is_row : Def K mg "is_row" sIsRow ["text"])
    (d_row_beside : Def K mg "row_beside" sBeside ["row", "ceiling", "step"])
    (d_number_of : Def K mg "number_of" sNumOf ["row", "table"])
    (d_row_of_number : Def K mg "row_of_number" sOfNum ["r", "table"])
    (d_ways_down : Def K mg "ways_down" sDown ["table", "height", "left"])
    (d_row_count : Def K mg "row_count" sCount ["table"])
    (d_law_mixed : Def K mg "_law_mixed" sMixed ["_law_cell", "_law_k"])
    (d_law_number : Def K mg "_law_number" sNumber ["_law_script", "_law_k"])
    (d_law_all : Def K mg "_law_all" sAll ["_law_n", "_law_ceiling"])
    (d_counted : DefD K mg "counted" sCounted ["n", "ceiling"])
    (d_is_hill : DefD K mg "is_hill" sIsHill ["row", "ceiling"])
    (d_rank : DefD K mg "rank" sRank ["row", "ceiling"])
    (d_row_at : DefD K mg "row_at" sRowAt ["n", "r", "ceiling"])
    (d_sign_at : DefD K mg "sign_at" sSignAt ["n", "r", "place", "ceiling"])
    (d_next_row : DefD K mg "next_row" sNext ["row", "ceiling"])
    (d_ahead_row : DefD K mg "ahead_row" sAhead ["row", "ceiling"])
    (d_check_hill : DefD K mg "check_hill" sChHill ["row", "ceiling"])
    (d_is_number : DefV K mg "is_number" sIsNum ["value", "most", "least"] (.int 0))
    (d_check_number : DefV K mg "check_number" sChNum ["value", "most", "least"] (.int 0))
    (g_MOST_UPS : PySem.W.nsIn K mainGlobals "MOST_UPS" = some (some (.int 200 tk_MOST_UPS)))
    (g_MOST_HEIGHT : PySem.W.nsIn K mainGlobals "MOST_HEIGHT" = some (some (.int 200 tk_MOST_HEIGHT)))
    (g_UP : PySem.W.nsIn K mainGlobals "UP" = some (some (.str "u" tk_UP)))
    (g_DOWN : PySem.W.nsIn K mainGlobals "DOWN" = some (some (.str "d" tk_DOWN)))
    (z_len : PySem.W.nsIn K mainGlobals "len" = some none)
    (z_range : PySem.W.nsIn K mainGlobals "range" = some none)
    (z_min : PySem.W.nsIn K mainGlobals "min" = some none)
    (z_max : PySem.W.nsIn K mainGlobals "max" = some none)
    (z_isinstance : PySem.W.nsIn K mainGlobals "isinstance" = some none)
    (z_int : PySem.W.nsIn K mainGlobals "int" = some none)
    (z_bool : PySem.W.nsIn K mainGlobals "bool" = some none)
    (z_str : PySem.W.nsIn K mainGlobals "str" = some none)
    (z_all : PySem.W.nsIn K mainGlobals "all" = some none)
    (z_reversed : PySem.W.nsIn K mainGlobals "reversed" = some none)
    (z_sorted : PySem.W.nsIn K mainGlobals "sorted" = some none)
    : ∃ fd : FuncData, (∀ (s : Shared) (v : Value), BindsTo s fd ⟨[v], []⟩ [("_law_script", v)]) ∧ ∀ base : Heap, K.In base → base.Ns mainGlobals mg → FnOk l.prog w K mg base CX0 7 fa fd ["_law_script"] (spLaw K) := by
  have e := hfa.symm.trans (PySem.W.mg_of X G a)
  cases e
  have F := fun_mk (st := sLaw) l1 c k
  refine ⟨PySem.W.fnOf "law" "law" (defArgs sLaw) (defBody sLaw) (defScope sLaw) .none kV dc pm an cd ct, fun s v => .of_eq rfl, fun base _ _ => ?_⟩
  have m_len := PySem.W.mg_none_of X G z_len
  have m_range := PySem.W.mg_none_of X G z_range
  have m_min := PySem.W.mg_none_of X G z_min
  have m_max := PySem.W.mg_none_of X G z_max
  have m_isinstance := PySem.W.mg_none_of X G z_isinstance
  have m_int := PySem.W.mg_none_of X G z_int
  have m_bool := PySem.W.mg_none_of X G z_bool
  have m_str := PySem.W.mg_none_of X G z_str
  have m_all := PySem.W.mg_none_of X G z_all
  have m_reversed := PySem.W.mg_none_of X G z_reversed
  have m_sorted := PySem.W.mg_none_of X G z_sorted
  have c_MOST_UPS := PySem.W.mg_of X G g_MOST_UPS
  have c_MOST_HEIGHT := PySem.W.mg_of X G g_MOST_HEIGHT
  have c_UP := PySem.W.mg_of X G g_UP
  have c_DOWN := PySem.W.mg_of X G g_DOWN
  have cLow := cal_low (P := l.prog) (w := w) (base := base) d_lower_of m_min
  obtain ⟨cIsNumA, cIsNum⟩ := cal_isNum (P := l.prog) (w := w) (base := base) d_is_number m_isinstance m_int m_bool
  obtain ⟨cChNumA, cChNum⟩ := cal_chNum d_check_number cIsNumA
  have cChCei := cal_chCei d_check_ceiling cChNum c_MOST_HEIGHT
  have cStep := cal_step (P := l.prog) (w := w) (base := base) d_with_one_more_sign m_len m_range
  have cTable := cal_table d_ways_table cStep m_range
  have cHill := cal_hill d_hill_table cTable cLow
  obtain ⟨cC1, cC2⟩ := cal_counted d_counted cHill cChNum cChCei c_MOST_UPS
  have cIsRow := cal_isRow (P := l.prog) (w := w) (base := base) d_is_row m_isinstance m_str m_all c_UP c_DOWN
  have cHeights := cal_heights d_heights cIsRow c_UP
  obtain ⟨cIsHill, cIsHill1⟩ := cal_isHill d_is_hill cIsRow cHeights m_min m_max
  obtain ⟨cChHill, cChHill1⟩ := cal_chHill d_check_hill cIsHill
  have cDown := cal_down (P := l.prog) (w := w) (base := base) d_ways_down
  have cCount := cal_count (P := l.prog) (w := w) (base := base) d_row_count
  have cNumOf := cal_numOf d_number_of cDown m_len c_UP
  have cOfNum := cal_ofNum d_row_of_number cDown m_len m_range m_reversed c_UP c_DOWN
  obtain ⟨cRank, cRank1⟩ := cal_rank d_rank cChCei cChHill cHill cNumOf m_len
  obtain ⟨cRowAt, cRowAt1⟩ := cal_rowAt d_row_at cChNum cChCei cIsNum cHill cOfNum cCount c_MOST_UPS
  obtain ⟨cSign, cSign1⟩ := cal_signAt d_sign_at cRowAt cIsNum m_len
  have cBeside := cal_beside d_row_beside cChCei cChHill cHill cNumOf cIsNum cOfNum cCount m_len
  obtain ⟨cNext, cNext1⟩ := cal_next d_next_row cBeside
  obtain ⟨cAhead, cAhead1⟩ := cal_ahead d_ahead_row cBeside
  have cMixed := cal_mixed (P := l.prog) (w := w) (base := base) d_law_mixed
  have cNum := cal_number d_law_number cMixed m_len
  have cAll := cal_all (P := l.prog) (w := w) (base := base) d_law_all m_range
  exact ok_law F cC1 cNum cAll cRowAt cRowAt1 cRank cRank1 cSign cNext cNext1 cAhead m_len m_range m_sorted
end Hr
open PySem PySem.W PyProof.Rows
set_option maxHeartbeats 0 in
theorem PySem.Challenge.cw_hillrows_k04_whole_all_in_order_holds : PySem.Challenge.rw_hillrows_k04_whole_all_in_order.Holds := by
  w_on; o_law; k_head; (case hw => w_witness2)
  k_fill
  refine L2.walk_of (l := PySem.Challenge.rw_hillrows_k04_whole_all_in_order) (n := 63) (k := 7) (x := "_law_script") (CX := fun _ => L2.CX0) (sp := fun w => Hr.spLaw _) rfl (by decide) rfl ⟨rfl, by decide, by decide⟩ (fun w h Y => PySem.W.kIn_of Y) ?F (fun _ _ a ns hl _ hS => ⟨a, ns, rfl, hS, hl, fun _ => rfl⟩) (fun _ _ _ _ _ h => h)
  case F =>
    intro w mg fa h KX G hmg
    refine' Hr.all_mk KX G hmg ?a ?l1 ?c ?k ?d_hill_table ?d_ways_table ?d_with_one_more_sign ?d_lower_of ?d_check_ceiling ?d_heights ?d_is_row ?d_row_beside ?d_number_of ?d_row_of_number ?d_ways_down ?d_row_count ?d_law_mixed ?d_law_number ?d_law_all ?d_counted ?d_is_hill ?d_rank ?d_row_at ?d_sign_at ?d_next_row ?d_ahead_row ?d_check_hill ?d_is_number ?d_check_number ?g_MOST_UPS ?g_MOST_HEIGHT ?g_UP ?g_DOWN ?z_len ?z_range ?z_min ?z_max ?z_isinstance ?z_int ?z_bool ?z_str ?z_all ?z_reversed ?z_sorted
    (case a => k_is); (case l1 => k_is); (case c => k_is); (case k => k_is)
    case d_hill_table =>
      refine' Hr.def_mk KX G (fun _ _ _ _ _ _ us hl => match us, hl with | [_, _], _ => rfl) ?a ?l ?c ?k
      (case a => k_is); (case l => k_is); (case c => k_is); (case k => k_is)
    case d_ways_table =>
      refine' Hr.def_mk KX G (fun _ _ _ _ _ _ us hl => match us, hl with | [_, _], _ => rfl) ?a ?l ?c ?k
      (case a => k_is); (case l => k_is); (case c => k_is); (case k => k_is)
    case d_with_one_more_sign =>
      refine' Hr.def_mk KX G (fun _ _ _ _ _ _ us hl => match us, hl with | [_], _ => rfl) ?a ?l ?c ?k
      (case a => k_is); (case l => k_is); (case c => k_is); (case k => k_is)
    case d_lower_of =>
      refine' Hr.def_mk KX G (fun _ _ _ _ _ _ us hl => match us, hl with | [_, _], _ => rfl) ?a ?l ?c ?k
      (case a => k_is); (case l => k_is); (case c => k_is); (case k => k_is)
    case d_check_ceiling =>
      refine' Hr.def_mk KX G (fun _ _ _ _ _ _ us hl => match us, hl with | [_], _ => rfl) ?a ?l ?c ?k
      (case a => k_is); (case l => k_is); (case c => k_is); (case k => k_is)
    case d_heights =>
      refine' Hr.def_mk KX G (fun _ _ _ _ _ _ us hl => match us, hl with | [_], _ => rfl) ?a ?l ?c ?k
      (case a => k_is); (case l => k_is); (case c => k_is); (case k => k_is)
    case d_is_row =>
      refine' Hr.def_mk KX G (fun _ _ _ _ _ _ us hl => match us, hl with | [_], _ => rfl) ?a ?l ?c ?k
      (case a => k_is); (case l => k_is); (case c => k_is); (case k => k_is)
    case d_row_beside =>
      refine' Hr.def_mk KX G (fun _ _ _ _ _ _ us hl => match us, hl with | [_, _, _], _ => rfl) ?a ?l ?c ?k
      (case a => k_is); (case l => k_is); (case c => k_is); (case k => k_is)
    case d_number_of =>
      refine' Hr.def_mk KX G (fun _ _ _ _ _ _ us hl => match us, hl with | [_, _], _ => rfl) ?a ?l ?c ?k
      (case a => k_is); (case l => k_is); (case c => k_is); (case k => k_is)
    case d_row_of_number =>
      refine' Hr.def_mk KX G (fun _ _ _ _ _ _ us hl => match us, hl with | [_, _], _ => rfl) ?a ?l ?c ?k
      (case a => k_is); (case l => k_is); (case c => k_is); (case k => k_is)
    case d_ways_down =>
      refine' Hr.def_mk KX G (fun _ _ _ _ _ _ us hl => match us, hl with | [_, _, _], _ => rfl) ?a ?l ?c ?k
      (case a => k_is); (case l => k_is); (case c => k_is); (case k => k_is)
    case d_row_count =>
      refine' Hr.def_mk KX G (fun _ _ _ _ _ _ us hl => match us, hl with | [_], _ => rfl) ?a ?l ?c ?k
      (case a => k_is); (case l => k_is); (case c => k_is); (case k => k_is)
    case d_law_mixed =>
      refine' Hr.def_mk KX G (fun _ _ _ _ _ _ us hl => match us, hl with | [_, _], _ => rfl) ?a ?l ?c ?k
      (case a => k_is); (case l => k_is); (case c => k_is); (case k => k_is)
    case d_law_number =>
      refine' Hr.def_mk KX G (fun _ _ _ _ _ _ us hl => match us, hl with | [_, _], _ => rfl) ?a ?l ?c ?k
      (case a => k_is); (case l => k_is); (case c => k_is); (case k => k_is)
    case d_law_all =>
      refine' Hr.def_mk KX G (fun _ _ _ _ _ _ us hl => match us, hl with | [_, _], _ => rfl) ?a ?l ?c ?k
      (case a => k_is); (case l => k_is); (case c => k_is); (case k => k_is)
    case d_counted =>
      refine' Hr.defD_mk (m := 1) KX G rfl (fun _ _ _ _ _ _ _ us its hu hi => match us, hu, its, hi with | [_, _], _, [_], _ => ⟨_, rfl, rfl⟩) (fun _ _ _ _ _ _ _ us its hu hi => match us, hu, its, hi with | [_], _, [_], _ => ⟨_, rfl, rfl⟩) ?a ?l ?c ?k ?t
      (case a => k_is); (case l => k_is); (case c => k_is); (case k => k_is); (case t => k_is)
    case d_is_hill =>
      refine' Hr.defD_mk (m := 1) KX G rfl (fun _ _ _ _ _ _ _ us its hu hi => match us, hu, its, hi with | [_, _], _, [_], _ => ⟨_, rfl, rfl⟩) (fun _ _ _ _ _ _ _ us its hu hi => match us, hu, its, hi with | [_], _, [_], _ => ⟨_, rfl, rfl⟩) ?a ?l ?c ?k ?t
      (case a => k_is); (case l => k_is); (case c => k_is); (case k => k_is); (case t => k_is)
    case d_rank =>
      refine' Hr.defD_mk (m := 1) KX G rfl (fun _ _ _ _ _ _ _ us its hu hi => match us, hu, its, hi with | [_, _], _, [_], _ => ⟨_, rfl, rfl⟩) (fun _ _ _ _ _ _ _ us its hu hi => match us, hu, its, hi with | [_], _, [_], _ => ⟨_, rfl, rfl⟩) ?a ?l ?c ?k ?t
      (case a => k_is); (case l => k_is); (case c => k_is); (case k => k_is); (case t => k_is)
    case d_row_at =>
      refine' Hr.defD_mk (m := 2) KX G rfl (fun _ _ _ _ _ _ _ us its hu hi => match us, hu, its, hi with | [_, _, _], _, [_], _ => ⟨_, rfl, rfl⟩) (fun _ _ _ _ _ _ _ us its hu hi => match us, hu, its, hi with | [_, _], _, [_], _ => ⟨_, rfl, rfl⟩) ?a ?l ?c ?k ?t
      (case a => k_is); (case l => k_is); (case c => k_is); (case k => k_is); (case t => k_is)
    case d_sign_at =>
      refine' Hr.defD_mk (m := 3) KX G rfl (fun _ _ _ _ _ _ _ us its hu hi => match us, hu, its, hi with | [_, _, _, _], _, [_], _ => ⟨_, rfl, rfl⟩) (fun _ _ _ _ _ _ _ us its hu hi => match us, hu, its, hi with | [_, _, _], _, [_], _ => ⟨_, rfl, rfl⟩) ?a ?l ?c ?k ?t
      (case a => k_is); (case l => k_is); (case c => k_is); (case k => k_is); (case t => k_is)
    case d_next_row =>
      refine' Hr.defD_mk (m := 1) KX G rfl (fun _ _ _ _ _ _ _ us its hu hi => match us, hu, its, hi with | [_, _], _, [_], _ => ⟨_, rfl, rfl⟩) (fun _ _ _ _ _ _ _ us its hu hi => match us, hu, its, hi with | [_], _, [_], _ => ⟨_, rfl, rfl⟩) ?a ?l ?c ?k ?t
      (case a => k_is); (case l => k_is); (case c => k_is); (case k => k_is); (case t => k_is)
    case d_ahead_row =>
      refine' Hr.defD_mk (m := 1) KX G rfl (fun _ _ _ _ _ _ _ us its hu hi => match us, hu, its, hi with | [_, _], _, [_], _ => ⟨_, rfl, rfl⟩) (fun _ _ _ _ _ _ _ us its hu hi => match us, hu, its, hi with | [_], _, [_], _ => ⟨_, rfl, rfl⟩) ?a ?l ?c ?k ?t
      (case a => k_is); (case l => k_is); (case c => k_is); (case k => k_is); (case t => k_is)
    case d_check_hill =>
      refine' Hr.defD_mk (m := 1) KX G rfl (fun _ _ _ _ _ _ _ us its hu hi => match us, hu, its, hi with | [_, _], _, [_], _ => ⟨_, rfl, rfl⟩) (fun _ _ _ _ _ _ _ us its hu hi => match us, hu, its, hi with | [_], _, [_], _ => ⟨_, rfl, rfl⟩) ?a ?l ?c ?k ?t
      (case a => k_is); (case l => k_is); (case c => k_is); (case k => k_is); (case t => k_is)
    case d_is_number =>
      refine' Hr.defV_mk (m := 2) KX G rfl (fun _ _ _ _ _ _ _ us its hu hi => match us, hu, its, hi with | [_, _, _], _, [_], _ => ⟨_, rfl, rfl⟩) (fun _ _ _ _ _ _ _ us its hu hi => match us, hu, its, hi with | [_, _], _, [_], _ => ⟨_, rfl, rfl⟩) ?a ?l ?c ?k ?hu ?t
      (case a => k_is); (case l => k_is); (case c => k_is); (case k => k_is); (case t => k_is); (case hu => exact ⟨_, rfl⟩)
    case d_check_number =>
      refine' Hr.defV_mk (m := 2) KX G rfl (fun _ _ _ _ _ _ _ us its hu hi => match us, hu, its, hi with | [_, _, _], _, [_], _ => ⟨_, rfl, rfl⟩) (fun _ _ _ _ _ _ _ us its hu hi => match us, hu, its, hi with | [_, _], _, [_], _ => ⟨_, rfl, rfl⟩) ?a ?l ?c ?k ?hu ?t
      (case a => k_is); (case l => k_is); (case c => k_is); (case k => k_is); (case t => k_is); (case hu => exact ⟨_, rfl⟩)
    (case g_MOST_UPS => k_is)
    (case g_MOST_HEIGHT => k_is)
    (case g_UP => k_is)
    (case g_DOWN => k_is)
    (case z_len => k_is)
    (case z_range => k_is)
    (case z_min => k_is)
    (case z_max => k_is)
    (case z_isinstance => k_is)
    (case z_int => k_is)
    (case z_bool => k_is)
    (case z_str => k_is)
    (case z_all => k_is)
    (case z_reversed => k_is)
    (case z_sorted => k_is)
