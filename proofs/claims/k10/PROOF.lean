import PyProof.Rows.All
import Wide.All
import OpenK.AllK
import Wide.FinOn
import HandS.ForMost
import HandS.IsInst
import HandS.Defaults
import HandS.Walk
import HandS.Codes
import HandS.RevRange
import HandS.ForExc
import KE.GoesMore
import HandS.ExcIs
import HandS.RaiseMore
import HandS.FStr
import HandS.ExcValue
import KE.RegKIsAll
import PySem.Challenge.RW_hillrows_k10_whole_turnings
set_option Elab.async false
set_option linter.all false
set_option maxRecDepth 100000
namespace Hr
/-- the ways to the ground with k signs from the height h, none above T (for h at most T) -/
def W (T : Nat) : Nat → Nat → Nat
  | 0, h => if h = 0 then 1 else 0
  | k + 1, h => (if h = 0 then 0 else W T k (h - 1)) + (if h < T then W T k (h + 1) else 0)
theorem W_zero (T : Nat) : ∀ k h, k < h → W T k h = 0
  | 0, h, e => by
    unfold W
    rw [if_neg (by omega)]
  | k + 1, h, e => by
    unfold W
    rw [if_neg (show ¬ h = 0 by omega), W_zero T k (h - 1) (by omega), W_zero T k (h + 1) (by omega)]
    split <;> rfl
theorem W_same {T T' : Nat} (hT : T ≤ T') : ∀ k h, h ≤ T → k + h ≤ 2 * T + 1 → W T k h = W T' k h
  | 0, h, _, _ => by simp only [W]
  | k + 1, h, e, l => by
    simp only [W]
    by_cases h0 : h = 0
    · rw [if_pos h0, if_pos h0]
      by_cases hl : h < T
      · rw [if_pos hl, if_pos (show h < T' by omega), W_same hT k (h + 1) (by omega) (by omega)]
      · rw [if_neg hl]
        by_cases hl' : h < T'
        · rw [if_pos hl', W_zero T' k (h + 1) (by omega)]
        · rw [if_neg hl']
    · rw [if_neg h0, if_neg h0, W_same hT k (h - 1) (by omega) (by omega)]
      by_cases hl : h < T
      · rw [if_pos hl, if_pos (show h < T' by omega), W_same hT k (h + 1) (by omega) (by omega)]
      · rw [if_neg hl]
        by_cases hl' : h < T'
        · rw [if_pos hl', W_zero T' k (h + 1) (by omega)]
        · rw [if_neg hl']
/-- one row of the table -/
def rowW (T k : Nat) : List Int := (List.range (T + 1)).map fun h => ((W T k h : Nat) : Int)
theorem rowW_len (T k : Nat) : (rowW T k).length = T + 1 := by
  unfold rowW
  rw [List.length_map, List.length_range]
theorem rowW_get {T k h : Nat} (e : h ≤ T) : (rowW T k)[h]? = some ((W T k h : Nat) : Int) := by
  unfold rowW
  rw [List.getElem?_map, List.getElem?_range (by omega)]
  rfl
theorem rowW_zero (T : Nat) : rowW T 0 = 1 :: List.replicate T 0 := by
  unfold rowW
  apply List.ext_getElem?
  intro i
  rw [List.getElem?_map]
  cases i with
  | zero => rw [List.getElem?_range (by omega)]; rfl
  | succ i =>
    rw [List.getElem?_cons_succ]
    by_cases h : i < T
    · rw [List.getElem?_range (by omega), List.getElem?_replicate, if_pos h]
      rfl
    · rw [List.getElem?_eq_none (by rw [List.length_range]; omega), List.getElem?_replicate, if_neg h]
      rfl
/-- the padded row -/
def padW (l : List Int) : List Int := 0 :: (l ++ [0])
theorem pad_lo {T k h : Nat} (e : h ≤ T) : (padW (rowW T k))[h]? = some (((if h = 0 then 0 else W T k (h - 1) : Nat)) : Int) := by
  unfold padW
  cases h with
  | zero => rfl
  | succ h =>
    rw [List.getElem?_cons_succ, List.getElem?_append_left (by rw [rowW_len]; omega), rowW_get (by omega)]
    rfl
theorem pad_hi {T k h : Nat} (e : h ≤ T) : (padW (rowW T k))[h + 2]? = some (((if h < T then W T k (h + 1) else 0 : Nat)) : Int) := by
  unfold padW
  rw [List.getElem?_cons_succ]
  by_cases hl : h < T
  · rw [List.getElem?_append_left (by rw [rowW_len]; omega), rowW_get (by omega), if_pos hl]
  · have e : h = T := by omega
    subst e
    rw [List.getElem?_append_right (by rw [rowW_len]; omega), rowW_len, Nat.sub_self, if_neg hl]
    rfl
theorem row_step {T k h : Nat} (e : h ≤ T) : ∃ a b : Int, (padW (rowW T k))[h]? = some a ∧ (padW (rowW T k))[h + 2]? = some b ∧ (rowW T (k + 1))[h]? = some (a + b) := by
  refine ⟨_, _, pad_lo e, pad_hi e, ?_⟩
  rw [rowW_get e]
  simp only [W]
  rw [Int.natCast_add]
theorem W_le (T : Nat) : ∀ k h, W T k h ≤ 2 ^ k
  | 0, h => by
    unfold W
    split <;> decide
  | k + 1, h => by
    have a := W_le T k (h - 1)
    have b := W_le T k (h + 1)
    unfold W
    rw [Nat.pow_succ]
    split <;> split <;> omega

/-! ### hill rows by growing beginnings -/
section
variable {α : Type} (d u : α → α)
/-- the ceiling: none or some k -/
def under : Option Nat → Nat → Bool
  | none, _ => true
  | some c, h => decide (h < c)
def low (h : Nat) : Option Nat → Nat
  | none => h
  | some c => min h c
def grow1 (c : Option Nat) (p : α × Nat) : List (α × Nat) :=
  (if 0 < p.2 then [(d p.1, p.2 - 1)] else []) ++ (if under c p.2 = true then [(u p.1, p.2 + 1)] else [])
def growAll (c : Option Nat) (l : List (α × Nat)) : List (α × Nat) := l.flatMap (grow1 d u c)
def grown (c : Option Nat) (a : α) : Nat → List (α × Nat)
  | 0 => [(a, 0)]
  | k + 1 => growAll d u c (grown c a k)
def cnt (h : Nat) (l : List (α × Nat)) : Nat := (l.filter fun p => p.2 == h).length
theorem cnt_nil (h : Nat) : cnt h ([] : List (α × Nat)) = 0 := rfl
theorem cnt_append (h : Nat) (l r : List (α × Nat)) : cnt h (l ++ r) = cnt h l + cnt h r := by
  unfold cnt
  rw [List.filter_append, List.length_append]
theorem cnt_one (h : Nat) (a : α) (k : Nat) : cnt h [(a, k)] = if k = h then 1 else 0 := by
  unfold cnt
  by_cases e : k = h
  · rw [if_pos e, List.filter_cons_of_pos (by simp [e])]
    rfl
  · rw [if_neg e, List.filter_cons_of_neg (by simp [e])]
    rfl
theorem cnt_cons (h : Nat) (p : α × Nat) (l : List (α × Nat)) : cnt h (p :: l) = (if p.2 = h then 1 else 0) + cnt h l := by
  rw [← List.singleton_append, cnt_append, show cnt h [p] = if p.2 = h then 1 else 0 from cnt_one h p.1 p.2]
theorem cnt_grow1 (c : Option Nat) (h : Nat) (p : α × Nat) : cnt h (grow1 d u c p) = (if p.2 = h + 1 then 1 else 0) + (if 0 < h ∧ under c (h - 1) = true ∧ p.2 = h - 1 then 1 else 0) := by
  unfold grow1
  rw [cnt_append]
  congr 1
  · by_cases e : 0 < p.2
    · rw [if_pos e, cnt_one]
      by_cases e2 : p.2 = h + 1
      · rw [if_pos e2, if_pos (by omega)]
      · rw [if_neg e2, if_neg (by omega)]
    · rw [if_neg e, cnt_nil, if_neg (by omega)]
  · by_cases e : under c p.2 = true
    · rw [if_pos e, cnt_one]
      by_cases e2 : p.2 + 1 = h
      · have : h - 1 = p.2 := by omega
        rw [if_pos e2, if_pos ⟨by omega, by rw [this]; exact e, by omega⟩]
      · rw [if_neg e2, if_neg (by omega)]
    · rw [if_neg e, cnt_nil]
      by_cases e2 : 0 < h ∧ under c (h - 1) = true ∧ p.2 = h - 1
      · rw [← e2.2.2] at e2
        exact absurd e2.2.1 e
      · rw [if_neg e2]
theorem cnt_growAll (c : Option Nat) (h : Nat) : ∀ l : List (α × Nat), cnt h (growAll d u c l) = cnt (h + 1) l + (if 0 < h ∧ under c (h - 1) = true then cnt (h - 1) l else 0)
  | [] => by
    show 0 = 0 + (if _ then 0 else 0)
    split <;> rfl
  | p :: l => by
    have e : growAll d u c (p :: l) = grow1 d u c p ++ growAll d u c l := rfl
    rw [e, cnt_append, cnt_grow1, cnt_growAll c h l, cnt_cons, cnt_cons]
    by_cases e1 : 0 < h ∧ under c (h - 1) = true
    · rw [if_pos e1, if_pos e1]
      by_cases e2 : p.2 = h - 1
      · rw [if_pos (show 0 < h ∧ under c (h - 1) = true ∧ p.2 = h - 1 from ⟨e1.1, e1.2, e2⟩), if_pos e2]
        omega
      · rw [if_neg (show ¬ (0 < h ∧ under c (h - 1) = true ∧ p.2 = h - 1) from fun z => e2 z.2.2), if_neg e2]
        omega
    · rw [if_neg e1, if_neg e1, if_neg (show ¬ (0 < h ∧ under c (h - 1) = true ∧ p.2 = h - 1) from fun z => e1 ⟨z.1, z.2.1⟩)]
      omega
/-- no row grown in k signs is higher than k -/
theorem cnt_grown (c : Option Nat) (a : α) (T : Nat) (hT : ∀ k, c = some k → T = k) : ∀ k h, (c = none → k + h ≤ 2 * T + 1) → h ≤ T → cnt h (grown d u c a k) = W T k h
  | 0, h, _, _ => by
    show cnt h [(a, 0)] = _
    rw [cnt_one]
    unfold W
    by_cases e : h = 0
    · rw [if_pos e, if_pos e.symm]
    · rw [if_neg e, if_neg (fun z => e z.symm)]
  | k + 1, h, hc, hl => by
    show cnt h (growAll d u c (grown d u c a k)) = _
    rw [cnt_growAll]
    simp only [W]
    rw [Nat.add_comm]
    congr 1
    · by_cases e0 : h = 0
      · rw [if_pos e0, if_neg (by omega)]
      · rw [if_neg e0]
        have hu : under c (h - 1) = true := by
          cases c with
          | none => rfl
          | some k =>
            have := hT k rfl
            unfold under
            exact decide_eq_true (by omega)
        rw [if_pos ⟨by omega, hu⟩, cnt_grown c a T hT k (h - 1) (fun z => by have := hc z; omega) (by omega)]
    · by_cases e : h < T
      · rw [if_pos e, cnt_grown c a T hT k (h + 1) (fun z => by have := hc z; omega) (by omega)]
      · rw [if_neg e]
        cases c with
        | none =>
          have z := hc rfl
          exact cnt_zero_len none a k (h + 1) (by omega)
        | some j =>
          have e3 := hT j rfl
          exact cnt_zero_top2 j a k (h + 1) (by omega)
where
  cnt_zero_len (c : Option Nat) (a : α) : ∀ k h, k < h → cnt h (grown d u c a k) = 0
    | 0, h, e => by
      show cnt h [(a, 0)] = 0
      rw [cnt_one, if_neg (by omega)]
    | k + 1, h, e => by
      show cnt h (growAll d u c (grown d u c a k)) = 0
      rw [cnt_growAll, cnt_zero_len c a k (h + 1) (by omega), cnt_zero_len c a k (h - 1) (by omega)]
      split <;> rfl
  cnt_zero_top2 (j : Nat) (a : α) : ∀ k h, j < h → cnt h (grown d u (some j) a k) = 0
    | 0, h, e => by
      show cnt h [(a, 0)] = 0
      rw [cnt_one, if_neg (by omega)]
    | k + 1, h, e => by
      show cnt h (growAll d u (some j) (grown d u (some j) a k)) = 0
      rw [cnt_growAll, cnt_zero_top2 j a k (h + 1) (by omega), if_neg (fun z => ?_)]
      have := z.2
      unfold under at this
      have := of_decide_eq_true this
      omega
theorem grown_len (c : Option Nat) (a : α) : ∀ k, (grown d u c a k).length ≤ 2 ^ k
  | 0 => Nat.le_refl 1
  | k + 1 => by
    have ih := grown_len c a k
    have g : ∀ l : List (α × Nat), (growAll d u c l).length ≤ 2 * l.length := by
      intro l
      induction l with
      | nil => exact Nat.le_refl _
      | cons p l il =>
        have e : growAll d u c (p :: l) = grow1 d u c p ++ growAll d u c l := rfl
        rw [e, List.length_append, List.length_cons]
        have : (grow1 d u c p).length ≤ 2 := by
          unfold grow1
          rw [List.length_append]
          split <;> split <;> simp
        omega
    have := g (grown d u c a k)
    show (growAll d u c (grown d u c a k)).length ≤ _
    rw [Nat.pow_succ]
    omega
/-- as many as the table counts -/
theorem counted_ok (c : Option Nat) (a : α) (n : Nat) : cnt 0 (grown d u c a (2 * n)) = W (low n c) (2 * n) 0 := by
  cases c with
  | none => exact cnt_grown d u none a n (fun _ z => nomatch z) _ _ (fun _ => by omega) (Nat.zero_le _)
  | some j =>
    rw [cnt_grown d u (some j) a j (fun k z => by cases z; rfl) _ _ (fun z => nomatch z) (Nat.zero_le _)]
    show W j (2 * n) 0 = W (min n j) (2 * n) 0
    by_cases h : j ≤ n
    · rw [Nat.min_eq_right h]
    · rw [Nat.min_eq_left (by omega)]
      exact (W_same (by omega) _ _ (Nat.zero_le _) (by omega)).symm
end
end Hr
namespace Hr
/-! ### rows as lists of signs: true is up -/
/-- all rows of k signs from the height h to the ground, none above T, in order -/
def rws (T : Nat) : Nat → Nat → List (List Bool)
  | 0, h => if h = 0 then [[]] else []
  | k + 1, h => (if h = 0 then [] else (rws T k (h - 1)).map (false :: ·)) ++ (if h < T then (rws T k (h + 1)).map (true :: ·) else [])
theorem rws_len (T : Nat) : ∀ k h, (rws T k h).length = W T k h
  | 0, h => by
    unfold rws W
    split <;> rfl
  | k + 1, h => by
    unfold rws W
    rw [List.length_append]
    congr 1
    · split
      · rfl
      · rw [List.length_map, rws_len T k (h - 1)]
    · split
      · rw [List.length_map, rws_len T k (h + 1)]
      · rfl
/-- the row of a rank -/
def unrank (T : Nat) : Nat → Nat → Nat → List Bool
  | 0, _, _ => []
  | k + 1, h, r => if r < (if h = 0 then 0 else W T k (h - 1)) then false :: unrank T k (h - 1) r else true :: unrank T k (h + 1) (r - (if h = 0 then 0 else W T k (h - 1)))
/-- the ways down -/
def dn (T k h : Nat) : Nat := if h = 0 then 0 else W T k (h - 1)
theorem unrank_succ (T k h r : Nat) : unrank T (k + 1) h r = if r < dn T k h then false :: unrank T k (h - 1) r else true :: unrank T k (h + 1) (r - dn T k h) := rfl
theorem W_succ (T k h : Nat) : W T (k + 1) h = dn T k h + (if h < T then W T k (h + 1) else 0) := rfl
/-- the rank of a row that goes on from h -/
def rankOf (T : Nat) : Nat → List Bool → Nat
  | _, [] => 0
  | h, true :: l => dn T l.length h + rankOf T (h + 1) l
  | h, false :: l => rankOf T (h - 1) l
/-- a row from h to the ground under the ceiling -/
def okb (c : Option Nat) : Nat → List Bool → Bool
  | h, [] => h == 0
  | h, true :: l => under c h && okb c (h + 1) l
  | h, false :: l => (h != 0) && okb c (h - 1) l
theorem okb_up {c : Option Nat} {h : Nat} {l : List Bool} (e : okb c h (true :: l) = true) : under c h = true ∧ okb c (h + 1) l = true := by
  unfold okb at e
  exact Bool.and_eq_true_iff.mp e
theorem okb_down {c : Option Nat} {h : Nat} {l : List Bool} (e : okb c h (false :: l) = true) : h ≠ 0 ∧ okb c (h - 1) l = true := by
  unfold okb at e
  obtain ⟨a, b⟩ := Bool.and_eq_true_iff.mp e
  exact ⟨by simpa using a, b⟩
theorem okb_len {c : Option Nat} : ∀ {l : List Bool} {h : Nat}, okb c h l = true → h ≤ l.length
  | [], h, e => by
    have : h = 0 := by simpa [okb] using e
    omega
  | true :: l, h, e => by
    have := okb_len (okb_up e).2
    rw [List.length_cons]
    omega
  | false :: l, h, e => by
    have := okb_len (okb_down e).2
    rw [List.length_cons]
    omega
theorem rank_lt {T : Nat} : ∀ {l : List Bool} {h : Nat}, okb (some T) h l = true → rankOf T h l < W T l.length h
  | [], h, e => by
    have e0 : h = 0 := by simpa [okb] using e
    rw [e0]
    exact Nat.zero_lt_one
  | true :: l, h, e => by
    obtain ⟨a, b⟩ := okb_up e
    have ih := rank_lt b
    have a' : h < T := of_decide_eq_true a
    rw [List.length_cons, W_succ, if_pos a']
    show dn T l.length h + rankOf T (h + 1) l < _
    omega
  | false :: l, h, e => by
    obtain ⟨a, b⟩ := okb_down e
    have ih := rank_lt b
    rw [List.length_cons, W_succ]
    show rankOf T (h - 1) l < _
    unfold dn
    rw [if_neg a]
    omega
theorem unrank_rank {T : Nat} : ∀ {l : List Bool} {h : Nat}, okb (some T) h l = true → unrank T l.length h (rankOf T h l) = l
  | [], h, e => rfl
  | true :: l, h, e => by
    obtain ⟨a, b⟩ := okb_up e
    rw [List.length_cons, unrank_succ]
    show (if dn T l.length h + rankOf T (h + 1) l < dn T l.length h then _ else true :: unrank T l.length (h + 1) (dn T l.length h + rankOf T (h + 1) l - dn T l.length h)) = _
    rw [if_neg (by omega), Nat.add_sub_cancel_left, unrank_rank b]
  | false :: l, h, e => by
    obtain ⟨a, b⟩ := okb_down e
    have := rank_lt b
    rw [List.length_cons, unrank_succ]
    show (if rankOf T (h - 1) l < dn T l.length h then false :: unrank T l.length (h - 1) (rankOf T (h - 1) l) else _) = _
    rw [if_pos (by unfold dn; rw [if_neg a]; exact this), unrank_rank b]
theorem unrank_ok {T : Nat} : ∀ {k h r : Nat}, r < W T k h → okb (some T) h (unrank T k h r) = true ∧ (unrank T k h r).length = k ∧ rankOf T h (unrank T k h r) = r
  | 0, h, r, e => by
    unfold W at e
    by_cases h0 : h = 0
    · rw [if_pos h0] at e
      refine ⟨?_, rfl, ?_⟩
      · rw [h0]
        rfl
      · show 0 = r
        omega
    · rw [if_neg h0] at e
      omega
  | k + 1, h, r, e => by
    rw [unrank_succ]
    rw [W_succ] at e
    by_cases hr : r < dn T k h
    · rw [if_pos hr]
      have h0 : h ≠ 0 := fun z => by
        unfold dn at hr
        rw [if_pos z] at hr
        omega
      have hr' : r < W T k (h - 1) := by
        unfold dn at hr
        rw [if_neg h0] at hr
        exact hr
      obtain ⟨a, b, c⟩ := unrank_ok hr'
      refine ⟨?_, by rw [List.length_cons, b], c⟩
      unfold okb
      rw [a, Bool.and_true]
      simpa using h0
    · rw [if_neg hr]
      by_cases hT : h < T
      · rw [if_pos hT] at e
        obtain ⟨a, b, c⟩ := unrank_ok (T := T) (k := k) (h := h + 1) (r := r - dn T k h) (by omega)
        refine ⟨?_, by rw [List.length_cons, b], ?_⟩
        · unfold okb
          rw [a, Bool.and_true]
          exact decide_eq_true hT
        · show dn T _ h + rankOf T (h + 1) _ = r
          rw [b, c]
          omega
      · rw [if_neg hT] at e
        omega
theorem unrank_get {T : Nat} : ∀ {k h r : Nat}, r < W T k h → (rws T k h)[r]? = some (unrank T k h r)
  | 0, h, r, e => by
    unfold W at e
    by_cases h0 : h = 0
    · rw [if_pos h0] at e
      have : r = 0 := by omega
      rw [this, h0]
      rfl
    · rw [if_neg h0] at e
      omega
  | k + 1, h, r, e => by
    rw [unrank_succ]
    rw [W_succ] at e
    unfold rws
    have hl : (if h = 0 then [] else (rws T k (h - 1)).map (false :: ·)).length = dn T k h := by
      unfold dn
      split
      · rfl
      · rw [List.length_map, rws_len]
    by_cases hr : r < dn T k h
    · rw [if_pos hr, List.getElem?_append_left (by rw [hl]; exact hr)]
      have h0 : h ≠ 0 := fun z => by
        unfold dn at hr
        rw [if_pos z] at hr
        omega
      have hr' : r < W T k (h - 1) := by
        unfold dn at hr
        rw [if_neg h0] at hr
        exact hr
      rw [if_neg h0, List.getElem?_map, unrank_get hr']
      rfl
    · rw [if_neg hr, List.getElem?_append_right (by rw [hl]; omega), hl]
      by_cases hT : h < T
      · rw [if_pos hT] at e ⊢
        rw [List.getElem?_map, unrank_get (T := T) (k := k) (h := h + 1) (r := r - dn T k h) (by omega)]
        rfl
      · rw [if_neg hT] at e
        omega
/-- a hill row of n ups is not higher than n -/
theorem okb_low {c : Option Nat} {n : Nat} : ∀ {l : List Bool} {h : Nat}, h + l.length ≤ 2 * n → okb c h l = true → okb (some (low n c)) h l = true
  | [], h, _, e => e
  | true :: l, h, hn, e => by
    obtain ⟨a, b⟩ := okb_up e
    rw [List.length_cons] at hn
    have := okb_len b
    unfold okb
    rw [okb_low (by omega) b, Bool.and_true]
    refine decide_eq_true ?_
    cases c with
    | none => show h < n; omega
    | some k =>
      have a' : h < k := of_decide_eq_true a
      show h < min n k
      omega
  | false :: l, h, hn, e => by
    obtain ⟨a, b⟩ := okb_down e
    rw [List.length_cons] at hn
    unfold okb
    rw [okb_low (by omega) b, Bool.and_true]
    simpa using a
theorem okb_up_of {c : Option Nat} {n : Nat} : ∀ {l : List Bool} {h : Nat}, okb (some (low n c)) h l = true → okb c h l = true
  | [], h, e => e
  | true :: l, h, e => by
    obtain ⟨a, b⟩ := okb_up e
    unfold okb
    rw [okb_up_of b, Bool.and_true]
    have a' : h < low n c := of_decide_eq_true a
    cases c with
    | none => rfl
    | some k =>
      have a' : h < min n k := a'
      exact decide_eq_true (by omega)
  | false :: l, h, e => by
    obtain ⟨a, b⟩ := okb_down e
    unfold okb
    rw [okb_up_of b, Bool.and_true]
    simpa using a
/-- how many ups -/
theorem okb_ups {c : Option Nat} : ∀ {l : List Bool} {h : Nat}, okb c h l = true → h + 2 * (l.filter id).length = l.length
  | [], h, e => by
    have e0 : h = 0 := by simpa [okb] using e
    rw [e0]
    rfl
  | true :: l, h, e => by
    have := okb_ups (okb_up e).2
    rw [List.length_cons, List.filter_cons_of_pos rfl, List.length_cons]
    omega
  | false :: l, h, e => by
    obtain ⟨a, b⟩ := okb_down e
    have := okb_ups b
    rw [List.length_cons, List.filter_cons_of_neg (by simp)]
    omega
theorem okb_even {c : Option Nat} {l : List Bool} (e : okb c 0 l = true) : l.length = 2 * (l.length / 2) := by
  have := okb_ups e
  omega
/-! ### heights -/
def sg (b : Bool) : Int := if b = true then 1 else -1
def hts : Int → List Bool → List Int
  | h, [] => [h]
  | h, b :: l => h :: hts (h + sg b) l
theorem hts_len : ∀ (l : List Bool) (h : Int), (hts h l).length = l.length + 1
  | [], _ => rfl
  | b :: l, h => by
    show (hts (h + sg b) l).length + 1 = _
    rw [hts_len l]
    rfl
theorem hts_ne (h : Int) (l : List Bool) : hts h l ≠ [] := by
  cases l <;> exact List.cons_ne_nil _ _
theorem hts_append : ∀ (l r : List Bool) (h : Int), hts h (l ++ r) = (hts h l).dropLast ++ hts (h + (l.map sg).sum) r
  | [], r, h => by
    show hts h r = [] ++ hts (h + 0) r
    rw [Int.add_zero]
    rfl
  | b :: l, r, h => by
    show h :: hts (h + sg b) (l ++ r) = (h :: hts (h + sg b) l).dropLast ++ _
    rw [hts_append l r, List.dropLast_cons_of_ne_nil (hts_ne _ _), List.map_cons, List.sum_cons, ← Int.add_assoc]
    rfl
theorem hts_snoc (l : List Bool) (b : Bool) (h : Int) : hts h (l ++ [b]) = hts h l ++ [h + (l.map sg).sum + sg b] := by
  have last : ∀ (l : List Bool) (h : Int), hts h l = (hts h l).dropLast ++ [h + (l.map sg).sum] := by
    intro l h
    have := hts_append l [] h
    rw [List.append_nil] at this
    exact this
  rw [hts_append, last l h]
  rw [List.dropLast_concat, List.append_assoc]
  rfl
theorem hts_last (l : List Bool) (h : Int) : (hts h l) = (hts h l).dropLast ++ [h + (l.map sg).sum] := by
  have := hts_append l [] h
  rw [List.append_nil] at this
  exact this
/-- a hill row by its heights -/
theorem okb_iff (c : Option Nat) : ∀ (l : List Bool) (h : Nat), (∀ k, c = some k → h ≤ k) → (okb c h l = true ↔ ((h : Int) + (l.map sg).sum = 0 ∧ (∀ x ∈ hts h l, 0 ≤ x) ∧ ∀ k, c = some k → ∀ x ∈ hts h l, x ≤ (k : Int)))
  | [], h, hc => by
    show ((h == 0) = true) ↔ _
    constructor
    · intro e
      have e0 : h = 0 := by simpa using e
      subst e0
      refine ⟨rfl, fun x hx => ?_, fun k hk x hx => ?_⟩
      · have := List.mem_singleton.mp hx
        omega
      · have := List.mem_singleton.mp hx
        omega
    · rintro ⟨e, _, _⟩
      have : (h : Int) + 0 = 0 := e
      have : h = 0 := by omega
      simp [this]
  | true :: l, h, hc => by
    have e1 : hts (h : Int) (true :: l) = (h : Int) :: hts ((h + 1 : Nat) : Int) l := rfl
    have e2 : ((true :: l).map sg).sum = 1 + (l.map sg).sum := by
      rw [List.map_cons, List.sum_cons]
      rfl
    rw [e1, e2]
    constructor
    · intro e
      obtain ⟨a, b⟩ := okb_up e
      have hc' : ∀ k, c = some k → h + 1 ≤ k := fun k hk => by
        rw [hk] at a
        exact of_decide_eq_true a
      obtain ⟨i1, i2, i3⟩ := (okb_iff c l (h + 1) hc').mp b
      refine ⟨by omega, fun x hx => ?_, fun k hk x hx => ?_⟩
      · rcases List.mem_cons.mp hx with z | z
        · omega
        · exact i2 x z
      · rcases List.mem_cons.mp hx with z | z
        · have := hc k hk
          omega
        · exact i3 k hk x z
    · rintro ⟨a, b, d⟩
      have hmem : ((h + 1 : Nat) : Int) ∈ hts ((h + 1 : Nat) : Int) l := by
        cases l <;> exact List.mem_cons_self ..
      have hc' : ∀ k, c = some k → h + 1 ≤ k := fun k hk => by
        have := d k hk _ (List.mem_cons_of_mem _ hmem)
        omega
      have := (okb_iff c l (h + 1) hc').mpr ⟨by omega, fun x hx => b x (List.mem_cons_of_mem _ hx), fun k hk x hx => d k hk x (List.mem_cons_of_mem _ hx)⟩
      unfold okb
      rw [this, Bool.and_true]
      cases c with
      | none => rfl
      | some k =>
        have := hc' k rfl
        exact decide_eq_true (by omega)
  | false :: l, h, hc => by
    have e2 : ((false :: l).map sg).sum = -1 + (l.map sg).sum := by
      rw [List.map_cons, List.sum_cons]
      rfl
    by_cases h0 : h = 0
    · subst h0
      have e1 : hts ((0 : Nat) : Int) (false :: l) = 0 :: hts (-1) l := rfl
      constructor
      · intro e
        exact absurd rfl (okb_down e).1
      · rintro ⟨a, b, d⟩
        have hmem : (-1 : Int) ∈ hts (-1) l := by
          cases l <;> exact List.mem_cons_self ..
        rw [e1] at b
        have := b _ (List.mem_cons_of_mem _ hmem)
        omega
    · have e1 : hts (h : Int) (false :: l) = (h : Int) :: hts ((h - 1 : Nat) : Int) l := by
        show (h : Int) :: hts ((h : Int) + -1) l = _
        rw [show (h : Int) + -1 = ((h - 1 : Nat) : Int) by omega]
      rw [e1, e2]
      have hc' : ∀ k, c = some k → h - 1 ≤ k := fun k hk => by
        have := hc k hk
        omega
      constructor
      · intro e
        obtain ⟨a, b⟩ := okb_down e
        obtain ⟨i1, i2, i3⟩ := (okb_iff c l (h - 1) hc').mp b
        refine ⟨by omega, fun x hx => ?_, fun k hk x hx => ?_⟩
        · rcases List.mem_cons.mp hx with z | z
          · omega
          · exact i2 x z
        · rcases List.mem_cons.mp hx with z | z
          · have := hc k hk
            omega
          · exact i3 k hk x z
      · rintro ⟨a, b, d⟩
        have := (okb_iff c l (h - 1) hc').mpr ⟨by omega, fun x hx => b x (List.mem_cons_of_mem _ hx), fun k hk x hx => d k hk x (List.mem_cons_of_mem _ hx)⟩
        unfold okb
        rw [this, Bool.and_true]
        simpa using h0
end Hr
/-! ### first hills, groves -/
namespace Hr
theorem okb_app {r : List Bool} {h : Nat} : ∀ {a : List Bool} {k : Nat}, okb none k a = true → okb none (h + k) (a ++ r) = okb none h r
  | [], k, e => by
    have e0 : k = 0 := by simpa [okb] using e
    rw [e0]
    rfl
  | true :: a, k, e => by
    show (true && okb none (h + k + 1) (a ++ r)) = _
    rw [Bool.true_and]
    exact okb_app (k := k + 1) (okb_up e).2
  | false :: a, k, e => by
    obtain ⟨k0, e1⟩ := okb_down e
    show ((h + k != 0) && okb none (h + k - 1) (a ++ r)) = _
    rw [show (h + k != 0) = true by simp; omega, Bool.true_and, show h + k - 1 = h + (k - 1) by omega]
    exact okb_app e1
/-- a walk down by one: the first down to there parts it -/
theorem okb_part : ∀ (m : Nat) {l : List Bool} {h : Nat}, l.length ≤ m → okb none (h + 1) l = true → ∃ a b, l = a ++ false :: b ∧ okb none 0 a = true ∧ okb none h b = true
  | m, [], h, _, e => by
    have : h + 1 = 0 := by simpa [okb] using e
    omega
  | m, false :: l, h, _, e => ⟨[], l, rfl, rfl, (okb_down e).2⟩
  | 0, true :: l, h, hm, e => absurd hm (by rw [List.length_cons]; omega)
  | m + 1, true :: l, h, hm, e => by
    rw [List.length_cons] at hm
    obtain ⟨a1, b1, e1, o1, p1⟩ := okb_part m (h := h + 1) (by omega) (okb_up e).2
    have h1 : b1.length ≤ m := by
      have := congrArg List.length e1
      rw [List.length_append, List.length_cons] at this
      omega
    obtain ⟨a2, b2, e2, o2, p2⟩ := okb_part m h1 p1
    refine ⟨true :: (a1 ++ false :: a2), b2, by rw [e1, e2, List.cons_append, List.append_assoc, List.cons_append], ?_, p2⟩
    show (true && okb none (0 + 1) (a1 ++ false :: a2)) = true
    rw [Bool.true_and]
    have := okb_app (r := false :: a2) (h := 1) o1
    rw [Nat.add_zero] at this
    rw [Nat.zero_add, this]
    show ((1 != 0) && okb none (1 - 1) a2) = true
    rw [Nat.sub_self, o2]
    rfl
theorem hill_part {l : List Bool} (e : okb none 0 (true :: l) = true) : ∃ a b, l = a ++ false :: b ∧ okb none 0 a = true ∧ okb none 0 b = true := okb_part l.length (Nat.le_refl _) (okb_up e).2
theorem hill_put {a b : List Bool} (ha : okb none 0 a = true) (hb : okb none 0 b = true) : okb none 0 (true :: (a ++ false :: b)) = true := by
  show (true && okb none (0 + 1) (a ++ false :: b)) = true
  have := okb_app (r := false :: b) (h := 1) ha
  rw [Nat.add_zero] at this
  rw [Bool.true_and, Nat.zero_add, this]
  show ((1 != 0) && okb none (1 - 1) b) = true
  rw [Nat.sub_self, hb]
  rfl
theorem hill_app {a b : List Bool} (ha : okb none 0 a = true) (hb : okb none 0 b = true) : okb none 0 (a ++ b) = true := by
  have := okb_app (r := b) (h := 0) ha
  rw [Nat.add_zero] at this
  rw [this]
  exact hb
/-- no hill row stands ahead of its own first down below -/
theorem part_one : ∀ {a a' b b' : List Bool} {h : Nat}, okb none h a = true → okb none h a' = true → a ++ false :: b = a' ++ false :: b' → a = a' ∧ b = b'
  | [], [], b, b', h, _, _, e => ⟨rfl, (List.cons.inj e).2⟩
  | [], x :: a', b, b', h, e1, e2, e => by
    have hx : x = false := (List.cons.inj e).1.symm
    have h0 : h = 0 := by simpa [okb] using e1
    rw [hx, h0] at e2
    exact absurd rfl (okb_down e2).1
  | x :: a, [], b, b', h, e1, e2, e => by
    have hx : x = false := (List.cons.inj e).1
    have h0 : h = 0 := by simpa [okb] using e2
    rw [hx, h0] at e1
    exact absurd rfl (okb_down e1).1
  | x :: a, y :: a', b, b', h, e1, e2, e => by
    obtain ⟨hx, he⟩ := List.cons.inj e
    subst hx
    cases x with
    | true =>
      obtain ⟨p, q⟩ := part_one (okb_up e1).2 (okb_up e2).2 he
      exact ⟨by rw [p], q⟩
    | false =>
      obtain ⟨p, q⟩ := part_one (okb_down e1).2 (okb_down e2).2 he
      exact ⟨by rw [p], q⟩
/-- a grove: none, or a tree (what hangs on it) and the trees behind it -/
inductive Gv where
  | no : Gv
  | tree : Gv → Gv → Gv
/-- its row -/
def Gv.row : Gv → List Bool
  | .no => []
  | .tree a b => true :: (a.row ++ false :: b.row)
/-- how deep it is -/
def Gv.deep : Gv → Nat
  | .no => 0
  | .tree a b => max (a.deep + 1) b.deep
/-- its trees -/
def Gv.trees : Gv → List Gv
  | .no => []
  | .tree a b => a :: b.trees
def Gv.of : List Gv → Gv
  | [] => .no
  | a :: r => .tree a (.of r)
theorem Gv.of_trees : ∀ g : Gv, Gv.of g.trees = g
  | .no => rfl
  | .tree a b => by
    show Gv.tree a (Gv.of b.trees) = _
    rw [of_trees b]
theorem Gv.trees_of : ∀ l : List Gv, (Gv.of l).trees = l
  | [] => rfl
  | a :: r => by
    show a :: (Gv.of r).trees = _
    rw [trees_of r]
def Gv.app : Gv → Gv → Gv
  | .no, g => g
  | .tree a b, g => .tree a (b.app g)
theorem Gv.trees_app : ∀ f g : Gv, (f.app g).trees = f.trees ++ g.trees
  | .no, _ => rfl
  | .tree a b, g => congrArg (a :: ·) (trees_app b g)
theorem Gv.row_app : ∀ f g : Gv, (f.app g).row = f.row ++ g.row
  | .no, _ => rfl
  | .tree a b, g => by
    show true :: (a.row ++ false :: (b.app g).row) = true :: (a.row ++ false :: b.row) ++ g.row
    rw [row_app b g, List.cons_append, List.append_assoc, List.cons_append]
theorem Gv.row_hill : ∀ g : Gv, okb none 0 g.row = true
  | .no => rfl
  | .tree a b => hill_put a.row_hill b.row_hill
theorem Gv.row_inj : ∀ {f g : Gv}, f.row = g.row → f = g
  | .no, .no, _ => rfl
  | .no, .tree _ _, e => by cases e
  | .tree _ _, .no, e => by cases e
  | .tree a b, .tree c d, e => by
    obtain ⟨p, q⟩ := part_one a.row_hill c.row_hill (List.cons.inj e).2
    rw [row_inj p, row_inj q]
theorem grove_of : ∀ (m : Nat) {l : List Bool}, l.length ≤ m → okb none 0 l = true → ∃ g : Gv, g.row = l
  | _, [], _, _ => ⟨.no, rfl⟩
  | _, false :: l, _, e => absurd rfl (okb_down e).1
  | 0, true :: l, hm, _ => absurd hm (by rw [List.length_cons]; omega)
  | m + 1, true :: l, hm, e => by
    obtain ⟨a, b, rfl, ha, hb⟩ := hill_part e
    rw [List.length_cons, List.length_append, List.length_cons] at hm
    obtain ⟨f, rfl⟩ := grove_of m (by omega) ha
    obtain ⟨g, rfl⟩ := grove_of m (by omega) hb
    exact ⟨.tree f g, rfl⟩
/-- every hill row is the row of just one grove -/
theorem grove_row {l : List Bool} (e : okb none 0 l = true) : ∃ g : Gv, g.row = l := grove_of l.length (Nat.le_refl _) e
theorem Gv.deep_le : ∀ g : Gv, 2 * g.deep ≤ g.row.length
  | .no => Nat.le_refl _
  | .tree a b => by
    have h1 := deep_le a
    have h2 := deep_le b
    show 2 * max (a.deep + 1) b.deep ≤ (true :: (a.row ++ false :: b.row)).length
    rw [List.length_cons, List.length_append, List.length_cons]
    omega
/-! ### turnings -/
/-- the law's walk: below 0 but at the end nowhere -/
def stayB : Int → List Bool → Bool
  | _, [] => false
  | h, b :: l => if h + sg b < 0 then l.isEmpty else stayB (h + sg b) l
theorem stayB_iff : ∀ (l : List Bool) (h : Int), stayB h l = true ↔ (l ≠ [] ∧ h + (l.map sg).sum < 0 ∧ ∀ i, 0 < i → i < l.length → 0 ≤ h + ((l.take i).map sg).sum)
  | [], h => ⟨fun e => (nomatch (show false = true from e)), fun e => absurd rfl e.1⟩
  | b :: l, h => by
    have ih := stayB_iff l (h + sg b)
    show (if h + sg b < 0 then l.isEmpty else stayB (h + sg b) l) = true ↔ _
    by_cases hn : h + sg b < 0
    · rw [if_pos hn]
      constructor
      · intro e
        have e : l = [] := by simpa using e
        subst e
        refine ⟨List.cons_ne_nil _ _, ?_, fun i h0 h1 => ?_⟩
        · show h + (sg b + 0) < 0
          omega
        · have h1 : i < 1 := h1
          omega
      · rintro ⟨_, _, h3⟩
        cases l with
        | nil => rfl
        | cons c l =>
          have := h3 1 (by omega) (by rw [List.length_cons, List.length_cons]; omega)
          have : 0 ≤ h + (sg b + 0) := this
          omega
    · rw [if_neg hn, ih]
      constructor
      · rintro ⟨_, h2, h3⟩
        refine ⟨List.cons_ne_nil _ _, ?_, fun i h0 h1 => ?_⟩
        · rw [List.map_cons, List.sum_cons]
          omega
        · obtain ⟨j, rfl⟩ : ∃ j, i = j + 1 := ⟨i - 1, by omega⟩
          rw [List.take_succ_cons, List.map_cons, List.sum_cons]
          rw [List.length_cons] at h1
          by_cases hj : j = 0
          · subst hj
            show 0 ≤ h + (sg b + 0)
            omega
          · have := h3 j (by omega) (by omega)
            omega
      · rintro ⟨_, h2, h3⟩
        rw [List.map_cons, List.sum_cons] at h2
        refine ⟨fun z => ?_, by omega, fun i h0 h1 => ?_⟩
        · subst z
          have h2 : h + (sg b + 0) < 0 := h2
          omega
        · have := h3 (i + 1) (by omega) (by rw [List.length_cons]; omega)
          rw [List.take_succ_cons, List.map_cons, List.sum_cons] at this
          omega
/-- the height at the place i -/
def hgt (l : List Bool) (i : Nat) : Int := ((l.take i).map sg).sum
def turned (l : List Bool) (k : Nat) : List Bool := l.drop k ++ l.take k
/-- the place k is the first lowest one -/
def Lowest (l : List Bool) (k : Nat) : Prop := (∀ i, i < k → hgt l k < hgt l i) ∧ ∀ i, k ≤ i → i ≤ l.length → hgt l k ≤ hgt l i
theorem hgt_drop (l : List Bool) (k j : Nat) : ((((l.drop k).take j)).map sg).sum = hgt l (k + j) - hgt l k := by
  unfold hgt
  rw [List.take_add, List.map_append, List.sum_append]
  omega
theorem hgt_len (l : List Bool) : hgt l l.length = (l.map sg).sum := by
  unfold hgt
  rw [List.take_length]
theorem hgt_drop_all (l : List Bool) {k : Nat} (hk : k ≤ l.length) : ((l.drop k).map sg).sum = hgt l l.length - hgt l k := by
  have := hgt_drop l k (l.length - k)
  rw [show k + (l.length - k) = l.length by omega, List.take_of_length_le (by rw [List.length_drop]; omega)] at this
  exact this
/-- a turning stays up just where it begins behind the first lowest place -/
theorem turned_iff {l : List Bool} (hs : (l.map sg).sum = -1) {k : Nat} (h0 : 0 < k) (hk : k ≤ l.length) : stayB 0 (turned l k) = true ↔ Lowest l k := by
  have hlen : (turned l k).length = l.length := by
    unfold turned
    rw [List.length_append, List.length_drop, List.length_take]
    omega
  have hsum : ((turned l k).map sg).sum = -1 := by
    unfold turned
    rw [List.map_append, List.sum_append, hgt_drop_all l hk, hgt_len, hs]
    show -1 - hgt l k + hgt l k = -1
    omega
  have hat : ∀ j, j ≤ l.length → (((turned l k).take j).map sg).sum = if j ≤ l.length - k then hgt l (k + j) - hgt l k else -1 - hgt l k + hgt l (j - (l.length - k)) := by
    intro j hj
    unfold turned
    rw [List.take_append, List.map_append, List.sum_append, List.length_drop]
    by_cases hc : j ≤ l.length - k
    · rw [if_pos hc, hgt_drop, show j - (l.length - k) = 0 by omega, List.take_zero]
      show _ + 0 = _
      omega
    · rw [if_neg hc, List.take_of_length_le (by rw [List.length_drop]; omega), hgt_drop_all l hk, hgt_len, hs, List.take_take, show min (j - (l.length - k)) k = j - (l.length - k) by omega]
      rfl
  rw [stayB_iff]
  constructor
  · rintro ⟨_, _, h3⟩
    refine ⟨fun i hi => ?_, fun i h1 h2 => ?_⟩
    · by_cases hi0 : i = 0 ∧ k = l.length
      · rw [hi0.1, hi0.2, hgt_len, hs]
        show -1 < (0 : Int)
        decide
      · have := h3 (l.length - k + i) (by omega) (by rw [hlen]; omega)
        rw [hat _ (by omega)] at this
        by_cases hi1 : i = 0
        · subst hi1
          rw [if_pos (by omega), show k + (l.length - k + 0) = l.length by omega, hgt_len, hs] at this
          show hgt l k < 0
          omega
        · rw [if_neg (by omega), show l.length - k + i - (l.length - k) = i by omega] at this
          omega
    · by_cases hki : i = k
      · rw [hki]
        exact Int.le_refl _
      · have := h3 (i - k) (by omega) (by rw [hlen]; omega)
        rw [hat _ (by omega), if_pos (by omega), show k + (i - k) = i by omega] at this
        omega
  · rintro ⟨h1, h2⟩
    refine ⟨fun z => ?_, by rw [hsum]; decide, fun i hi0 hi1 => ?_⟩
    · rw [z] at hlen
      have : l.length = 0 := hlen.symm
      omega
    · rw [hlen] at hi1
      rw [hat _ (by omega)]
      by_cases hc : i ≤ l.length - k
      · rw [if_pos hc]
        have := h2 (k + i) (by omega) (by omega)
        omega
      · rw [if_neg hc]
        have := h1 (i - (l.length - k)) (by omega)
        omega
theorem lowest_one {l : List Bool} {k k' : Nat} (hk : k ≤ l.length) (hk' : k' ≤ l.length) (h : Lowest l k) (h' : Lowest l k') : k = k' := by
  rcases Nat.lt_trichotomy k k' with z | z | z
  · have h1 := h'.1 k z
    have h2 := h.2 k' (by omega) hk'
    omega
  · exact z
  · have h1 := h.1 k' z
    have h2 := h'.2 k (by omega) hk
    omega
theorem turned_zero (l : List Bool) : turned l 0 = l := by
  unfold turned
  rw [List.drop_zero, List.take_zero, List.append_nil]
theorem turned_len (l : List Bool) : turned l l.length = l := by
  unfold turned
  rw [List.drop_length, List.take_length, List.nil_append]
/-- the first place of the lowest height there is -/
theorem lowest_is {l : List Bool} (hs : (l.map sg).sum = -1) : ∃ k, 0 < k ∧ k ≤ l.length ∧ Lowest l k := by
  have step : ∀ m, m ≤ l.length → ∃ k, k ≤ m ∧ (∀ i, i < k → hgt l k < hgt l i) ∧ ∀ i, k ≤ i → i ≤ m → hgt l k ≤ hgt l i := by
    intro m
    induction m with
    | zero =>
      intro _
      refine ⟨0, Nat.le_refl _, fun i hi => absurd hi (by omega), fun i h1 h2 => ?_⟩
      rw [show i = 0 by omega]
      exact Int.le_refl _
    | succ m ih =>
      intro hm
      obtain ⟨k, hk, h1, h2⟩ := ih (by omega)
      by_cases hc : hgt l (m + 1) < hgt l k
      · refine ⟨m + 1, Nat.le_refl _, fun i hi => ?_, fun i h3 h4 => ?_⟩
        · by_cases hik : i < k
          · have := h1 i hik
            omega
          · have := h2 i (by omega) (by omega)
            omega
        · rw [show i = m + 1 by omega]
          exact Int.le_refl _
      · refine ⟨k, by omega, h1, fun i h3 h4 => ?_⟩
        by_cases hi : i = m + 1
        · rw [hi]
          omega
        · exact h2 i h3 (by omega)
  obtain ⟨k, hk, h1, h2⟩ := step l.length (Nat.le_refl _)
  refine ⟨k, ?_, hk, h1, h2⟩
  by_cases h0 : k = 0
  · have := h2 l.length (by omega) (Nat.le_refl _)
    rw [h0, hgt_len, hs] at this
    have : (0 : Int) ≤ -1 := this
    omega
  · omega
/-- of the turnings by k below the length just one stays up -/
theorem turned_one {l : List Bool} (hs : (l.map sg).sum = -1) : ∃ k, k < l.length ∧ ∀ j, j < l.length → (stayB 0 (turned l j) = true ↔ j = k) := by
  obtain ⟨k, h0, hk, hL⟩ := lowest_is hs
  have key : ∀ j, 0 < j → j ≤ l.length → (stayB 0 (turned l j) = true ↔ j = k) := fun j j0 jl => by
    rw [turned_iff hs j0 jl]
    exact ⟨fun z => lowest_one jl hk z hL, fun z => z ▸ hL⟩
  have hlast : stayB 0 (turned l 0) = stayB 0 (turned l l.length) := by rw [turned_zero, turned_len]
  by_cases hkl : k = l.length
  · refine ⟨0, by omega, fun j jl => ?_⟩
    by_cases j0 : j = 0
    · subst j0
      rw [hlast, key l.length (by omega) (Nat.le_refl _)]
      exact ⟨fun _ => rfl, fun _ => hkl.symm⟩
    · rw [key j (by omega) (by omega)]
      omega
  · refine ⟨k, by omega, fun j jl => ?_⟩
    by_cases j0 : j = 0
    · subst j0
      rw [hlast, key l.length (by omega) (Nat.le_refl _)]
      omega
    · exact key j (by omega) (by omega)
end Hr
namespace Hr
/-- a hill row of n ups under the ceiling c -/
def Hill (c : Option Nat) (n : Nat) (l : List Bool) : Prop := okb c 0 l = true ∧ l.length = 2 * n
end Hr
/-! ### defs of the text, by what they promise -/
namespace Hr
open PySem PySem.Spec PyProof.Rows L2
theorem same_upd {H : Hp} {p : Addr} {o : HO} (h : H p = none) : Same H (upd H p o) := fun b x e => by
  rw [upd_ne (ne_of_none e h)]
  exact e
/-- what was new may change -/
theorem same_updN {H0 H : Hp} {p : Addr} {o : HO} (s : Same H0 H) (n : H0 p = none) : Same H0 (upd H p o) := fun b x e => by
  rw [upd_ne (ne_of_none e n)]
  exact s b x e
theorem sz {n : Nat} (h : n ≤ 1000000) : n ≤ sizeLine := Nat.le_trans h (by decide)
theorem szl {n : Nat} (h : n < 1000000) : n < sizeLine := Nat.lt_of_lt_of_le h (by decide)
section
variable (K : PySem.W.Frag) (mg : Str → Option Value)
structure Def (x : Str) (st : Stmt) (ps : List Str) : Prop where
  ex : ∃ (f : Addr) (fd : FuncData), Fun K x x st f fd ∧ mg x = some (.ref f) ∧ Binds K fd ps []
/-- a def whose last parameter is None where it is left out -/
structure DefD (x : Str) (st : Stmt) (ps : List Str) : Prop where
  ex : ∃ (f : Addr) (fd : FuncData), FunD K x x (defArgs st) (defBody st) (defScope st) [V.non] [] f fd ∧ mg x = some (.ref f) ∧ Binds K fd ps [] ∧ ∃ ds, Vals [V.non] ds ∧ Binds K fd ps ds
/-- a def whose last parameter is dv where it is left out -/
structure DefV (x : Str) (st : Stmt) (ps : List Str) (dv : V) : Prop where
  ex : ∃ (f : Addr) (fd : FuncData), FunD K x x (defArgs st) (defBody st) (defScope st) [dv] [] f fd ∧ mg x = some (.ref f) ∧ Binds K fd ps [] ∧ ∃ ds, Vals [dv] ds ∧ Binds K fd ps ds
structure Cal (CX : CXT) (P : Program) (w : World) (base : Heap) (k : Nat) (x : Str) (dvs : List V) (sp : Sp) : Prop where
  ex : ∃ (f : Addr) (fd : FuncData) (ps : List Str) (ds : List Value), FnOk P w K mg base CX k f fd ps sp ∧ mg x = some (.ref f) ∧ PySem.W.keepIn K (.ref f) = true ∧ Binds K fd ps ds ∧ Vals dvs ds
end
section
variable {P : Program} {w : World} {K : PySem.W.Frag} {mg : Str → Option Value} {base : Heap}
theorem Def.cal {x : Str} {st : Stmt} {N ps : List Str} {k : Nat} {sp : Sp} (D : Def K mg x st ps) (S : FnScope N ps (defScope st)) (len : ∀ vs H Q E, sp vs H Q E → vs.length = ps.length)
    (hbody : ∀ (f : Addr) (cdv : Value) (A : Around) (outer : List Env) (s : Shared) (H : Hp) (vs : List V) (Q : VK) (E : XK), Room k (A.deeper (envOfC x (defScope st) s.heap.objs.size f cdv)) → sp vs H Q E →
      ∃ t, PSs (cxOf CX0 P w K mg base N x (defScope st) f cdv A outer s H E).nox (defBody st) t ∧ t { nx := fun _ H' => Q .non H', rt := Q } (start N vs) H) : Cal K mg CX0 P w base (k + 1) x [] sp := by
  obtain ⟨f, fd, F, hm, b⟩ := D.ex
  exact ⟨f, fd, ps, [], F.ok S len (hbody f), hm, F.kp, b, .nil⟩
theorem DefD.ok {x : Str} {st : Stmt} {N ps : List Str} {k : Nat} {sp : Sp} (D : DefD K mg x st ps) (S : FnScope N ps (defScope st)) (len : ∀ vs H Q E, sp vs H Q E → vs.length = ps.length)
    (hbody : ∀ (f : Addr) (cdv : Value) (A : Around) (outer : List Env) (s : Shared) (H : Hp) (vs : List V) (Q : VK) (E : XK), Room k (A.deeper (envOfC x (defScope st) s.heap.objs.size f cdv)) → sp vs H Q E →
      ∃ t, PSs (cxOf CX0 P w K mg base N x (defScope st) f cdv A outer s H E).nox (defBody st) t ∧ t { nx := fun _ H' => Q .non H', rt := Q } (start N vs) H) :
    Cal K mg CX0 P w base (k + 1) x [] sp ∧ Cal K mg CX0 P w base (k + 1) x [.non] sp := by
  obtain ⟨f, fd, F, hm, b, ds, vd, b2⟩ := D.ex
  have G : FnOk P w K mg base CX0 (k + 1) f fd ps sp := F.ok S len fun cdv A outer s H vs Q E hr hsp => by
    obtain ⟨t, h, q⟩ := hbody f cdv A outer s H vs Q E hr hsp
    exact ⟨t, h.nox, q⟩
  exact ⟨⟨f, fd, ps, [], G, hm, F.kp, b, .nil⟩, ⟨f, fd, ps, ds, G, hm, F.kp, b2, vd⟩⟩
theorem DefV.ok {x : Str} {st : Stmt} {N ps : List Str} {dv : V} {k : Nat} {sp : Sp} (D : DefV K mg x st ps dv) (S : FnScope N ps (defScope st)) (len : ∀ vs H Q E, sp vs H Q E → vs.length = ps.length)
    (hbody : ∀ (f : Addr) (cdv : Value) (A : Around) (outer : List Env) (s : Shared) (H : Hp) (vs : List V) (Q : VK) (E : XK), Room k (A.deeper (envOfC x (defScope st) s.heap.objs.size f cdv)) → sp vs H Q E →
      ∃ t, PSs (cxOf CX0 P w K mg base N x (defScope st) f cdv A outer s H E).nox (defBody st) t ∧ t { nx := fun _ H' => Q .non H', rt := Q } (start N vs) H) :
    Cal K mg CX0 P w base (k + 1) x [] sp ∧ Cal K mg CX0 P w base (k + 1) x [dv] sp := by
  obtain ⟨f, fd, F, hm, b, ds, vd, b2⟩ := D.ex
  have G : FnOk P w K mg base CX0 (k + 1) f fd ps sp := F.ok S len fun cdv A outer s H vs Q E hr hsp => by
    obtain ⟨t, h, q⟩ := hbody f cdv A outer s H vs Q E hr hsp
    exact ⟨t, h.nox, q⟩
  exact ⟨⟨f, fd, ps, [], G, hm, F.kp, b, .nil⟩, ⟨f, fd, ps, ds, G, hm, F.kp, b2, vd⟩⟩
/-- a weaker promise -/
theorem Cal.imp {CX : CXT} {x : Str} {dvs : List V} {k : Nat} {sp sp' : Sp} (C : Cal K mg CX P w base k x dvs sp) (h : ∀ vs H Q E, sp' vs H Q E → sp vs H Q E) : Cal K mg CX P w base k x dvs sp' := by
  obtain ⟨f, fd, ps, ds, G, hm, kp, b, d⟩ := C.ex
  exact ⟨f, fd, ps, ds, G.imp h, hm, kp, b, d⟩
end
section
variable {X : Cx}
theorem pe_c {k j : Nat} {x : Str} {dvs : List V} {sp : Sp} {e : Expr} {es : List Expr} {t : TA} {p pos : Pos} (c : Cal X.K X.mg CX0 X.prog X.w X.base k x dvs sp) (hr : Room j X.A) (ha : PA X (e :: es) t) (hk : k ≤ j := by decide) (hg : Gl X x := by rfl)
    (hdb : (x == ("__debug__" : Str)) = false := by decide) (he : starEach (e :: es) X.env = (false, eval e X.env) :: starEach es X.env := by rfl) (hpl : (backTo pos (starEach es X.env)).any (·.1) = false := by rfl) :
    PE X (.Call (.Name x p) (e :: es) [] pos) (tCall sp dvs E0 t) := by
  obtain ⟨f, fd, ps, ds, F, hm, kp, b, d⟩ := c.ex
  exact pe_call F (hr.mono hk) hg hm kp b d pass0 ha hdb he hpl
end
/-- from what the top has left -/
theorem def_mk {K : PySem.W.Frag} {mg : Str → Option Value} {h : Heap} {x : Str} {st : Stmt} {ps : List Str} {f : Addr} {oc : Value} {od an : Option Addr} {osl : Array (Option Value)} {kV doc pm cdv ct : Value} (X : K.In h) (G : h.Ns mainGlobals mg)
    (hb : ∀ (kV doc pm : Value) (an : Option Addr) (cdv ct : Value) (us : List Value), us.length = ps.length → bindArgs (PySem.W.fnOf x x (defArgs st) (defBody st) (defScope st) .none kV doc pm an cdv ct) ⟨us, []⟩ = pure (ps.zip us))
    (a : PySem.W.nsIn K mainGlobals x = some (some (.ref f))) (l : K.lookup f = some ⟨oc, od, .func (PySem.W.fnOf x x (defArgs st) (defBody st) (defScope st) .none kV doc pm an cdv ct), osl⟩)
    (c : PySem.W.codeIn K cdv x = true) (k : PySem.W.keepIn K (.ref f) = true) : Def K mg x st ps :=
  have F := fun_mk (st := st) l c k
  ⟨f, _, F, PySem.W.mg_of X G a, F.binds hb⟩
theorem defD_mk {K : PySem.W.Frag} {mg : Str → Option Value} {h : Heap} {x : Str} {st : Stmt} {ps : List Str} {f T : Addr} {oc tc : Value} {od an td : Option Addr} {osl tsl : Array (Option Value)} {kV doc pm cdv ct : Value} {n m : Nat} (X : K.In h) (G : h.Ns mainGlobals mg)
    (hn : ps.length = m + 1)
    (hb2 : ∀ (T : Addr) (kV doc pm : Value) (an : Option Addr) (cdv ct : Value) (us its : List Value), us.length = m + 1 → its.length = 1 →
      ∃ k, bindArgs (PySem.W.fnOf x x (defArgs st) (defBody st) (defScope st) (.ref T) kV doc pm an cdv ct) ⟨us, []⟩ = seqItems? (.ref T) >>= k ∧ k (some its.toArray) = pure (ps.zip (us ++ its.drop 1)))
    (hb1 : ∀ (T : Addr) (kV doc pm : Value) (an : Option Addr) (cdv ct : Value) (us its : List Value), us.length = m → its.length = 1 →
      ∃ k, bindArgs (PySem.W.fnOf x x (defArgs st) (defBody st) (defScope st) (.ref T) kV doc pm an cdv ct) ⟨us, []⟩ = seqItems? (.ref T) >>= k ∧ k (some its.toArray) = pure (ps.zip (us ++ its.drop 0)))
    (a : PySem.W.nsIn K mainGlobals x = some (some (.ref f))) (l : K.lookup f = some ⟨oc, od, .func (PySem.W.fnOf x x (defArgs st) (defBody st) (defScope st) (.ref T) kV doc pm an cdv ct), osl⟩)
    (c : PySem.W.codeIn K cdv x = true) (k : PySem.W.keepIn K (.ref f) = true) (lT : K.lookup T = some ⟨tc, td, .seq #[.none] n, tsl⟩) : DefD K mg x st ps := by
  have F : FunD K x x (defArgs st) (defBody st) (defScope st) [V.non] [] f (PySem.W.fnOf x x (defArgs st) (defBody st) (defScope st) (.ref T) kV doc pm an cdv ct) :=
    ⟨⟨oc, od, .ref T, kV, doc, pm, an, cdv, ct, osl, rfl, l, c, .inr ⟨List.cons_ne_nil _ _, T, _, [.none], n, rfl, lT, rfl, .cons rfl .nil⟩, .inl rfl⟩, k⟩
  obtain ⟨d2, v2, b2⟩ := F.binds1 (m + 1) 1 (List.cons_ne_nil _ _) (by rw [hn]; rfl) (fun T kV doc pm an cdv ct us its h1 h2 => hb2 T kV doc pm an cdv ct us its h1 h2)
  obtain ⟨d1, v1, b1⟩ := F.binds1 m 0 (List.cons_ne_nil _ _) (by rw [hn]; rfl) (fun T kV doc pm an cdv ct us its h1 h2 => hb1 T kV doc pm an cdv ct us its h1 h2)
  have e2 : d2 = [] := by
    cases v2
    rfl
  subst e2
  exact ⟨f, _, F, PySem.W.mg_of X G a, b2, d1, v1, b1⟩
theorem defV_mk {K : PySem.W.Frag} {mg : Str → Option Value} {h : Heap} {x : Str} {st : Stmt} {ps : List Str} {dv : V} {u : Value} {f T : Addr} {oc tc : Value} {od an td : Option Addr} {osl tsl : Array (Option Value)} {kV doc pm cdv ct : Value} {n m : Nat} (X : K.In h) (G : h.Ns mainGlobals mg)
    (hn : ps.length = m + 1)
    (hb2 : ∀ (T : Addr) (kV doc pm : Value) (an : Option Addr) (cdv ct : Value) (us its : List Value), us.length = m + 1 → its.length = 1 →
      ∃ k, bindArgs (PySem.W.fnOf x x (defArgs st) (defBody st) (defScope st) (.ref T) kV doc pm an cdv ct) ⟨us, []⟩ = seqItems? (.ref T) >>= k ∧ k (some its.toArray) = pure (ps.zip (us ++ its.drop 1)))
    (hb1 : ∀ (T : Addr) (kV doc pm : Value) (an : Option Addr) (cdv ct : Value) (us its : List Value), us.length = m → its.length = 1 →
      ∃ k, bindArgs (PySem.W.fnOf x x (defArgs st) (defBody st) (defScope st) (.ref T) kV doc pm an cdv ct) ⟨us, []⟩ = seqItems? (.ref T) >>= k ∧ k (some its.toArray) = pure (ps.zip (us ++ its.drop 0)))
    (a : PySem.W.nsIn K mainGlobals x = some (some (.ref f))) (l : K.lookup f = some ⟨oc, od, .func (PySem.W.fnOf x x (defArgs st) (defBody st) (defScope st) (.ref T) kV doc pm an cdv ct), osl⟩)
    (c : PySem.W.codeIn K cdv x = true) (k : PySem.W.keepIn K (.ref f) = true) (hu : RelV dv u) (lT : K.lookup T = some ⟨tc, td, .seq #[u] n, tsl⟩) : DefV K mg x st ps dv := by
  have F : FunD K x x (defArgs st) (defBody st) (defScope st) [dv] [] f (PySem.W.fnOf x x (defArgs st) (defBody st) (defScope st) (.ref T) kV doc pm an cdv ct) :=
    ⟨⟨oc, od, .ref T, kV, doc, pm, an, cdv, ct, osl, rfl, l, c, .inr ⟨List.cons_ne_nil _ _, T, _, [u], n, rfl, lT, rfl, .cons hu .nil⟩, .inl rfl⟩, k⟩
  obtain ⟨d2, v2, b2⟩ := F.binds1 (m + 1) 1 (List.cons_ne_nil _ _) (by rw [hn]; rfl) (fun T kV doc pm an cdv ct us its h1 h2 => hb2 T kV doc pm an cdv ct us its h1 h2)
  obtain ⟨d1, v1, b1⟩ := F.binds1 m 0 (List.cons_ne_nil _ _) (by rw [hn]; rfl) (fun T kV doc pm an cdv ct us its h1 h2 => hb1 T kV doc pm an cdv ct us its h1 h2)
  have e2 : d2 = [] := by
    cases v2
    rfl
  subst e2
  exact ⟨f, _, F, PySem.W.mg_of X G a, b2, d1, v1, b1⟩
end Hr
/-! ### the text of this law -/
namespace Hr
open PySem PySem.Spec PyProof.Rows L2
def topS (i : Nat) : Stmt := PySem.Challenge.pw_hillrows_k10_whole_turnings.main.body.getD i (.Pass ⟨0, 0, 0, 0⟩)
abbrev sHeights : Stmt := topS 13
abbrev sIsRow : Stmt := topS 14
abbrev sTurn : Stmt := topS 16
abbrev sMixed : Stmt := topS 18
abbrev sNumber : Stmt := topS 19
abbrev sWord : Stmt := topS 20
abbrev sTold : Stmt := topS 21
abbrev sStays : Stmt := topS 22
abbrev sLaw : Stmt := topS 23
end Hr
/-! ### a text walked with its places -/
namespace Hr
open PySem PySem.Spec PyProof.Rows L2
/-- the signs of a text, each in a new pair behind its place -/
def ItEs (x : Str) : It :=
  { go := fun i _ => i < x.cps.size
    yld := fun i H v H' => ∃ T c, v = .ref T ∧ H T = none ∧ H' = upd H T (.tup [.int (i : Nat), .str ⟨#[c]⟩]) ∧ x.cps[i]? = some c
    stop := fun i _ => i = x.cps.size }
theorem two_mem {b e it : Addr} (h : b ∈ [e, it]) : b = e ∨ b = it := by simpa using h
theorem turn_es {P : Program} {w : World} {K : PySem.W.Frag} {elts : List Expr} {kk : Nat} {tpos : Pos} (x : Str) (t : Tok) (e it : Addr) :
    Turn P w K (.Tuple elts kk tpos) (ItEs x) [e, it] e (fun i h => (∃ old, IsEnum h e it ((i : Nat) : Int) old) ∧ h.IsStrIter it (strIterType x) x t i ∧ e ≠ it) := by
  refine { mem := List.mem_cons_self .., obj := ?_, keep := ?_, item := ?_, done := ?_, self := ?_ }
  · rintro i h ⟨⟨old, he⟩, ⟨o, ho, _, hd⟩, _⟩ b hb
    rcases two_mem hb with rfl | rfl
    · exact ⟨_, he, fun v q => (nomatch q)⟩
    · exact ⟨o, ho, fun v q => by rw [hd] at q; exact (nomatch q)⟩
  · rintro i h h' ⟨⟨old, he⟩, ⟨o, ho, r⟩, hne⟩ k
    exact ⟨⟨old, k e (by simp) _ he⟩, ⟨o, k it (by simp) o ho, r⟩, hne⟩
  · rintro X rfl rfl rfl hc i pins s σ H E I hf ⟨⟨old, he⟩, hit, hne⟩ hg
    have le : e < s.heap.objs.size := Heap.lt_size he
    have li : it < s.heap.objs.size := hit.elim fun _ q => Heap.lt_size q.1
    have D : Draws X.prog X.w X.A.in1 it [it] x.cps.size (fun i v => ∃ c u, x.cps[i]? = some c ∧ v = .str ⟨#[c]⟩ u) (fun i h => h.IsStrIter it (strIterType x) x t i) := Draws.text (A := X.A.in1) (show X.A.in1.handled = none from I.ok.hd hc) it x t
    refine wpAny_pyNext_enum_itemD D he hit hg hne (by simpa using hne) fun y h1 tk hy he1 hit1 hT hsz hk => ?_
    obtain ⟨c, u, hcx, rfl⟩ := hy
    refine ⟨_, rfl, wpAny_letOwnedTupleGo_enum (s := { s with heap := h1, toks := tk + 1 }) he1 fun h2 he2 sb => ?_⟩
    have hT2 := (sb.2 _ (Nat.ne_of_gt le)).trans hT
    have ok : ObjOk X.prog X.w (upd H s.heap.objs.size (.tup [.int (i : Nat), .str ⟨#[c]⟩])) h2 s.heap.objs.size (.tup [.int (i : Nat), .str ⟨#[c]⟩]) :=
      ⟨sz (show 2 ≤ 1000000 by decide), [.int i tk, .str ⟨#[c]⟩ u], .cons ⟨_, rfl⟩ (.cons ⟨_, rfl⟩ .nil), ⟨_, hT2, rfl, _, rfl⟩⟩
    have I2 := I.turnedNew (t' := tk + 1) (ch := [e, it]) (fun b ob hb q => (sb.2 b (fun z => hb (by simp [z]))).trans (hk b ob (fun z => hb (by simp [z])) (fun z => hb (by simp [z])) q)) hf (Nat.le_refl _) ok
    refine ⟨.ref s.heap.objs.size, _, I2, rfl, ⟨_, c, rfl, I.hok.fresh (Nat.le_refl _), rfl, hcx⟩, ⟨⟨.str ⟨#[c]⟩ u, ?_⟩, ?_, hne⟩, fun b hb => ?_⟩
    · rw [Int.natCast_add]
      exact he2
    · obtain ⟨o, ho, r⟩ := hit1
      exact ⟨o, (sb.2 it (Ne.symm hne)).trans ho, r⟩
    · have lb : b < s.heap.objs.size := by
        rcases two_mem hb with z | z
        · exact z ▸ le
        · exact z ▸ li
      rw [upd_ne (Nat.ne_of_lt lb)]
      exact (hf b hb).1
  · rintro X rfl rfl rfl hc i pins s σ H E I hf ⟨⟨old, he⟩, hit, hne⟩ hg
    have D : Draws X.prog X.w X.A.in1 it [it] x.cps.size (fun i v => ∃ c u, x.cps[i]? = some c ∧ v = .str ⟨#[c]⟩ u) (fun i h => h.IsStrIter it (strIterType x) x t i) := Draws.text (A := X.A.in1) (show X.A.in1.handled = none from I.ok.hd hc) it x t
    obtain ⟨f0, f1, f2, f3, f4, f5⟩ := hf it (by simp)
    have hit : s.heap.IsStrIter it (strIterType x) x t x.cps.size := (show i = x.cps.size from hg) ▸ hit
    exact wpAny_pyNext_enum_endD D he hit fun h1 eb => ⟨rfl, I.turned (t' := s.toks) (fun b o hb q => eb b o hb q) f0 f1 f3 f4 f5⟩
  · rintro A i s Q E ⟨⟨old, he⟩, _⟩ h
    exact wpAny_pyIter_enum he h
def iEs (ta : TA) : TI := fun σ H R => ta σ H fun vs H1 => ∃ x, vs = [.str x] ∧ R (ItEs x) H1
theorem pi_es {X : Cx} {e : Expr} {ta : TA} {p pos tpos : Pos} {elts : List Expr} {kk : Nat} (hg : Gl X "enumerate") (hm : X.mg "enumerate" = none) (ha : PA X [e] ta) (hs : starEach [e] X.env = [(false, eval e X.env)] := by rfl) :
    PI X (.Tuple elts kk tpos) (.Call (.Name "enumerate" p) [e] [] pos) (iEs ta) := by
  refine ⟨fun pins s σ H R I h => Call_ (ld_blt I hg hm boot_enumerate (PyProof.Rows.callWith_type1 (thn (ha.run pos pins s σ H _ I h) fun us s1 ⟨vs, H1, I1, r1, x, ex, q⟩ => ?_) hs rfl))⟩
  subst ex
  obtain ⟨u, rest, rfl⟩ : ∃ u rest, us = u :: rest := by
    cases r1
    exact ⟨_, _, rfl⟩
  cases r1 with
  | cons r rr =>
    cases rr
    obtain ⟨t, rfl⟩ := r
    refine call_enumerate_str fun h' he hit hsz hk => wpAny_pyIter_enum he ?_
    refine ⟨s1.heap.objs.size + 1, [s1.heap.objs.size + 1, s1.heap.objs.size], _, _, H1, rfl, I1.kept (t' := s1.toks) hk, turn_es x t (s1.heap.objs.size + 1) s1.heap.objs.size, ⟨⟨.none, he⟩, hit, Nat.succ_ne_self _⟩, fun b hb => ?_, q⟩
    have lb : s1.heap.objs.size ≤ b := by
      rcases two_mem hb with z | z
      · rw [z]
        exact Nat.le_succ _
      · rw [z]
        exact Nat.le_refl _
    exact I1.fpOk lb (I1.hok.fresh lb)
theorem walk_es {x : Str} : Walk (ItEs x) x.cps.size (fun _ => True) (YPair (fun i => some (.int (i : Nat))) (fun i => (x.cps[i]?).map fun c => V.str ⟨#[c]⟩)) := by
  refine ⟨fun _ _ hi _ => hi, fun _ _ => rfl, fun i H v H' _ _ y => ?_⟩
  obtain ⟨T, c, h1, h2, h3, h4⟩ := y
  exact ⟨T, .int (i : Nat), .str ⟨#[c]⟩, h1, h2, h3, rfl, by show (x.cps[i]?).map _ = _; rw [h4]; rfl⟩
end Hr
/-! ### errors that are caught and kept -/
namespace Hr
open PySem PySem.Spec PyProof.Rows L2
/-- an exception's object at a: its class, its own dict -/
def ExT (cls : Value) (d : Option Addr) (a : Addr) : HO := .ext fun h => ∃ (oe : Obj) (vs : Array Value), h.get? a = some oe ∧ Zc cls d oe ∧ oe.data = .fields vs
theorem exT_ok {P : Program} {w : World} {H : Hp} {h : Heap} {a : Addr} {cls : Value} {d : Option Addr} {oe : Obj} {vs : Array Value} (e : h.get? a = some oe) (z : Zc cls d oe) (dd : oe.data = .fields vs) : ObjOk P w H h a (ExT cls d a) :=
  ⟨⟨oe, vs, e, z, dd⟩, ⟨oe, e⟩, fun _ _ ⟨o, v, q, r⟩ k => ⟨o, v, k o q, r⟩⟩
/-- the wish of a try whose clause takes every error of its body and keeps it -/
def wKept (K : PySem.W.Frag) (c : Value) (i : Nat) (ts : Addr → TS) (D : Ends) : WX := fun cls d σ H =>
  PySem.W.exmOne K cls c = some true ∧ ∀ a, H a = none →
    ts a ⟨fun σ1 H1 => D.nx (σ1.set i none) (upd H1 a (ExT cls d a)), fun _ _ => False, fun _ _ => False, fun _ _ => False⟩ (σ.set i (some (.ref a))) H
section
variable {X : Cx} {x n : Str} {c : Value} {i : Nat} {body suite : List Stmt} {b₀ : Stmt} {np pos pos' : Pos} {tb : WX → TS} {ts : Addr → TS}
theorem unsuite2 {pins : List (Addr × Obj)} {σ : L2.St} {H : Hp} {s : Shared} {a : Addr} {oe : Obj} (I : Inv (X.suite a ((a, oe) :: (X.pn ++ pins))) [] σ H s) (ok : X.Ok) : Inv X ((a, oe) :: pins) σ H s :=
  ⟨ok, I.os, I.bare, I.base, I.loc, I.cell, I.free, I.freeC, fun p hp => I.pin p (List.mem_append_left _ (by
    rcases List.mem_append.mp hp with z | z
    · exact List.mem_cons_of_mem _ (List.mem_append_left _ z)
    · rcases List.mem_cons.mp z with z | z
      · rw [z]
        exact List.mem_cons_self
      · exact List.mem_cons_of_mem _ (List.mem_append_right _ z))), I.hok, I.len⟩
theorem track {pins : List (Addr × Obj)} {σ : L2.St} {H : Hp} {s : Shared} {a : Addr} {oe : Obj} {vs : Array Value} {cls : Value} {d : Option Addr} (I : Inv X ((a, oe) :: pins) σ H s) (hz : Zc cls d oe) (hd : oe.data = .fields vs) (n0 : X.s_0.heap.get? a = none)
    (np : ∀ p ∈ X.pn ++ pins, p.1 ≠ a) : Inv X pins σ (upd H a (ExT cls d a)) s := by
  obtain ⟨ha, na, nL, nF, _⟩ := I.pin (a, oe) (List.mem_append_right _ List.mem_cons_self)
  have ha : s.heap.get? a = some oe := ha
  have na : H a = none := na
  have nb0 : ∀ b o, X.s_0.heap.get? b = some o → b ≠ a := fun b o e z => by
    rw [z, n0] at e
    cases e
  refine ⟨I.ok, I.os, I.bare, ⟨I.base.keep, I.base.slot, fun b o e n hx => ?_, I.base.there, fun b xs e => ?_, fun b o u e => ?_, fun b ps e => ?_⟩, I.loc, I.cell, ?_, fun y cc e => ?_, fun p hp => ?_, ?_, I.len⟩
  · rw [upd_ne (nb0 b o e)]
    exact I.base.free b o e n hx
  · have q := I.base.tups b xs e
    rw [upd_ne (ne_of_none q na)]
    exact q
  · have q := I.base.frzs b o u e
    rw [upd_ne (ne_of_none q na)]
    exact q
  · obtain ⟨m, q⟩ := I.base.tbls b ps e
    exact ⟨m, by rw [upd_ne (ne_of_none q na)]; exact q⟩
  · rw [upd_ne (Ne.symm nL)]
    exact I.free
  · obtain ⟨v, o, q1, q2⟩ := I.cell y cc e
    have nc : cc ≠ a := fun z => by
      rw [z, ha] at q1
      cases q1
      rw [hd] at q2
      cases q2
    rw [upd_ne nc]
    exact I.freeC y cc e
  · obtain ⟨q1, q2, q3, q4, q5⟩ := I.pin p (by
      rcases List.mem_append.mp hp with z | z
      · exact List.mem_append_left _ z
      · exact List.mem_append_right _ (List.mem_cons_of_mem _ z))
    exact ⟨q1, by rw [upd_ne (np p hp)]; exact q2, q3, q4, q5⟩
  · exact I.hok.laidN (fun _ _ z => z) na (exT_ok ha hz hd)
/-- what is caught is new since the def began -/
theorem caught_new {pins : List (Addr × Obj)} {σ : L2.St} {H : Hp} {g : Shared} {G : Heap} {a : Addr} (J : Inv X pins σ H g)
    (kp : ∀ b o, g.heap.get? b = some o → b ∉ frs X.stack → G.get? b = some o) (out : G.get? a = none) (nf : a ∉ frs X.stack) (hex : X.ex = []) :
    X.s_0.heap.get? a = none ∧ ∀ p ∈ X.pn ++ pins, p.1 ≠ a := by
  have g0 : g.heap.get? a = none := by
    cases e : g.heap.get? a with
    | none => rfl
    | some o => exact absurd ((kp a o e nf).symm.trans out) (fun z => nomatch z)
  refine ⟨?_, fun p hp z => ?_⟩
  · cases e : X.s_0.heap.get? a with
    | none => rfl
    | some o =>
      obtain ⟨u, hu⟩ := J.base.there a o e (hex ▸ fun z => nomatch z)
      exact absurd (hu.symm.trans g0) (fun z => nomatch z)
  · have hp1 := (J.pin p hp).1
    rw [z, g0] at hp1
    exact nomatch hp1
theorem kept_try (hs : X.stack = X.env :: X.outer) (hf : X.env.frame = some X.env.locals)
    (hex : X.ex = []) (hN : X.N.Nodup) (hi : X.N[i]? = some n)
    (hln : X.env.kindOf n = some .local) (hc : Names X x c)
    (inner : ∀ W pn xe, Takes (X.tr pn xe) W → PassesOwn (model X.prog X.w) X.A X.env xe → PSs (X.tr pn xe) body (tb W))
    (clause : ∀ a q, PSs (X.suite a q) (b₀ :: suite) (ts a)) :
    PS X (.Try body [.ExceptHandler (some (.Name x np)) (some n) (b₀ :: suite) pos'] [] [] pos)
      (fun D σ H => tb (wKept X.K c i ts D) D σ H) := by
  constructor
  intro pins s σ H D I h
  have frames : X.A.frames = some (X.env :: X.outer) := by
    rw [← hs]
    exact I.ok.frames
  apply wpAny_Try_except
  refine wpAny_mono ((inner (wKept X.K c i ts D) (X.pn ++ pins) _ ?later PassesOwn.looking).run
    [] s σ H D (I.toTry _) h) ?done fun _ _ z => z
  case later =>
    rintro u t ⟨a, G, g, pq, σ1, H1, cls, d, rfl, J0, kp, up, sky, na, os, ag, hb, go⟩
    have J := J0.ofTry I.ok
    rw [hs] at sky
    refine Sky.land Zc.steady frames hf sky fun h3 f3 u3 => ?_
    obtain ⟨e3, v3, at3, z3, d3⟩ := f3.there
    -- it is none of the frames
    have away : a ∉ frs (X.env :: X.outer) := by
      intro z
      obtain ⟨_, o, ho, no⟩ := f3.2.2.1.mem z
      rw [at3] at ho
      injection ho with ho
      subst ho
      exact no _ d3
    have a1 : a ≠ X.env.locals := fun z =>
      away (List.mem_filterMap.mpr ⟨X.env, .head _, z ▸ hf⟩)
    have a2 : a ∉ X.fs := by
      intro z
      obtain ⟨e, he, q⟩ := List.mem_filterMap.mp z
      exact away (List.mem_filterMap.mpr ⟨e, .tail _ he, q⟩)
    obtain ⟨n0, apart⟩ := caught_new J kp f3.2.1 (hs ▸ away) hex
    have J3 := J.landed (s' := { t with heap := h3 }) kp f3.1 (up.trans u3) os ag
    have S3 := J3.suite at3 d3 na a1 a2
    refine wpAny_handleBy_cons (codeAny_handlers_test ?_) (fun z => nomatch z)
    have ty : PySem.W.Looks (model X.prog X.w) h3 (typeOf (.ref a)) cls := fun _ _ _ _ k q =>
      wpAny_typeOf_ref (k _ _ at3) (z3.1 ▸ q)
    have hit := PySem.W.exm_one J3.kIn ty hb
    have named : ∀ {Q E : Value → Shared → Prop}, Q c { t with heap := h3 } →
        wpAny (model X.prog X.w) (X.A.mark (some (.ref a))) (eval (.Name x np) X.env) Q E { t with heap := h3 } := by
      intro Q E q
      obtain ⟨gl, dbg, mine | ⟨none', boot, other⟩⟩ := hc
      · exact ld_glob S3 gl mine q dbg
      · exact ld_blt S3 gl none' boot q other dbg
    refine named (hit.here (codeAny_handlers_suite_as ?_))
    refine HandSPX.lands_againZ f3 fun h4 f4 u4 => ?_
    obtain ⟨e4, v4, at4, z4, d4⟩ := f4.there
    have J4 := J.landed (s' := { t with heap := h4 }) kp f4.1 ((up.trans u3).trans u4) os ag
    refine store_ok (X := X.suite a ((a, e4) :: (X.pn ++ pins)))
      (J4.suite at4 d4 na a1 a2) (v := .ref a) hN hi (.inl hln) rfl (fun s5 S5 => ?_) (.inr hln)
    have fin := (clause a ((a, e4) :: (X.pn ++ pins))).run [] s5 _ H1 _ S5 (go a na)
    refine wpAny_mono fin (fun fl s6 done => ?_) fun _ _ z => z.elim
    cases fl with
    | next =>
      obtain ⟨σ6, H6, S6, q6⟩ := done
      refine gone_ok (unsuite2 S6 I.ok) hN hi hln fun s7 J7 => ?_
      exact ⟨_, _, track J7 z4 d4 n0 apart, q6⟩
    | brk => exact (let ⟨_, _, _, z⟩ := done; z.elim)
    | cont => exact (let ⟨_, _, _, z⟩ := done; z.elim)
    | ret u => exact (let ⟨_, _, _, _, _, z⟩ := done; z.elim)
  intro fl s1 done
  cases fl with
  | next => exact (let ⟨_, _, J, z⟩ := done; wpAny_execs_nil ⟨_, _, J.ofTry I.ok, z⟩)
  | brk => exact (let ⟨_, _, J, z⟩ := done; ⟨_, _, J.ofTry I.ok, z⟩)
  | cont => exact (let ⟨_, _, J, z⟩ := done; ⟨_, _, J.ofTry I.ok, z⟩)
  | ret u => exact (let ⟨_, _, _, J, r, z⟩ := done; ⟨_, _, _, J.ofTry I.ok, r, z⟩)
/-- isinstance(e, c), e an error that was kept -/
def rIsT (K : PySem.W.Frag) : List V → Hp → VK → Prop := fun xs H Q => ∃ (a D : Addr) (cc : V) (cv : Value) (b : Bool), xs = [.ref a, cc] ∧ H a = some (ExT (.ref D) none a) ∧ ExcC K D ∧ (∀ u, RelV cc u → u = cv) ∧ PySem.W.kitOne K (.ref D) cv = some b ∧ Q (.bl b) H
theorem call_isT : CallR X (.builtin "isinstance") (rIsT X.K) := by
  intro pins s σ H xs us Q I r h
  obtain ⟨a, D, cc, cv, b, rfl, ea, C, hcv, e, q⟩ := h
  cases r with
  | cons rx rr =>
    cases rr with
    | cons rt rr =>
      cases rr
      cases rx
      have ec := hcv _ rt
      subst ec
      obtain ⟨⟨oe, vs, hget, hz, hv⟩, _⟩ := I.hok a _ ea
      have J : PySem.W.InstAt s.heap a oe D none := by
        obtain ⟨oc, od, oda, osl⟩ := oe
        obtain ⟨h1, h2⟩ := hz
        dsimp only at h1 h2 hv
        subst h1 h2 hv
        exact ⟨hget, rfl, rfl, trivial⟩
      exact PySem.W.kia_one (PySem.W.handS_kitx_exc C.hg C.hk C.hs C.hd C.ha C.hn C.ht C.hm) I.kIn J e (fun z => nomatch z) fun tk => ⟨.bl b, H, I.kept (t' := tk) fun _ _ z => z, rfl, q⟩
end
section
variable {X : Cx}
/-- a def that may raise, called where it does not -/
theorem pe_cL {k j : Nat} {x : Str} {dvs : List V} {sp : Sp} {e : Expr} {es : List Expr} {t : TA} {p pos : Pos} (c : Cal X.K X.mg (L2.CX X.prog X.w) X.prog X.w X.base k x dvs sp) (hr : Room j X.A) (ha : PA X (e :: es) t) (hk : k ≤ j := by decide) (hg : Gl X x := by rfl)
    (hdb : (x == ("__debug__" : Str)) = false := by decide) (he : starEach (e :: es) X.env = (false, eval e X.env) :: starEach es X.env := by rfl) (hpl : (backTo pos (starEach es X.env)).any (·.1) = false := by rfl) :
    PE X (.Call (.Name x p) (e :: es) [] pos) (tCall sp dvs E0 t) := by
  obtain ⟨f, fd, ps, ds, F, hm, kp, b, d⟩ := c.ex
  exact pe_call F (hr.mono hk) hg hm kp b d passL ha hdb he hpl
/-- .. in a def that lets it out -/
theorem pe_cX {k j : Nat} {x : Str} {dvs : List V} {sp : Sp} {E : XK} {e : Expr} {es : List Expr} {t : TA} {p pos : Pos} (c : Cal X.K X.mg (L2.CX X.prog X.w) X.prog X.w X.base k x dvs sp) (hr : Room j X.A) (tk : Takes X fun cls d _ H => E cls d H) (ha : PA X (e :: es) t) (hk : k ≤ j := by decide) (hg : Gl X x := by rfl)
    (hdb : (x == ("__debug__" : Str)) = false := by decide) (he : starEach (e :: es) X.env = (false, eval e X.env) :: starEach es X.env := by rfl) (hpl : (backTo pos (starEach es X.env)).any (·.1) = false := by rfl) :
    PE X (.Call (.Name x p) (e :: es) [] pos) (tCall sp dvs E t) := by
  obtain ⟨f, fd, ps, ds, F, hm, kp, b, d⟩ := c.ex
  exact pe_call F (hr.mono hk) hg hm kp b d (passes_call tk fun _ _ _ _ h => h) ha hdb he hpl
/-- .. in a try's body, at the slots -/
def tCallT (sp : Sp) (dvs : List V) (E : L2.St → XK) (t : TA) : TE := fun σ H Q => t σ H fun vs H1 => sp (vs ++ dvs) H1 Q (E σ)
end
end Hr
/-! ### errors of the text, defs that raise them -/
namespace Hr
open PySem PySem.Spec PyProof.Rows L2
/-- the class x of errors at C -/
structure Err (K : PySem.W.Frag) (mg : Str → Option Value) (x : Str) (C : Addr) : Prop where
  g : mg x = some (.ref C)
  x : PySem.W.excIn K C [.type "ValueError", .type "Exception", .type "BaseException", .type "object"] "ValueError.__new__" = true
  k : PySem.W.keepIn K (.ref C) = true
  b : PySem.W.subIn K (.ref C) (.type "BaseException") = some true
  t : PySem.W.typeIn K (.ref C) = some (.type "type")
section
variable {P : Program} {w : World} {K : PySem.W.Frag} {mg : Str → Option Value} {base : Heap}
theorem Def.calX {x : Str} {st : Stmt} {N ps : List Str} {k : Nat} {sp : Sp} (D : Def K mg x st ps) (S : FnScope N ps (defScope st)) (len : ∀ vs H Q E, sp vs H Q E → vs.length = ps.length)
    (hbody : ∀ (f : Addr) (cdv : Value) (A : Around) (outer : List Env) (s : Shared) (H : Hp) (vs : List V) (Q : VK) (E : XK), Room k (A.deeper (envOfC x (defScope st) s.heap.objs.size f cdv)) → sp vs H Q E →
      ∃ t, PSs (cxOf (L2.CX P w) P w K mg base N x (defScope st) f cdv A outer s H E) (defBody st) t ∧ t { nx := fun _ H' => Q .non H', rt := Q } (start N vs) H) : Cal K mg (L2.CX P w) P w base (k + 1) x [] sp := by
  obtain ⟨f, fd, F, hm, b⟩ := D.ex
  exact ⟨f, fd, ps, [], F.okX S len (hbody f), hm, F.kp, b, .nil⟩
theorem DefD.okX {x : Str} {st : Stmt} {N ps : List Str} {k : Nat} {sp : Sp} (D : DefD K mg x st ps) (S : FnScope N ps (defScope st)) (len : ∀ vs H Q E, sp vs H Q E → vs.length = ps.length)
    (hbody : ∀ (f : Addr) (cdv : Value) (A : Around) (outer : List Env) (s : Shared) (H : Hp) (vs : List V) (Q : VK) (E : XK), Room k (A.deeper (envOfC x (defScope st) s.heap.objs.size f cdv)) → sp vs H Q E →
      ∃ t, PSs (cxOf (L2.CX P w) P w K mg base N x (defScope st) f cdv A outer s H E) (defBody st) t ∧ t { nx := fun _ H' => Q .non H', rt := Q } (start N vs) H) :
    Cal K mg (L2.CX P w) P w base (k + 1) x [] sp ∧ Cal K mg (L2.CX P w) P w base (k + 1) x [.non] sp := by
  obtain ⟨f, fd, F, hm, b, ds, vd, b2⟩ := D.ex
  have G : FnOk P w K mg base (L2.CX P w) (k + 1) f fd ps sp := F.ok S len (hbody f)
  exact ⟨⟨f, fd, ps, [], G, hm, F.kp, b, .nil⟩, ⟨f, fd, ps, ds, G, hm, F.kp, b2, vd⟩⟩
theorem DefV.okX {x : Str} {st : Stmt} {N ps : List Str} {k : Nat} {sp : Sp} {dv : V} (D : DefV K mg x st ps dv) (S : FnScope N ps (defScope st)) (len : ∀ vs H Q E, sp vs H Q E → vs.length = ps.length)
    (hbody : ∀ (f : Addr) (cdv : Value) (A : Around) (outer : List Env) (s : Shared) (H : Hp) (vs : List V) (Q : VK) (E : XK), Room k (A.deeper (envOfC x (defScope st) s.heap.objs.size f cdv)) → sp vs H Q E →
      ∃ t, PSs (cxOf (L2.CX P w) P w K mg base N x (defScope st) f cdv A outer s H E) (defBody st) t ∧ t { nx := fun _ H' => Q .non H', rt := Q } (start N vs) H) :
    Cal K mg (L2.CX P w) P w base (k + 1) x [] sp ∧ Cal K mg (L2.CX P w) P w base (k + 1) x [dv] sp := by
  obtain ⟨f, fd, F, hm, b, ds, vd, b2⟩ := D.ex
  have G : FnOk P w K mg base (L2.CX P w) (k + 1) f fd ps sp := F.ok S len (hbody f)
  exact ⟨⟨f, fd, ps, [], G, hm, F.kp, b, .nil⟩, ⟨f, fd, ps, ds, G, hm, F.kp, b2, vd⟩⟩
end
end Hr
/-! ### the law's own numbers -/
namespace Hr
open PySem PySem.Spec PyProof.Rows L2
/-- what _law_mixed makes of a cell at its place -/
def mixed (z k : Int) : Int :=
  let m := (z % 2147483629 + 104729 * (k + 1)) * 16807 % 2147483647
  m * m % 2147483629 * 48271 % 2147483647
theorem mixed_nonneg (z k : Int) : 0 ≤ mixed z k := Int.emod_nonneg _ (by decide)
theorem mixed_lt (z k : Int) : mixed z k < 2147483647 := Int.emod_lt_of_pos _ (by decide)
theorem scMixed : FnScope ["_law_cell", "_law_k", "_law_mark"] ["_law_cell", "_law_k"] (defScope sMixed) := ⟨rfl, rfl, rfl, by decide +kernel, rfl, by decide +kernel, by decide +kernel⟩
section
variable {P : Program} {w : World} {K : PySem.W.Frag} {mg : Str → Option Value} {base : Heap}
def spMixed : Sp := fun vs H Q _ => ∃ (z k : Int), vs = [.int z, .int k] ∧ Q (.int (mixed z k)) H
theorem cal_mixed (D : Def K mg "_law_mixed" sMixed ["_law_cell", "_law_k"]) : Cal K mg CX0 P w base 1 "_law_mixed" [] spMixed := by
  refine D.cal scMixed (fun vs H Q E h => ?_) (fun f cdv A outer s H vs Q E hr h => ?_)
  · obtain ⟨z, k, rfl, _⟩ := h
    rfl
  · obtain ⟨z, k, rfl, q⟩ := h
    refine ⟨_, pss_cons (ps_set (i := 2) scMixed.nd rfl (.inl rfl) (pe_op op_mod (pe_op op_mul (pe_op op_add (pe_op op_mod (pv 0) pe_int) (pe_op op_mul pe_int (pe_op op_add (pv 1) pe_int))) pe_int) pe_int))
      (pss_one (ps_ret (pe_op op_mod (pe_op op_mul (pe_op op_mod (pe_op op_mul (pv 2) (pv 2)) pe_int) pe_int) pe_int))), ?_⟩
    refine ⟨.int z, rfl, z, 2147483629, rfl, rfl, (by show (0 : Int) < 2147483629; decide), .int k, rfl, k, 1, rfl, rfl, 104729, k + 1, rfl, rfl, .inl ⟨by decide, by decide⟩, z % 2147483629, 104729 * (k + 1), rfl, rfl, _, 16807, rfl, rfl, .inr ⟨by decide, by decide⟩,
      _, 2147483647, rfl, rfl, (by show (0 : Int) < 2147483647; decide), ?_⟩
    have h0 : 0 ≤ (z % 2147483629 + 104729 * (k + 1)) * 16807 % 2147483647 := Int.emod_nonneg _ (by decide)
    have h1 : (z % 2147483629 + 104729 * (k + 1)) * 16807 % 2147483647 < 2147483647 := Int.emod_lt_of_pos _ (by decide)
    refine ⟨_, rfl, _, rfl, _, _, rfl, rfl, .inl ⟨by omega, by omega⟩, _, 2147483629, rfl, rfl, (by show (0 : Int) < 2147483629; decide), _, 48271, rfl, rfl, .inr ⟨by decide, by decide⟩, _, 2147483647, rfl, rfl, (by show (0 : Int) < 2147483647; decide), ?_⟩
    exact q
end
end Hr
namespace Hr
open PySem PySem.Spec PyProof.Rows L2
/-- a ceiling as a value -/
def cV : Option Nat → V
  | none => .non
  | some k => .int (k : Int)
/-- a ceiling in its bounds -/
def cOk (m : Nat) : Option Nat → Prop
  | none => True
  | some k => k ≤ m
end Hr
/-! ### rows as texts -/
namespace Hr
open PySem PySem.Spec PyProof.Rows L2
def code (b : Bool) : Nat := if b = true then 117 else 100
def txt (l : List Bool) : Str := ⟨(l.map code).toArray⟩
def sgn (b : Bool) : Str := ⟨#[code b]⟩
theorem txt_len (l : List Bool) : (txt l).length = l.length := by
  show ((l.map code).toArray).size = _
  rw [List.size_toArray, List.length_map]
theorem txt_size (l : List Bool) : (txt l).cps.size = l.length := txt_len l
theorem txt_at (l : List Bool) (i : Nat) : (txt l).cps[i]? = (l[i]?).map code := by
  show ((l.map code).toArray)[i]? = _
  rw [List.getElem?_toArray, List.getElem?_map]
theorem code_inj {a b : Bool} (h : code a = code b) : a = b := by
  cases a <;> cases b <;> first | rfl | (exact absurd h (by decide))
theorem map_code_inj : ∀ {a b : List Bool}, a.map code = b.map code → a = b
  | [], [], _ => rfl
  | [], _ :: _, e => by cases e
  | _ :: _, [], e => by cases e
  | x :: a, y :: b, e => by
    rw [List.map_cons, List.map_cons] at e
    injection e with e1 e2
    rw [code_inj e1, map_code_inj e2]
theorem txt_inj {a b : List Bool} (h : txt a = txt b) : a = b := by
  have := congrArg (fun z : Str => z.cps.toList) h
  exact map_code_inj (by simpa [txt] using this)
theorem txt_append (a b : List Bool) : txt a ++ txt b = txt (a ++ b) := by
  have := SX.S_cat (a.map code) (b.map code)
  rw [← List.map_append] at this
  exact this
theorem eU : ("u" : Str) = ⟨#[117]⟩ := by decide +kernel
theorem eD : ("d" : Str) = ⟨#[100]⟩ := by decide +kernel
theorem eE : ("" : Str) = ⟨#[]⟩ := by decide +kernel
theorem sgn_u : sgn true = ("u" : Str) := eU.symm
theorem sgn_d : sgn false = ("d" : Str) := eD.symm
theorem one_inj {a b : Nat} : ((⟨#[a]⟩ : Str) = ⟨#[b]⟩) ↔ a = b := by
  constructor
  · intro h
    have := congrArg (fun z : Str => z.cps.toList) h
    simpa using this
  · intro h
    rw [h]
theorem is_u (c : Nat) : decide (V.str ⟨#[c]⟩ = V.str ("u" : Str)) = decide (c = 117) := by
  refine decide_eq_decide.mpr ?_
  rw [eU]
  exact ⟨fun z => one_inj.mp (V.str.inj z), fun z => by rw [z]⟩
theorem code_u (b : Bool) : decide (code b = 117) = b := by cases b <;> rfl
/-- a text of ups and downs alone -/
def isS (c : Nat) : Bool := decide (c = 117) || decide (c = 100)
def isRowB (z : Str) : Bool := z.cps.toList.all isS
theorem isRowB_txt (l : List Bool) : isRowB (txt l) = true := by
  show (l.map code).toArray.toList.all isS = true
  rw [List.all_eq_true]
  intro c hc
  have hc : c ∈ l.map code := hc
  obtain ⟨b, _, rfl⟩ := List.mem_map.mp hc
  cases b <;> rfl
/-- the signs of a text -/
def signs (z : Str) : List Bool := z.cps.toList.map fun c => decide (c = 117)
theorem signs_txt (l : List Bool) : signs (txt l) = l := by
  show (l.map code).map _ = l
  rw [List.map_map]
  refine (List.map_congr_left fun b _ => ?_).trans (List.map_id l)
  exact code_u b
theorem txt_signs {z : Str} (h : isRowB z = true) : txt (signs z) = z := by
  obtain ⟨⟨l⟩⟩ := z
  have h : l.all isS = true := h
  show (⟨((l.map fun c => decide (c = 117)).map code).toArray⟩ : Str) = ⟨l.toArray⟩
  congr 2
  rw [List.map_map]
  refine (List.map_congr_left fun c hc => ?_).trans (List.map_id l)
  have := List.all_eq_true.mp h c hc
  unfold isS at this
  show code (decide (c = 117)) = c
  by_cases e : c = 117
  · rw [e]
    rfl
  · have e2 : c = 100 := by simpa [e] using this
    rw [e2]
    rfl
theorem signs_len (z : Str) : (signs z).length = z.length := by
  unfold signs
  rw [List.length_map, Array.length_toList]
  rfl
/-- whether a text is a hill row under a ceiling -/
def hillB (c : Option Nat) (z : Str) : Bool := isRowB z && okb c 0 (signs z)
theorem hillB_txt (c : Option Nat) (l : List Bool) : hillB c (txt l) = okb c 0 l := by
  unfold hillB
  rw [isRowB_txt, signs_txt, Bool.true_and]
theorem in_signs (c : Nat) : inV (.str ⟨#[c]⟩) [.str "u", .str "d"] = isS c := by
  have e : ∀ (k : Nat), ((⟨#[k]⟩ : Str) == ⟨#[c]⟩) = decide (c = k) := fun k => by
    by_cases h : c = k
    · rw [h]
      simp
    · rw [decide_eq_false h]
      refine beq_eq_false_iff_ne.mpr fun z => h (one_inj.mp z).symm
  show (("u" : Str) == ⟨#[c]⟩ || (("d" : Str) == ⟨#[c]⟩ || false)) = _
  rw [eU, eD, e, e, Bool.or_false]
  rfl
theorem take_snoc {α : Type} {l : List α} {i : Nat} {x : α} (h : l[i]? = some x) : l.take (i + 1) = l.take i ++ [x] := by
  rw [List.take_add_one, h]
  rfl
theorem scIsRow : FnScope ["text", "sign"] ["text"] (defScope sIsRow) := ⟨rfl, rfl, rfl, by decide +kernel, rfl, by decide +kernel, by decide +kernel⟩
theorem scHeights : FnScope ["row", "height", "found", "sign"] ["row"] (defScope sHeights) := ⟨rfl, rfl, rfl, by decide +kernel, rfl, by decide +kernel, by decide +kernel⟩
section
variable {P : Program} {w : World} {K : PySem.W.Frag} {mg : Str → Option Value} {base : Heap}
def spIsRow : Sp := fun vs H Q _ => ∃ (z : Str), vs = [.str z] ∧ z.length ≤ 1000 ∧ ∀ H', Same H H' → Q (.bl (isRowB z)) H'
theorem cal_isRow (D : Def K mg "is_row" sIsRow ["text"]) (misi : mg "isinstance" = none) (mstr : mg "str" = none) (mall : mg "all" = none) {t1 t2 : Tok} (gU : mg "UP" = some (.str "u" t1)) (gD : mg "DOWN" = some (.str "d" t2)) : Cal K mg CX0 P w base 1 "is_row" [] spIsRow := by
  refine D.cal scIsRow (fun vs H Q E h => ?_) (fun f cdv A outer s H vs Q E hr h => ?_)
  · obtain ⟨z, rfl, _⟩ := h
    rfl
  · obtain ⟨z, rfl, hz, q⟩ := h
    refine ⟨_, pss_one (ps_ret (pe_and (pe_callB call_isi (by rfl) misi (by decide +kernel) (pa_cons (pv 0) (pa_cons (pe_bltn (v := .ty "str") (u := .type "str") (by rfl) mstr (by decide +kernel) rfl) pa_nil)))
      (pe_one (pe_callB (cr_all rfl) (by rfl) mall (by decide +kernel) (pa_cons (pe_lc (own := [("sign", 1)]) (g := gName 1) (tt := tYes) rfl scIsRow.nd (pi_str (pv 0))
        (blkOk_by (N := ["text", "sign"]) (sc := defScope sIsRow) (by decide +kernel)) (fun _ _ _ _ _ => pg_name (i := 1) scIsRow.nd rfl (Or.inl rfl)) (fun _ _ _ _ _ => pts_nil)
        (fun _ _ _ _ _ => pe_cmpR (r := rIn K false) op_in_seq (pv 1) (pe_tup (pa_cons (pe_glob (v := .str "u") (by rfl) gU ⟨_, rfl⟩) (pa_cons (pe_glob (v := .str "d") (by rfl) gD ⟨_, rfl⟩) pa_nil))) (by rfl))) pa_nil))))), ?_⟩
    refine ⟨.str z, rfl, .str z, .ty "str", _, _, true, rfl, .ty "str", .base (.str z), kit_ty (by decide +kernel), true, rfl, iteT ?_⟩
    refine ⟨.str z, rfl, z, rfl, fun D nD => ?_⟩
    refine lc_it walk_str (fun i H' => Same H H' ∧ H' D = some (.lst (((z.cps.toList.take i).map isS).map V.bl))) ⟨same_upd nD, upd_same⟩ (fun _ _ _ _ => trivial) ?_ ?_
    · rintro i x H1 H2 hi ⟨sm, eD⟩ ⟨rfl, c, hc, rfl⟩
      have hc' : z.cps.toList[i]? = some c := by rw [Array.getElem?_toList]; exact hc
      refine ⟨rfl, ?_⟩
      unfold tYes
      refine iteT ?_
      refine ⟨_, rfl, sz (show 2 ≤ 1000000 by decide), fun t nt => ?_⟩
      have nDt : D ≠ t := ne_of_none eD nt
      refine ⟨t, _, rfl, .inr (.inl (.inl upd_same)), rfl, rfl, _, by rw [upd_ne nDt]; exact eD, szl ?_, same_updN (sm.trans (same_upd nt)) nD, ?_⟩
      · rw [List.length_map, List.length_map, List.length_take]
        have : z.cps.toList.length = z.length := rfl
        omega
      · rw [upd_same, take_snoc hc', List.map_append, List.map_append]
        show some (HO.lst (_ ++ [V.bl (inV (.str ⟨#[c]⟩) [.str "u", .str "d"])])) = _
        rw [in_signs]
        rfl
    · rintro H1 ⟨sm, eD⟩
      refine ⟨D, _, rfl, .inl (.inl eD), ?_⟩
      have e : (((z.cps.toList.take z.cps.size).map isS).all id) = isRowB z := by
        rw [List.take_of_length_le (by rw [Array.length_toList]; exact Nat.le_refl _), List.all_map]
        rfl
      rw [e]
      exact q H1 sm
end
end Hr
/-! ### the law's walk; a turning as a text -/
namespace Hr
open PySem PySem.Spec PyProof.Rows L2
theorem cutS_from {l : List Bool} {k : Nat} (h : k ≤ l.length) : cutS (txt l) (some (k : Int)) none = txt (l.drop k) := by
  unfold cutS
  rw [txt_len, HT.sIx_nat, Nat.min_eq_left h]
  show (⟨(((l.map code).drop k).take (l.length - k)).toArray⟩ : Str) = _
  rw [List.take_of_length_le (by rw [List.length_drop, List.length_map]; exact Nat.le_refl _), ← List.map_drop]
  rfl
theorem cutS_to {l : List Bool} {k : Nat} (h : k ≤ l.length) : cutS (txt l) none (some (k : Int)) = txt (l.take k) := by
  unfold cutS
  rw [txt_len, HT.sIx_nat, Nat.min_eq_left h]
  show (⟨(((l.map code).drop 0).take (k - 0)).toArray⟩ : Str) = _
  rw [List.drop_zero, Nat.sub_zero, ← List.map_take]
  rfl
theorem turned_txt {l : List Bool} {k : Nat} (h : k ≤ l.length) : cutS (txt l) (some (k : Int)) none ++ cutS (txt l) none (some (k : Int)) = txt (turned l k) := by
  rw [cutS_from h, cutS_to h, txt_append]
  rfl
theorem is_d (b : Bool) : decide (V.str ⟨#[code b]⟩ = V.str ("d" : Str)) = !b := by
  cases b
  · exact decide_eq_true (by rw [eD]; rfl)
  · refine decide_eq_false fun z => ?_
    rw [eD] at z
    exact absurd (one_inj.mp (V.str.inj z)) (by decide)
theorem scStays : FnScope ["_law_row", "_law_height", "_law_place", "_law_sign"] ["_law_row"] (defScope sStays) := ⟨rfl, rfl, rfl, by decide +kernel, rfl, by decide +kernel, by decide +kernel⟩
section
variable {P : Program} {w : World} {K : PySem.W.Frag} {mg : Str → Option Value} {base : Heap} {cs : Nat → Addr}
def spStays : Sp := fun vs H Q _ => ∃ l : List Bool, vs = [.str (txt l)] ∧ l.length ≤ 1000 ∧ ∀ H', Same H H' → Q (.bl (stayB 0 l)) H'
theorem cal_stays (D : Def K mg "_law_stays" sStays ["_law_row"]) (m_len : mg "len" = none) (m_int : mg "int" = none) (m_enumerate : mg "enumerate" = none) : Cal K mg CX0 P w base 1 "_law_stays" [] spStays := by
  refine D.cal scStays (fun vs H Q E h => ?_) (fun f cdv A outer s H vs Q E hr h => ?_)
  · obtain ⟨l, rfl, _⟩ := h
    rfl
  · obtain ⟨l, rfl, hz, q⟩ := h
    have nd := scStays.nd
    refine ⟨_, (pss_cons (ps_set (i := 1) nd rfl (.inl rfl) pe_int)
    (pss_cons (ps_for PassesOwn.never rfl (pi_es (by rfl) m_enumerate (pa_cons (pv 0) pa_nil)) (pg_tup rfl (pgs_cons (pg_name (i := 2) nd rfl (.inl rfl)) (pgs_cons (pg_name (i := 3) nd rfl (.inl rfl)) pgs_nil))) (pss_cons (ps_set (i := 1) nd rfl (.inl rfl) (pe_op op_add (pv 1) (pe_ix ix_list (pe_lst (pa_cons pe_int (pa_cons (pe_un un_neg pe_int) pa_nil))) (pe_callTy call_int1 (by rfl) m_int boot_int (pa_cons (pe_cmpR op_eq (pv 3) pe_str (nomark _)) pa_nil)) (fun _ _ => rfl))))
      (pss_one (ps_if (pt_cmpR op_lt (pv 1) pe_int (nomark _)) (pss_one (ps_ret (pe_cmpR op_eq (pv 2) (pe_op op_sub (pe_callB call_len_str (by rfl) m_len PySem.boot_len (pa_cons (pv 0) pa_nil)) pe_int) (nomark _)))) pss_nil))))
    (pss_one (ps_ret pe_bl)))), ?_⟩
    refine ⟨_, rfl, txt l, rfl, ?_⟩
    refine for_it walk_es (fun i σ H' => ∃ (h : Int) (y2 y3 : Option V), σ = [some (.str (txt l)), some (.int h), y2, y3] ∧ Same H H' ∧ stayB 0 l = stayB h (l.drop i)) ?_ (fun _ _ _ _ _ => trivial) ?_ ?_
    · exact ⟨0, none, none, rfl, Same.refl _, rfl⟩
    · rintro i x σ H2 H3 hi ⟨h, y2, y3, rfl, sm, eh⟩ ⟨T, k0, v, rfl, nT, rfl, ek, ev⟩
      have ek : k0 = .int (i : Int) := (Option.some.inj ek).symm
      subst ek
      rw [txt_size] at hi
      obtain ⟨b, hb⟩ : ∃ b, l[i]? = some b := ⟨_, List.getElem?_eq_getElem hi⟩
      have ev : v = .str ⟨#[code b]⟩ := by
        have ev : ((txt l).cps[i]?).map (fun c => V.str ⟨#[c]⟩) = some v := ev
        rw [txt_at, hb] at ev
        exact (Option.some.inj ev).symm
      subst ev
      have hd : l.drop i = b :: l.drop (i + 1) := by
        rw [List.drop_eq_getElem_cons hi]
        rw [List.getElem?_eq_getElem hi] at hb
        rw [Option.some.inj hb]
      rw [hd] at eh
      refine ⟨T, _, rfl, .inl (.inl upd_same), rfl, _, _, rfl, _, _, rfl, rfl, ?_⟩
      replace sm := sm.trans (same_upd (o := .tup [.int (i : Int), .str ⟨#[code b]⟩]) nT)
      refine ⟨_, rfl, 1, rfl, sz (show 2 ≤ 1000000 by decide), fun p np => ?_⟩
      replace sm := sm.trans (same_upd (o := .lst [.int 1, .int (-1)]) np)
      have ix : ([V.int 1, V.int (-1)])[if b = true then 0 else 1]? = some (.int (sg b)) := by cases b <;> rfl
      refine ⟨_, rfl, rfl, .inr ⟨_, rfl, p, _, _, .int (sg b), rfl, rfl, .inl (.inl upd_same), at_of (j := if b = true then 0 else 1) ?_ ix, _, _, rfl, rfl, ?_⟩⟩
      · rw [is_d]
        cases b <;> rfl
      refine ⟨_, rfl, _, _, rfl, rfl, _, rfl, ite2 (fun e => ?_) (fun e => ?_)⟩
      · have hn : h + sg b < 0 := of_decide_eq_true e
        refine ⟨_, rfl, _, rfl, txt l, rfl, sz (by rw [txt_len]; omega), _, _, rfl, rfl, rfl, ?_⟩
        have hv : stayB 0 l = decide (V.int (i : Int) = V.int (((txt l).length : Int) - 1)) := by
          rw [eh]
          show (if h + sg b < 0 then (l.drop (i + 1)).isEmpty else _) = _
          rw [if_pos hn, Bool.eq_iff_iff, List.isEmpty_iff, decide_eq_true_eq, List.drop_eq_nil_iff, txt_len]
          constructor
          · intro z
            exact congrArg V.int (by omega)
          · intro z
            have := V.int.inj z
            omega
        have := q _ sm
        rw [hv] at this
        exact this
      · have hn : ¬ h + sg b < 0 := fun z => e (decide_eq_true z)
        refine ⟨h + sg b, _, _, rfl, sm, ?_⟩
        rw [eh]
        show (if h + sg b < 0 then _ else stayB (h + sg b) (l.drop (i + 1))) = _
        rw [if_neg hn]
    · rintro σ H2 ⟨h, y2, y3, rfl, sm, eh⟩
      have e : stayB 0 l = false := by
        rw [eh, txt_size, List.drop_length]
        rfl
      have := q _ sm
      rw [e] at this
      exact this
end
end Hr
/-! ### which error it is -/
namespace Hr
open PySem PySem.Spec PyProof.Rows L2
section
variable {X : Cx}
/-- a call in a try's body -/
theorem pe_cT {k j : Nat} {x : Str} {sp : Sp} {W : WX} {e : Expr} {es : List Expr} {t : TA} {p pos : Pos} (c : Cal X.K X.mg (L2.CX X.prog X.w) X.prog X.w X.base k x [] sp) (hr : Room j X.A) (tk : Takes X W) (ha : PA X (e :: es) t) (hk : k ≤ j := by decide) (hg : Gl X x := by rfl)
    (hdb : (x == ("__debug__" : Str)) = false := by decide) (he : starEach (e :: es) X.env = (false, eval e X.env) :: starEach es X.env := by rfl) (hpl : (backTo pos (starEach es X.env)).any (·.1) = false := by rfl) :
    PE X (.Call (.Name x p) (e :: es) [] pos) (tCallS sp (WE W) t) := by
  obtain ⟨f, fd, ps, ds, F, hm, kp, b, d⟩ := c.ex
  cases d
  exact pe_callS F (hr.mono hk) hg hm kp b (fun σ => passAt tk σ) ha hdb he hpl
end
def errWords : List Str := ["row", "count", "rank", "place", "tree", "pairs", "turn", "text"]
def wordAt (k : Nat) : Str := errWords.getD k ""
theorem errWords_at {i : Nat} (h : i < 8) : (errWords.map V.str)[i]? = some (.str (wordAt i)) := by
  have h' : i < errWords.length := h
  unfold wordAt
  rw [List.getElem?_map, List.getElem?_eq_getElem h', List.getD_eq_getElem?_getD, List.getElem?_eq_getElem h']
  rfl
def flagsOf (k : Nat) : List V := (List.range 8).map fun j => V.bl (decide (j = k))
theorem flags_at {i k : Nat} (h : i < 8) : (flagsOf k)[i]? = some (.bl (decide (i = k))) := by
  unfold flagsOf
  rw [List.getElem?_map, List.getElem?_range h]
  rfl
theorem join_one (y w : Str) : Txt.join y [w] = w := by
  rw [TL.join_eq]
  rfl
/-- an error of the k-th class among the eight at cs -/
structure IsErr (K : PySem.W.Frag) (cs : Nat → Addr) (k : Nat) : Prop where
  lt : k < 8
  c : ExcC K (cs k)
  kit : ∀ j, j < 8 → PySem.W.kitOne K (.ref (cs k)) (.ref (cs j)) = some (decide (j = k))
  ve : PySem.W.kitOne K (.ref (cs k)) (.type "ValueError") = some true
theorem ref_only {C : Addr} : ∀ u, RelV (.ref C) u → u = Value.ref C := fun _ h => h
theorem scWord : FnScope ["_law_error", "_law_words", "_law_one", "_law_other", "_law_flags", "_law_word_here", "_law_flag"] ["_law_error"] (defScope sWord) := ⟨rfl, rfl, rfl, by decide +kernel, rfl, by decide +kernel, by decide +kernel⟩
section
variable {P : Program} {w : World} {K : PySem.W.Frag} {mg : Str → Option Value} {base : Heap} {cs : Nat → Addr}
def spWord (K : PySem.W.Frag) (cs : Nat → Addr) : Sp := fun vs H Q _ => ∃ (a : Addr) (k : Nat), vs = [.ref a] ∧ H a = some (ExT (.ref (cs k)) none a) ∧ IsErr K cs k ∧ ∀ H', Same H H' → Q (.str (wordAt k)) H'
theorem cal_word (D : Def K mg "_law_word" sWord ["_law_error"]) (g0 : mg "NoRow" = some (.ref (cs 0))) (g1 : mg "NoCount" = some (.ref (cs 1))) (g2 : mg "NoRank" = some (.ref (cs 2))) (g3 : mg "NoPlace" = some (.ref (cs 3)))
    (g4 : mg "NoTree" = some (.ref (cs 4))) (g5 : mg "NoPairs" = some (.ref (cs 5))) (g6 : mg "NoTurn" = some (.ref (cs 6))) (g7 : mg "NoText" = some (.ref (cs 7))) (misi : mg "isinstance" = none) (mzip : mg "zip" = none) : Cal K mg CX0 P w base 1 "_law_word" [] (spWord K cs) := by
  refine D.cal scWord (fun vs H Q E h => ?_) (fun f cdv A outer s H vs Q E hr h => ?_)
  · obtain ⟨a, k, rfl, _⟩ := h
    rfl
  · obtain ⟨a, k, rfl, ea, er, q⟩ := h
    have nd := scWord.nd
    refine ⟨_, (pss_cons (ps_set (i := 1) nd rfl (.inl rfl) (pe_lst (pa_cons pe_str (pa_cons pe_str (pa_cons pe_str (pa_cons pe_str (pa_cons pe_str (pa_cons pe_str (pa_cons pe_str (pa_cons pe_str pa_nil))))))))))
    (pss_cons (ps_set (i := 2) nd rfl (.inl rfl) (pe_lst (pa_cons (pe_callB call_isT (by rfl) misi (by decide +kernel) (pa_cons (pv 0) (pa_cons (pe_glob (v := .ref (cs 0)) (by rfl) g0 rfl) pa_nil)))
      (pa_cons (pe_callB call_isT (by rfl) misi (by decide +kernel) (pa_cons (pv 0) (pa_cons (pe_glob (v := .ref (cs 1)) (by rfl) g1 rfl) pa_nil)))
      (pa_cons (pe_callB call_isT (by rfl) misi (by decide +kernel) (pa_cons (pv 0) (pa_cons (pe_glob (v := .ref (cs 2)) (by rfl) g2 rfl) pa_nil)))
      (pa_cons (pe_callB call_isT (by rfl) misi (by decide +kernel) (pa_cons (pv 0) (pa_cons (pe_glob (v := .ref (cs 3)) (by rfl) g3 rfl) pa_nil))) pa_nil))))))
    (pss_cons (ps_set (i := 3) nd rfl (.inl rfl) (pe_lst (pa_cons (pe_callB call_isT (by rfl) misi (by decide +kernel) (pa_cons (pv 0) (pa_cons (pe_glob (v := .ref (cs 4)) (by rfl) g4 rfl) pa_nil)))
      (pa_cons (pe_callB call_isT (by rfl) misi (by decide +kernel) (pa_cons (pv 0) (pa_cons (pe_glob (v := .ref (cs 5)) (by rfl) g5 rfl) pa_nil)))
      (pa_cons (pe_callB call_isT (by rfl) misi (by decide +kernel) (pa_cons (pv 0) (pa_cons (pe_glob (v := .ref (cs 6)) (by rfl) g6 rfl) pa_nil))) pa_nil)))))
    (pss_cons (ps_set (i := 4) nd rfl (.inl rfl) (pe_op op_cat (pe_op op_cat (pv 2) (pv 3)) (pe_lst (pa_cons (pe_callB call_isT (by rfl) misi (by decide +kernel) (pa_cons (pv 0) (pa_cons (pe_glob (v := .ref (cs 7)) (by rfl) g7 rfl) pa_nil))) pa_nil))))
    (pss_one (ps_ret (pe_join pe_str (pe_lc (own := [("_law_word_here", 5), ("_law_flag", 6)]) (g := gTup K 2 (gCons (gName 5) (gCons (gName 6) gNil))) rfl nd (pi_zip (by rfl) mzip (pa_cons (pv 1) (pa_cons (pv 4) pa_nil)))
      (blkOk_by (N := ["_law_error", "_law_words", "_law_one", "_law_other", "_law_flags", "_law_word_here", "_law_flag"]) (sc := defScope sWord) (by decide +kernel))
      (fun _ _ _ _ _ => (pg_tup rfl (pgs_cons (pg_name (i := 5) nd rfl (Or.inl rfl) (Or.inr rfl)) (pgs_cons (pg_name (i := 6) nd rfl (Or.inl rfl) (Or.inr rfl)) pgs_nil)))) (fun _ _ _ _ _ => pts_one (pt_val (pv 6))) (fun _ _ _ _ _ => (pv 5)))))))))), ?_⟩
    have S8 : ∀ {n : Nat}, n ≤ 100 → n ≤ sizeLine := fun h => sz (by omega)
    refine ⟨S8 (show 8 ≤ 100 by decide), fun p1 n1 => ?_⟩
    have s1 := same_upd (o := .lst (errWords.map V.str)) n1
    refine ⟨.ref a, rfl, a, cs k, _, _, _, rfl, s1 _ _ ea, er.c, ref_only, er.kit 0 (by decide), .ref a, rfl, a, cs k, _, _, _, rfl, s1 _ _ ea, er.c, ref_only, er.kit 1 (by decide), .ref a, rfl, a, cs k, _, _, _, rfl, s1 _ _ ea, er.c, ref_only, er.kit 2 (by decide), .ref a, rfl, a, cs k, _, _, _, rfl, s1 _ _ ea, er.c, ref_only, er.kit 3 (by decide), S8 (show 4 ≤ 100 by decide), fun p2 n2 => ?_⟩
    have e12 : p1 ≠ p2 := ne_of_none upd_same n2
    have s2 := s1.trans (same_upd (o := .lst [.bl (decide (0 = k)), .bl (decide (1 = k)), .bl (decide (2 = k)), .bl (decide (3 = k))]) n2)
    refine ⟨.ref a, rfl, a, cs k, _, _, _, rfl, s2 _ _ ea, er.c, ref_only, er.kit 4 (by decide), .ref a, rfl, a, cs k, _, _, _, rfl, s2 _ _ ea, er.c, ref_only, er.kit 5 (by decide), .ref a, rfl, a, cs k, _, _, _, rfl, s2 _ _ ea, er.c, ref_only, er.kit 6 (by decide), S8 (show 3 ≤ 100 by decide), fun p3 n3 => ?_⟩
    have e23 : p2 ≠ p3 := ne_of_none upd_same n3
    have e13 : p1 ≠ p3 := ne_of_none (by rw [upd_ne e12]; exact upd_same) n3
    have s3 := s2.trans (same_upd (o := .lst [.bl (decide (4 = k)), .bl (decide (5 = k)), .bl (decide (6 = k))]) n3)
    refine ⟨.ref p2, rfl, .ref p3, rfl, p2, p3, _, _, rfl, rfl, (upd_ne e23).trans upd_same, upd_same, S8 (show 7 ≤ 100 by decide), fun p4 n4 => ?_⟩
    have e14 : p1 ≠ p4 := ne_of_none (by rw [upd_ne e13, upd_ne e12]; exact upd_same) n4
    have s4 := s3.trans (same_upd (o := .lst ([.bl (decide (0 = k)), .bl (decide (1 = k)), .bl (decide (2 = k)), .bl (decide (3 = k))] ++ [.bl (decide (4 = k)), .bl (decide (5 = k)), .bl (decide (6 = k))])) n4)
    refine ⟨.ref a, rfl, a, cs k, _, _, _, rfl, s4 _ _ ea, er.c, ref_only, er.kit 7 (by decide), S8 (show 1 ≤ 100 by decide), fun p5 n5 => ?_⟩
    have e15 : p1 ≠ p5 := ne_of_none (by rw [upd_ne e14, upd_ne e13, upd_ne e12]; exact upd_same) n5
    have e45 : p4 ≠ p5 := ne_of_none upd_same n5
    have s5 := s4.trans (same_upd (o := .lst [.bl (decide (7 = k))]) n5)
    refine ⟨p4, p5, _, _, rfl, rfl, (upd_ne e45).trans upd_same, upd_same, S8 (show 8 ≤ 100 by decide), fun p6 n6 => ?_⟩
    have s6 := s5.trans (same_upd (o := .lst (flagsOf k)) n6)
    have e16 : p1 ≠ p6 := ne_of_none (by rw [upd_ne e15, upd_ne e14, upd_ne e13, upd_ne e12]; exact upd_same) n6
    have w6 : ∀ o, upd (upd (upd (upd (upd (upd H p1 (.lst (errWords.map V.str))) p2 (.lst [.bl (decide (0 = k)), .bl (decide (1 = k)), .bl (decide (2 = k)), .bl (decide (3 = k))])) p3 (.lst [.bl (decide (4 = k)), .bl (decide (5 = k)), .bl (decide (6 = k))]))
        p4 (.lst ([.bl (decide (0 = k)), .bl (decide (1 = k)), .bl (decide (2 = k)), .bl (decide (3 = k))] ++ [.bl (decide (4 = k)), .bl (decide (5 = k)), .bl (decide (6 = k))]))) p5 (.lst [.bl (decide (7 = k))])) p6 o p1 = some (.lst (errWords.map V.str)) := fun o => by
      rw [upd_ne e16, upd_ne e15, upd_ne e14, upd_ne e13, upd_ne e12]
      exact upd_same
    refine ⟨⟨_, rfl⟩, .ref p1, rfl, .ref p6, rfl, p1, p6, errWords.map V.str, flagsOf k, rfl, .inl (.inl (w6 _)), .inl (.inl upd_same), fun D nD => ?_⟩
    have w6 := w6 (.lst (flagsOf k))
    have s6 : Same H (upd (upd (upd (upd (upd (upd H p1 (.lst (errWords.map V.str))) p2 (.lst [.bl (decide (0 = k)), .bl (decide (1 = k)), .bl (decide (2 = k)), .bl (decide (3 = k))])) p3 (.lst [.bl (decide (4 = k)), .bl (decide (5 = k)), .bl (decide (6 = k))]))
        p4 (.lst ([.bl (decide (0 = k)), .bl (decide (1 = k)), .bl (decide (2 = k)), .bl (decide (3 = k))] ++ [.bl (decide (4 = k)), .bl (decide (5 = k)), .bl (decide (6 = k))]))) p5 (.lst [.bl (decide (7 = k))])) p6 (.lst (flagsOf k))) := s6
    have f6 : upd (upd (upd (upd (upd (upd H p1 (.lst (errWords.map V.str))) p2 (.lst [.bl (decide (0 = k)), .bl (decide (1 = k)), .bl (decide (2 = k)), .bl (decide (3 = k))])) p3 (.lst [.bl (decide (4 = k)), .bl (decide (5 = k)), .bl (decide (6 = k))]))
        p4 (.lst ([.bl (decide (0 = k)), .bl (decide (1 = k)), .bl (decide (2 = k)), .bl (decide (3 = k))] ++ [.bl (decide (4 = k)), .bl (decide (5 = k)), .bl (decide (6 = k))]))) p5 (.lst [.bl (decide (7 = k))])) p6 (.lst (flagsOf k)) p6 = some (.lst (flagsOf k)) := upd_same
    refine lc_it (walk_zip (K := K) (a := p1) (b := p6) (xs := errWords.map V.str) (ys := flagsOf k) (n := 8) rfl) (fun i H' => Same H H' ∧ H' p1 = some (.lst (errWords.map V.str)) ∧ H' p6 = some (.lst (flagsOf k)) ∧ H' D = some (.lst (if k < i then [V.str (wordAt k)] else []))) ?_ ?_ ?_ ?_
    · have nD' := nD
      refine ⟨same_updN s6 (s6.free nD), ?_, ?_, ?_⟩
      · rw [upd_ne (ne_of_none w6 nD)]
        exact w6
      · rw [upd_ne (ne_of_none f6 nD)]
        exact f6
      · rw [upd_same, if_neg (Nat.not_lt_zero _)]
    · rintro i H' _ ⟨_, h1, h2, _⟩
      exact ⟨.inl (.inl h1), .inl (.inl h2)⟩
    · rintro i x H1 H2 hi ⟨sm, h1, h2, hD⟩ ⟨T, u, v, rfl, nT, rfl, eu, ev⟩
      have eu : u = .str (wordAt i) := by
        have : (errWords.map V.str)[i]? = some u := eu
        rw [errWords_at hi] at this
        exact (Option.some.inj this).symm
      have ev : v = .bl (decide (i = k)) := by
        have : (flagsOf k)[i]? = some v := ev
        rw [flags_at hi] at this
        exact (Option.some.inj this).symm
      subst eu ev
      have st := same_upd (o := .tup [.str (wordAt i), .bl (decide (i = k))]) nT
      refine ⟨T, _, rfl, .inl (.inl upd_same), rfl, _, _, rfl, _, _, rfl, rfl, rfl, ?_⟩
      refine ⟨_, rfl, decide (i = k), rfl, ?_⟩
      have g1 := st _ _ h1
      have g2 := st _ _ h2
      have gD := st _ _ hD
      have sT := sm.trans st
      generalize upd H1 T (.tup [.str (wordAt i), .bl (decide (i = k))]) = H3 at g1 g2 gD sT ⊢
      have nD0 : H D = none := s6.free nD
      have d1 : p1 ≠ D := ne_of_none w6 nD
      have d6 : p6 ≠ D := ne_of_none f6 nD
      by_cases hk : i = k
      · rw [decide_eq_true hk]
        refine iteT ?_
        rw [if_neg (by omega)] at gD
        refine ⟨_, rfl, [], gD, szl (show 0 < 1000000 by decide), same_updN sT nD0, by rw [upd_ne d1]; exact g1, by rw [upd_ne d6]; exact g2, ?_⟩
        rw [upd_same, if_pos (by omega), hk]
        rfl
      · rw [decide_eq_false hk]
        refine iteF ?_
        refine ⟨sT, g1, g2, ?_⟩
        rw [gD]
        by_cases h : k < i
        · rw [if_pos h, if_pos (by omega)]
        · rw [if_neg h, if_neg (by omega)]
    · rintro H1 ⟨sm, h1, h2, hD⟩
      rw [if_pos er.lt] at hD
      refine ⟨_, D, [wordAt k], rfl, rfl, .inl (.inl (.inl hD)), ?_, ?_⟩
      · show ((wordAt k).length + 0) + 1 * _ ≤ 16777216
        have : (wordAt k).length ≤ 5 := by
          have hk := er.lt
          have : ∀ k, k < 8 → (wordAt k).length ≤ 5 := by decide +kernel
          exact this k hk
        have e1 : (" " : Str).length = 1 := by decide +kernel
        rw [e1]
        omega
      · rw [join_one]
        exact q H1 sm
end
end Hr
/-! ### what stays tells, or the word of its refusal -/
namespace Hr
open PySem PySem.Spec PyProof.Rows L2
theorem scTold : FnScope ["_law_row", "_law_found", "_law_told_here", "_law_error"] ["_law_row"] (defScope sTold) := ⟨rfl, rfl, rfl, by decide +kernel, rfl, by decide +kernel, by decide +kernel⟩
theorem no_turn : ("no " : Str) ++ wordAt 6 = "no turn" := by decide +kernel
section
variable {P : Program} {w : World} {K : PySem.W.Frag} {mg : Str → Option Value} {base : Heap} {cs : Nat → Addr}
/-- a row with one more down than ups -/
def TurnRow (z : Str) (l : List Bool) : Prop := z = txt l ∧ (l.map sg).sum = -1
def spTurn (CT : Addr) : Sp := fun vs H Q E => ∃ z : Str, vs = [.str z] ∧ z.length ≤ 1000 ∧ (∀ l k, TurnRow z l → k < l.length → stayB 0 (turned l k) = true → ∀ H', Same H H' → Q (.int (k : Int)) H') ∧ ((∀ l, ¬ TurnRow z l) → ∀ H', Same H H' → E (.ref CT) none H')
def spTold : Sp := fun vs H Q _ => ∃ z : Str, vs = [.str z] ∧ z.length ≤ 1000 ∧ ((∃ l k, TurnRow z l ∧ k < l.length ∧ stayB 0 (turned l k) = true ∧ ∀ H', Same H H' → Q (.int (k : Int)) H') ∨ ((∀ l, ¬ TurnRow z l) ∧ ∀ H', Same H H' → Q (.str "no turn") H'))
theorem turn_same {z : Str} {l l' : List Bool} (h : TurnRow z l) (h' : TurnRow z l') : l = l' := txt_inj (h.1.symm.trans h'.1)
theorem cal_told {CH : Addr} (D : Def K mg "_law_told" sTold ["_law_row"]) (gH : mg "HillError" = some (.ref CH)) (er : IsErr K cs 6) (ex : PySem.W.exmOne K (.ref (cs 6)) (.ref CH) = some true)
    (c_stays : Cal K mg (L2.CX P w) P w base 4 "stays" [] (spTurn (cs 6))) (c_word : Cal K mg CX0 P w base 1 "_law_word" [] (spWord K cs)) : Cal K mg CX0 P w base 5 "_law_told" [] spTold := by
  refine D.cal scTold (fun vs H Q E h => ?_) (fun f cdv A outer s H vs Q E hr h => ?_)
  · obtain ⟨z, rfl, _⟩ := h
    rfl
  · obtain ⟨z, rfl, hz, h⟩ := h
    have nd := scTold.nd
    refine ⟨_, pss_cons (ps_set (i := 1) nd rfl (.inl rfl) pe_non) (pss_cons (ps_set (i := 2) nd rfl (.inl rfl) pe_non)
      (pss_cons (kept_try (i := 3) (c := .ref CH) (tb := fun W => tAsg (tCallS (spTurn (cs 6)) (WE W) (tCons (tVar 0) tNil)) (gName 2)) (ts := fun _ => tAsg (tVar 3) (gName 1)) rfl rfl rfl nd rfl rfl ⟨rfl, by decide, .inl gH⟩
          (fun W pn xe tk po => pss_one (ps_set (i := 2) nd rfl (.inl rfl) (by exact (pe_cT c_stays hr tk (pa_cons (pv 0) pa_nil)))))
          (fun a q => pss_one (ps_set (i := 1) nd rfl (.inl rfl) (pv 3))))
      (pss_cons (ps_if (pt_cmp (pc_notN (pv 1))) (pss_one (ps_ret (pe_op op_add_str pe_str (pe_c c_word hr (pa_cons (pv 1) pa_nil))))) pss_nil)
      (pss_one (ps_ret (pv 2)))))), ?_⟩
    refine ⟨_, rfl, z, rfl, hz, fun l k hl hk hs H1 s1 => ?_, fun hno H1 s1 => ⟨ex, fun a na => ?_⟩⟩
    · rcases h with ⟨l', k', hl', hk', hs', q⟩ | ⟨hno, _⟩
      · obtain ⟨k0, _, one⟩ := turned_one hl.2
        have el := turn_same hl' hl
        subst el
        have e : k' = k := ((one k' hk').mp hs').trans ((one k hk).mp hs).symm
        subst e
        refine ⟨_, rfl, false, rfl, iteF ?_⟩
        exact ⟨_, rfl, q _ s1⟩
      · exact absurd hl (hno l)
    · rcases h with ⟨l', _, hl', _⟩ | ⟨_, q⟩
      · exact absurd hl' (hno l')
      · refine ⟨_, rfl, ?_⟩
        refine ⟨_, rfl, true, rfl, iteT ?_⟩
        refine ⟨_, rfl, a, 6, rfl, upd_same, er, fun H2 s2 => ⟨"no ", wordAt 6, rfl, rfl, sz (by decide +kernel), ?_⟩⟩
        have := q _ ((s1.trans (same_upd na)).trans s2)
        rw [← no_turn] at this
        exact this
end
end Hr
namespace Hr
open PySem PySem.Spec PyProof.Rows L2
theorem sgn_sum : ∀ l : List Bool, ((l.map sgn).map (·.length)).sum = l.length
  | [] => rfl
  | b :: r => by
    rw [List.map_cons, List.map_cons, List.sum_cons, sgn_sum r, List.length_cons]
    show 1 + _ = _
    omega
theorem join_signs (l : List Bool) : Txt.join ("" : Str) (l.map sgn) = txt l := by
  have h := SX.join_S [] (l.map fun b => [code b])
  have e1 : (l.map fun b => [code b]).map SX.S = l.map sgn := by
    rw [List.map_map]
    rfl
  rw [e1] at h
  have e2 : ∀ l : List Bool, TL.joinL [] (l.map fun b => [code b]) = l.map code := by
    intro l
    induction l with
    | nil => rfl
    | cons b l ih =>
      cases l with
      | nil => rfl
      | cons b2 l =>
        show [code b] ++ ([] ++ TL.joinL [] ((b2 :: l).map fun b => [code b])) = _
        rw [ih]
        rfl
  rw [e2] at h
  rw [eE]
  exact h
end Hr
/-! ### how often a text stands in a list of texts -/
namespace Hr
open PySem PySem.Spec PyProof.Rows L2
def rCntS (K : PySem.W.Frag) : V → List V → Hp → VK → Prop := fun x xs H Q => ∃ (p : Addr) (zs : List Str) (k : Str), x = .ref p ∧ xs = [.str k] ∧ SqL K H p (zs.map V.str) ∧ Q (.int (PySem.Spec.countIn (.str k) (zs.map PyData.str))) H
theorem mt_countS {X : Cx} : MtR X "list.count" (rCntS X.K) := by
  intro pins s σ H x xs v us Q I rx rxs h
  obtain ⟨p, zs, k, rfl, rfl, hs, q⟩ := h
  cases rx
  obtain ⟨u, rfl, t, rfl⟩ := rxs.one
  obtain ⟨its, rv, hl, _⟩ := I.list hs
  exact count_list_strs (vs := its) hl.isList (Vals.strs rv) ⟨.int (PySem.Spec.countIn (.str k) (zs.map PyData.str)), H, I.tok _, ⟨_, rfl⟩, q⟩
def signsOf (b : Bool) (l : List Bool) : Nat := (l.filter fun x => x == b).length
theorem countIn_signs (b : Bool) : ∀ l : List Bool, PySem.Spec.countIn (.str (sgn b)) ((l.map sgn).map PyData.str) = ((signsOf b l : Nat) : Int)
  | [] => rfl
  | x :: l => by
    have ih := countIn_signs b l
    show (if (sgn x == sgn b) = true then (1 : Int) else 0) + PySem.Spec.countIn (.str (sgn b)) ((l.map sgn).map PyData.str) = _
    rw [ih]
    unfold signsOf
    cases x <;> cases b
    · show (1 : Int) + _ = (((false :: l).filter fun x => x == false).length : Nat)
      rw [List.filter_cons_of_pos (by rfl), List.length_cons]
      omega
    · show (0 : Int) + _ = (((false :: l).filter fun x => x == true).length : Nat)
      rw [List.filter_cons_of_neg (by decide)]
      omega
    · show (0 : Int) + _ = (((true :: l).filter fun x => x == false).length : Nat)
      rw [List.filter_cons_of_neg (by decide)]
      omega
    · show (1 : Int) + _ = (((true :: l).filter fun x => x == true).length : Nat)
      rw [List.filter_cons_of_pos (by rfl), List.length_cons]
      omega
theorem signsOf_app (b : Bool) (l r : List Bool) : signsOf b (l ++ r) = signsOf b l + signsOf b r := by
  unfold signsOf
  rw [List.filter_append, List.length_append]
theorem signsOf_sum : ∀ l : List Bool, (l.map sg).sum = (signsOf true l : Int) - (signsOf false l : Int)
  | [] => rfl
  | x :: l => by
    have ih := signsOf_sum l
    have e : ∀ b, signsOf b (x :: l) = signsOf b [x] + signsOf b l := fun b => signsOf_app b [x] l
    rw [List.map_cons, List.sum_cons, ih, e, e]
    cases x
    · show (-1 : Int) + _ = ((0 + signsOf true l : Nat) : Int) - ((1 + signsOf false l : Nat) : Int)
      omega
    · show (1 : Int) + _ = ((1 + signsOf true l : Nat) : Int) - ((0 + signsOf false l : Nat) : Int)
      omega
theorem signsOf_len : ∀ l : List Bool, signsOf true l + signsOf false l = l.length
  | [] => rfl
  | x :: l => by
    have ih := signsOf_len l
    have e : ∀ b, signsOf b (x :: l) = signsOf b [x] + signsOf b l := fun b => signsOf_app b [x] l
    rw [e, e, List.length_cons]
    cases x
    · show (0 + _) + (1 + _) = _
      omega
    · show (1 + _) + (0 + _) = _
      omega
theorem filter_one {p : Nat → Bool} {k : Nat} : ∀ n, k < n → (∀ j, j < n → (p j = true ↔ j = k)) → (List.range n).filter p = [k] := by
  intro n
  induction n with
  | zero => intro h; omega
  | succ n ih =>
    intro hk h
    rw [List.range_succ, List.filter_append]
    by_cases e : k = n
    · have h0 : (List.range n).filter p = [] := by
        rw [List.filter_eq_nil_iff]
        intro j hj
        have hj := List.mem_range.mp hj
        rw [h j (by omega)]
        omega
      rw [h0, List.filter_cons_of_pos ((h n (by omega)).mpr e.symm), e]
      rfl
    · rw [ih (by omega) (fun j hj => h j (by omega)), List.filter_cons_of_neg (fun z => e ((h n (by omega)).mp z).symm)]
      rfl
end Hr
/-! ### lists as data -/
namespace Hr
open PySem PySem.Spec PyProof.Rows L2
section
variable {K : PySem.W.Frag} {H : Hp}
theorem dp_ints : ∀ ns : List Int, DpAll K H (ns.map V.int) (ns.map PyData.int)
  | [] => .nil
  | n :: r => .cons (.int n) (dp_ints r)
theorem dp_strs : ∀ xs : List Str, DpAll K H (xs.map V.str) (xs.map PyData.str)
  | [] => .nil
  | x :: r => .cons (.str x) (dp_strs r)
end
theorem lay_ints : ∀ ns : List Int, PyData.canLayAll0 (ns.map PyData.int) = true
  | [] => rfl
  | n :: r => by
    show (true && PyData.canLayAll0 (r.map PyData.int)) = true
    rw [lay_ints r]
    rfl
theorem dep_ints : ∀ ns : List Int, PyData.depthAll (ns.map PyData.int) = 0
  | [] => rfl
  | n :: r => by
    show max 0 (PyData.depthAll (r.map PyData.int)) = 0
    rw [dep_ints r]
    rfl
theorem lay_txts : ∀ ls : List (List Bool), PyData.canLayAll0 ((ls.map txt).map PyData.str) = true
  | [] => rfl
  | l :: r => by
    show (PyData.strOk (txt l) && PyData.canLayAll0 ((r.map txt).map PyData.str)) = true
    rw [lay_txts r, Bool.and_true]
    show (l.map code).toArray.all (· < 0x110000) = true
    rw [List.all_toArray, List.all_eq_true]
    intro c hc
    obtain ⟨b, _, rfl⟩ := List.mem_map.mp hc
    cases b <;> rfl
theorem dep_strs : ∀ xs : List Str, PyData.depthAll (xs.map PyData.str) = 0
  | [] => rfl
  | n :: r => by
    show max 0 (PyData.depthAll (r.map PyData.str)) = 0
    rw [dep_strs r]
    rfl
theorem sh_ints (ns : List Int) : SeqAt.shaped (.list (ns.map PyData.int)) = true := by
  show (PyData.canLayAll0 (ns.map PyData.int) && decide (PyData.depthAll (ns.map PyData.int) + 1 ≤ 64)) = true
  rw [lay_ints, dep_ints]
  rfl
theorem sh_txts (ls : List (List Bool)) : SeqAt.shaped (.list ((ls.map txt).map PyData.str)) = true := by
  show (PyData.canLayAll0 ((ls.map txt).map PyData.str) && decide (PyData.depthAll ((ls.map txt).map PyData.str) + 1 ≤ 64)) = true
  rw [lay_txts, dep_strs]
  rfl
end Hr
namespace Hr
open PySem PySem.Spec PyProof.Rows L2
theorem scNumber : FnScope ["_law_script", "_law_k"] ["_law_script", "_law_k"] (defScope sNumber) := ⟨rfl, rfl, rfl, by decide +kernel, rfl, by decide +kernel, by decide +kernel⟩
section
variable {P : Program} {w : World} {K : PySem.W.Frag} {mg : Str → Option Value} {base : Heap}
def spNumber (K : PySem.W.Frag) : Sp := fun vs H Q _ => ∃ (a : Addr) (ns : List Int) (k : Nat), vs = [.ref a, .int (k : Int)] ∧ SqL K H a (ns.map V.int) ∧ Q (.int (mixed (ns.getD k 0) k)) H
theorem cal_number (D : Def K mg "_law_number" sNumber ["_law_script", "_law_k"]) (C : Cal K mg CX0 P w base 1 "_law_mixed" [] spMixed) (mlen : mg "len" = none) : Cal K mg CX0 P w base 2 "_law_number" [] (spNumber K) := by
  refine D.cal scNumber (fun vs H Q E h => ?_) (fun f cdv A outer s H vs Q E hr h => ?_)
  · obtain ⟨a, ns, k, rfl, _⟩ := h
    rfl
  · obtain ⟨a, ns, k, rfl, hS, q⟩ := h
    refine ⟨_, pss_one (ps_ret (pe_c C hr (pa_cons (pe_ifExp (pt_cmpR op_lt (pv 1) (pe_callB call_len_seq (by rfl) mlen PySem.boot_len (pa_cons (pv 0) pa_nil)) (nomark _)) (pe_ix ix_list (pv 0) (pv 1) (fun _ _ => rfl)) pe_int) (pa_cons (pv 1) pa_nil)))), ?_⟩
    refine ⟨.int (k : Int), rfl, .ref a, rfl, a, _, rfl, .inl hS, _, _, rfl, rfl, _, rfl, ite2 (fun e => ?_) (fun e => ?_)⟩
    · have hk : k < ns.length := by
        have := of_decide_eq_true e
        rw [List.length_map] at this
        omega
      refine ⟨.ref a, rfl, .int (k : Int), rfl, a, _, _, .int (ns.getD k 0), rfl, rfl, hS, atI_nat ?_, .int (k : Int), rfl, _, _, rfl, q⟩
      rw [List.getElem?_map, List.getElem?_eq_getElem hk, List.getD_eq_getElem?_getD, List.getElem?_eq_getElem hk]
      rfl
    · have hk : ns.length ≤ k := by
        have : ¬ (k : Int) < ((ns.map V.int).length : Int) := fun z => e (decide_eq_true z)
        rw [List.length_map] at this
        omega
      refine ⟨.int (k : Int), rfl, 0, (k : Int), rfl, ?_⟩
      rw [List.getD_eq_getElem?_getD, List.getElem?_eq_none hk] at q
      exact q
end
end Hr
/-! ### turnings of turnings -/
namespace Hr
theorem turned_length {l : List Bool} {k : Nat} (hk : k ≤ l.length) : (turned l k).length = l.length := by
  unfold turned
  rw [List.length_append, List.length_drop, List.length_take]
  omega
theorem turned_sum (l : List Bool) (k : Nat) : ((turned l k).map sg).sum = (l.map sg).sum := by
  unfold turned
  rw [List.map_append, List.sum_append]
  conv => rhs; rw [← List.take_append_drop k l]
  rw [List.map_append, List.sum_append]
  omega
theorem turned_add {l : List Bool} {k j : Nat} (h : k + j ≤ l.length) : turned (turned l k) j = turned l (k + j) := by
  unfold turned
  rw [List.drop_append_of_le_length (by rw [List.length_drop]; omega), List.take_append_of_le_length (by rw [List.length_drop]; omega), List.drop_drop, List.append_assoc, List.take_add]
theorem turned_over {l : List Bool} {k j m : Nat} (hk : k ≤ l.length) (hm : k + j = l.length + m) (hmk : m ≤ k) : turned (turned l k) j = turned l m := by
  unfold turned
  have hj : j = (l.drop k).length + m := by
    rw [List.length_drop]
    omega
  rw [hj, List.drop_length_add_append, List.take_length_add_append, ← List.append_assoc, List.take_take, Nat.min_eq_left hmk]
  congr 1
  conv => rhs; rw [← List.take_append_drop k l]
  rw [List.drop_append_of_le_length (by rw [List.length_take]; omega)]
/-- where the turned one stays up -/
theorem turned_stays {l : List Bool} {k k' : Nat} (hk : k < l.length) (hk' : k' < l.length) (hs : stayB 0 (turned l k) = true) : ∃ j, j < (turned l k').length ∧ stayB 0 (turned (turned l k') j) = true ∧ ((k : Int) - (k' : Int)) % (l.length : Int) = (j : Int) := by
  rw [turned_length (by omega)]
  by_cases h : k' ≤ k
  · refine ⟨k - k', by omega, ?_, ?_⟩
    · rw [turned_add (by omega), show k' + (k - k') = k by omega]
      exact hs
    · rw [Int.emod_eq_of_lt (by omega) (by omega)]
      omega
  · refine ⟨k + l.length - k', by omega, ?_, ?_⟩
    · rw [turned_over (m := k) (by omega) (by omega) (by omega)]
      exact hs
    · rw [← Int.add_emod_right, Int.emod_eq_of_lt (by omega) (by omega)]
      omega
end Hr
namespace Hr
open PySem PySem.Spec PyProof.Rows L2
/-- the places from 0 on, by steps -/
theorem rg_up {m c : Int} (hm : 0 < m) (hm2 : m ≤ 1000) (hc : 0 < c) (hc2 : c ≤ 1000) : ∃ n : Nat, RgC 0 m c n ∧ ∀ i : Nat, i < n → (i : Int) * c < m := by
  have h0 : 0 ≤ (m - 0 - 1) / c := Int.ediv_nonneg (by omega) (by omega)
  have hsz : Builtin.Range.rangeSize 0 m c = (m - 0 - 1) / c + 1 := by
    unfold Builtin.Range.rangeSize
    rw [if_pos (show c > 0 from hc), if_pos (show (0 : Int) < m from hm)]
  have hle : (m - 0 - 1) / c ≤ m - 0 - 1 := Int.ediv_le_self _ (by omega)
  refine ⟨((m - 0 - 1) / c + 1).toNat, ⟨by omega, by omega, ?_, by rw [hsz]; omega⟩, fun i hi => ?_⟩
  · unfold Builtin.Range.small
    rw [hsz]
    rw [if_pos (show c > 0 from hc)]
    simp only [Builtin.Range.rangeFitsLong, Bool.and_eq_true, Bool.or_eq_true, decide_eq_true_eq, beq_iff_eq]
    generalize (m - 0 - 1) / c = d at h0 hle
    omega
  · have h1 : (i : Int) ≤ (m - 0 - 1) / c := by omega
    have h2 : (i : Int) * c ≤ (m - 0 - 1) / c * c := Int.mul_le_mul_of_nonneg_right h1 (by omega)
    have h3 : (m - 0 - 1) / c * c ≤ m - 0 - 1 := Int.ediv_mul_le _ (by omega)
    omega
end Hr
/-! ### the law -/
namespace Hr
open PySem PySem.Spec PyProof.Rows L2
abbrev nLaw : List Str := ["_law_script", "_law_signs", "_law_ups", "_law_row", "_law_good", "_law_mark", "_law_at", "_law_wrong", "_law_k", "_law_cell", "_law_up"]
theorem scLaw : FnScope ["_law_script", "_law_signs", "_law_ups", "_law_row", "_law_good", "_law_mark", "_law_at", "_law_wrong", "_law_k", "_law_cell", "_law_up"] ["_law_script"] (defScope sLaw) := ⟨rfl, rfl, rfl, by decide +kernel, rfl, by decide +kernel, by decide +kernel⟩
theorem cut_int {ns : List Int} {lo hi : Option Int} {i : Nat} {v : V} (h : (cutV (ns.map V.int) lo hi)[i]? = some v) : ∃ z, v = .int z := by
  have h1 : v ∈ cutV (ns.map V.int) lo hi := List.mem_of_getElem? h
  unfold cutV at h1
  obtain ⟨z, _, e⟩ := List.mem_map.mp (List.mem_of_mem_drop (List.mem_of_mem_take h1))
  exact ⟨z, e.symm⟩
theorem cutV_to (xs : List V) (k : Nat) : (cutV xs none (some (k : Int))).length ≤ k := by
  unfold cutV
  rw [List.length_take, HT.sIx_nat]
  show min (min k xs.length - 0) _ ≤ k
  omega
theorem isRowB_append (a b : Str) : isRowB (a ++ b) = (isRowB a && isRowB b) := by
  show (a ++ b).cps.toList.all isS = _
  rw [show (a ++ b).cps.toList = a.cps.toList ++ b.cps.toList from TL.tl_append a b, List.all_append]
  rfl
theorem no_put {x y m : List Bool} (h : (x.map sg).sum + (y.map sg).sum = -1) (hm : (m.map sg).sum ≠ 0) (l : List Bool) : ¬ TurnRow (txt x ++ txt m ++ txt y) l := by
  rintro ⟨e, hs⟩
  rw [txt_append, txt_append] at e
  rw [← txt_inj e, List.map_append, List.map_append, List.sum_append, List.sum_append] at hs
  omega
theorem no_sign {x y : List Bool} {z : Str} (h : isRowB z = false) (l : List Bool) : ¬ TurnRow (txt x ++ z ++ txt y) l := by
  rintro ⟨e, _⟩
  have := isRowB_txt l
  rw [← e, isRowB_append, isRowB_append, h, Bool.and_false, Bool.false_and] at this
  cases this
theorem pick_wrong {x y : List Bool} (h : (x.map sg).sum + (y.map sg).sum = -1) : ∀ {j : Nat}, j < 5 → ∃ z, ([V.str "u", .str "d", .str "x", .str "ud ", .str "uu"])[j]? = some (.str z) ∧ z.length ≤ 3 ∧ ∀ l, ¬ TurnRow (txt x ++ z ++ txt y) l
  | 0, _ => ⟨_, rfl, by decide +kernel, fun l => by
    rw [show ("u" : Str) = txt [true] by decide +kernel]
    exact no_put h (by decide) l⟩
  | 1, _ => ⟨_, rfl, by decide +kernel, fun l => by
    rw [show ("d" : Str) = txt [false] by decide +kernel]
    exact no_put h (by decide) l⟩
  | 2, _ => ⟨_, rfl, by decide +kernel, fun l => no_sign (by decide +kernel) l⟩
  | 3, _ => ⟨_, rfl, by decide +kernel, fun l => no_sign (by decide +kernel) l⟩
  | 4, _ => ⟨_, rfl, by decide +kernel, fun l => by
    rw [show ("uu" : Str) = txt [true, true] by decide +kernel]
    exact no_put h (by decide) l⟩
  | j + 5, h => absurd h (by omega)
theorem no_empty (l : List Bool) : ¬ TurnRow "" l := by
  rintro ⟨e, hs⟩
  have : l = [] := txt_inj (e.symm.trans eE)
  rw [this] at hs
  exact absurd hs (by decide)
theorem one_down : TurnRow "d" [false] := ⟨by decide +kernel, rfl⟩
/-- signs as values -/
def sv (l : List Bool) : List V := l.map fun b => V.str (sgn b)
theorem sv_snoc (l : List Bool) (b : Bool) : sv (l ++ [b]) = sv l ++ [.str (sgn b)] := by
  unfold sv
  rw [List.map_append]
  rfl
theorem sv_map (l : List Bool) : sv l = (l.map sgn).map V.str := by
  unfold sv
  rw [List.map_map]
  rfl
/-- how far from one more down than ups -/
def gap (l : List Bool) : Nat := ((signsOf false l : Int) - (signsOf true l : Int) - 1).natAbs
section
variable {P : Program} {w : World} {K : PySem.W.Frag} {mg : Str → Option Value} {base : Heap} {cs : Nat → Addr}
def spLaw (K : PySem.W.Frag) : Sp := fun vs H Q _ => ∃ (a : Addr) (ns : List Int), vs = [.ref a] ∧ SqL K H a (ns.map V.int) ∧ ns.length ≤ 63 ∧ ∀ H', Q (.bl true) H'
set_option maxHeartbeats 1000000 in
theorem ok_law {f : Addr} {fd : FuncData} (F : Fun K "law" "law" sLaw f fd) (c_law_mixed : Cal K mg CX0 P w base 1 "_law_mixed" [] spMixed) (c_law_number : Cal K mg CX0 P w base 2 "_law_number" [] (spNumber K)) (c_law_stays : Cal K mg CX0 P w base 1 "_law_stays" [] spStays) (c_law_told : Cal K mg CX0 P w base 5 "_law_told" [] spTold)
    (m_len : mg "len" = none) (m_int : mg "int" = none) (m_bool : mg "bool" = none) (m_isinstance : mg "isinstance" = none) (m_range : mg "range" = none) (m_enumerate : mg "enumerate" = none) : FnOk P w K mg base CX0 6 f fd ["_law_script"] (spLaw K) := by
  refine F.ok scLaw (fun vs H Q E h => ?_) (fun cdv A outer s H vs Q E hr h => ?_)
  · obtain ⟨a, ns, rfl, _⟩ := h
    rfl
  · obtain ⟨a, ns, rfl, hS, hlen, q⟩ := h
    have nd := scLaw.nd
    refine ⟨_, (pss_cons (ps_set (i := 1) nd rfl (.inl rfl) (pe_lst pa_nil))
    (pss_cons (ps_set (i := 2) nd rfl (.inl rfl) pe_int)
    (pss_cons (ps_for PassesOwn.never rfl (pi_enum (by rfl) m_enumerate (pa_cons (pe_slice sl_list (pv 0) po_none (po_some pe_int)) pa_nil)) (pg_tup rfl (pgs_cons (pg_name (i := 8) nd rfl (.inl rfl)) (pgs_cons (pg_name (i := 9) nd rfl (.inl rfl)) pgs_nil))) (pss_cons (ps_set (i := 10) nd rfl (.inl rfl) (pe_cmpR op_eq (pe_op op_mod (pe_c c_law_mixed hr (pa_cons (pv 9) (pa_cons (pv 8) pa_nil))) pe_int) pe_int (nomark _)))
      (pss_cons (ps_set (i := 2) nd rfl (.inl rfl) (pe_op op_add (pv 2) (pe_callTy call_int1 (by rfl) m_int boot_int (pa_cons (pv 10) pa_nil))))
      (pss_one (ps_expr (pe_bm PySem.F.plainAttrs_list PySem.F.slot_list_append PySem.F.type_list_append mt_append (pv 1) (pa_cons (pe_ix ix_list (pe_lst (pa_cons pe_str (pa_cons pe_str pa_nil))) (pe_callTy call_int1 (by rfl) m_int boot_int (pa_cons (pv 10) pa_nil)) (fun _ _ => rfl)) pa_nil)))))))
    (pss_cons (ps_while PassesOwn.never (pt_cmpR op_ne (pe_bm PySem.F.plainAttrs_list PySem.F.slot_list_count PySem.F.type_list_count mt_countS (pv 1) (pa_cons pe_str pa_nil)) (pe_op op_add (pe_bm PySem.F.plainAttrs_list PySem.F.slot_list_count PySem.F.type_list_count mt_countS (pv 1) (pa_cons pe_str pa_nil)) pe_int) (nomark _))
      (pss_one (ps_expr (pe_bm PySem.F.plainAttrs_list PySem.F.slot_list_append PySem.F.type_list_append mt_append (pv 1) (pa_cons (pe_ix ix_list (pe_lst (pa_cons pe_str (pa_cons pe_str pa_nil))) (pe_callTy call_int1 (by rfl) m_int boot_int (pa_cons (pe_cmpR op_gt (pe_bm PySem.F.plainAttrs_list PySem.F.slot_list_count PySem.F.type_list_count mt_countS (pv 1) (pa_cons pe_str pa_nil)) (pe_bm PySem.F.plainAttrs_list PySem.F.slot_list_count PySem.F.type_list_count mt_countS (pv 1) (pa_cons pe_str pa_nil)) (nomark _)) pa_nil)) (fun _ _ => rfl)) pa_nil)))))
    (pss_cons (ps_set (i := 3) nd rfl (.inr rfl) (pe_join pe_str (pv 1)))
    (pss_cons (ps_setLc (i := 4) (own := [("_law_k", 8)]) (g := gName 8) rfl nd rfl rfl (sw_true rfl rfl rfl (by decide +kernel)) (pi_range1 (by rfl) m_range (pa_cons (pe_callB call_len_str (by rfl) m_len PySem.boot_len (pa_cons (pv 3) pa_nil)) pa_nil)) (blkOk_by (N := nLaw) (sc := defScope sLaw) (by decide +kernel)) (fun _ _ _ _ _ => (pg_name (i := 8) nd rfl (Or.inl rfl) (Or.inr rfl))) (fun _ _ _ _ _ => pts_one (pt_val (pe_c c_law_stays hr (pa_cons (pe_op op_add_str (pe_slice sl_str (pv 3) (po_some (pv 8)) po_none) (pe_slice sl_str (pv 3) po_none (po_some (pv 8)))) pa_nil)))) (fun _ _ _ _ _ => (pv 8)))
    (pss_cons (ps_if (PW.pt (pw_or (pt_cmpR op_ne (pe_callB call_len_seq (by rfl) m_len PySem.boot_len (pa_cons (pv 4) pa_nil)) pe_int (nomark _)) (pw_or (pt_cmpR op_ne (pe_c c_law_told hr (pa_cons (pv 3) pa_nil)) (pe_ix ix_list (pv 4) pe_int (fun _ _ => rfl)) (nomark _)) (pw_or1 (pt_val (pe_callB call_isi (by rfl) m_isinstance (by decide +kernel) (pa_cons (pe_c c_law_told hr (pa_cons (pv 3) pa_nil)) (pa_cons (pe_bltn (v := .ty "bool") (u := .type "bool") (by rfl) m_bool (by decide +kernel) rfl) pa_nil)))))))) (pss_one (ps_ret pe_bl)) pss_nil)
    (pss_cons (ps_for PassesOwn.never rfl (pi_range3 (by rfl) m_range (pa_cons pe_int (pa_cons (pe_callB call_len_str (by rfl) m_len PySem.boot_len (pa_cons (pv 3) pa_nil)) (pa_cons (pe_op op_add pe_int (pe_op op_fdiv (pe_callB call_len_str (by rfl) m_len PySem.boot_len (pa_cons (pv 3) pa_nil)) pe_int)) pa_nil)))) (pg_name (i := 8) nd rfl (.inl rfl)) (pss_one (ps_if (pt_cmpR op_ne (pe_c c_law_told hr (pa_cons (pe_op op_add_str (pe_slice sl_str (pv 3) (po_some (pv 8)) po_none) (pe_slice sl_str (pv 3) po_none (po_some (pv 8)))) pa_nil)) (pe_op op_mod (pe_op op_sub (pe_ix ix_list (pv 4) pe_int (fun _ _ => rfl)) (pv 8)) (pe_callB call_len_str (by rfl) m_len PySem.boot_len (pa_cons (pv 3) pa_nil))) (nomark _)) (pss_one (ps_ret pe_bl)) pss_nil)))
    (pss_cons (ps_set (i := 5) nd rfl (.inl rfl) (pe_c c_law_number hr (pa_cons (pv 0) (pa_cons pe_int pa_nil))))
    (pss_cons (ps_set (i := 6) nd rfl (.inl rfl) (pe_op op_mod (pv 5) (pe_op op_add (pe_callB call_len_str (by rfl) m_len PySem.boot_len (pa_cons (pv 3) pa_nil)) pe_int)))
    (pss_cons (ps_set (i := 7) nd rfl (.inl rfl) (pe_op op_add_str (pe_op op_add_str (pe_slice sl_str (pv 3) po_none (po_some (pv 6))) (pe_ix ix_list (pe_lst (pa_cons pe_str (pa_cons pe_str (pa_cons pe_str (pa_cons pe_str (pa_cons pe_str pa_nil)))))) (pe_op op_mod (pe_op op_fdiv (pv 5) pe_int) pe_int) (fun _ _ => rfl))) (pe_slice sl_str (pv 3) (po_some (pv 6)) po_none)))
    (pss_one (ps_ret (pe_and (pe_cmpR op_eq (pe_c c_law_told hr (pa_cons (pv 7) pa_nil)) pe_str (nomark _)) (pe_and (pe_cmpR op_eq (pe_c c_law_told hr (pa_cons pe_str pa_nil)) pe_str (nomark _)) (pe_one (pe_cmpR op_eq (pe_c c_law_told hr (pa_cons pe_str pa_nil)) pe_int (nomark _)))))))))))))))))), ?_⟩
    refine ⟨sz (show 0 ≤ 1000000 by decide), fun p np => ?_⟩
    have sp := same_upd (o := .lst []) np
    refine ⟨.ref a, rfl, 61, rfl, a, ns.map V.int, rfl, sp.seq hS, fun c nc => ?_⟩
    have hcl : (cutV (ns.map V.int) none (some 61)).length ≤ 61 := cutV_to _ 61
    have cint : ∀ (i : Nat) (v : V), (cutV (ns.map V.int) none (some 61))[i]? = some v → ∃ z, v = .int z := fun i v h => cut_int h
    have pc : p ≠ c := ne_of_none upd_same nc
    have ep : upd (upd H p (.lst [])) c (.lst (cutV (ns.map V.int) none (some 61))) p = some (.lst (sv [])) := by
      rw [upd_ne pc]
      exact upd_same
    have sc : Same H (upd (upd H p (.lst [])) c (.lst (cutV (ns.map V.int) none (some 61)))) := sp.trans (same_upd nc)
    have ec : upd (upd H p (.lst [])) c (.lst (cutV (ns.map V.int) none (some 61))) c = some (.lst (cutV (ns.map V.int) none (some 61))) := upd_same
    generalize upd (upd H p (.lst [])) c (.lst (cutV (ns.map V.int) none (some 61))) = H1 at ep sc ec ⊢
    generalize cutV (ns.map V.int) none (some 61) = xs at hcl cint ec ⊢
    refine ⟨c, xs, rfl, .inl (.inl ec), ?_⟩
    refine for_it (walk_enum (K := K) (a := c) (xs := xs)) (fun i σ H' => ∃ (u : Int) (pre : List Bool) (y8 y9 y10 : Option V), σ = [some (.ref a), some (.ref p), some (.int u), none, none, none, none, none, y8, y9, y10] ∧ pre.length = i ∧ Same H H' ∧ H' c = some (.lst xs) ∧ H' p = some (.lst (sv pre))) ?_ ?_ ?_ ?_
    · exact ⟨0, [], none, none, none, rfl, rfl, sc, ec, ep⟩
    · rintro i σ H' _ ⟨_, _, _, _, _, _, _, _, ec, _⟩
      exact .inl (.inl ec)
    · rintro i x σ H2 H3 hi ⟨u, pre, y8, y9, y10, rfl, hp, sm, ec, ep⟩ ⟨T, k0, v, rfl, nT, rfl, ek, ev⟩
      have ek : k0 = .int (i : Int) := (Option.some.inj ek).symm
      subst ek
      obtain ⟨z, rfl⟩ := cint i v ev
      refine ⟨T, _, rfl, .inl (.inl upd_same), rfl, _, _, rfl, _, _, rfl, rfl, ?_⟩
      have sT := same_upd (o := .tup [.int (i : Int), .int z]) nT
      replace sm := sm.trans sT
      replace ec := sT _ _ ec
      replace ep := sT _ _ ep
      generalize upd H2 T (.tup [.int (i : Int), .int z]) = H4 at sm ec ep ⊢
      refine ⟨.int z, rfl, .int (i : Int), rfl, z, (i : Int), rfl, ?_⟩
      generalize mixed z i = mk
      refine ⟨mk, 2, rfl, rfl, (by show (0 : Int) < 2; decide), rfl, ?_⟩
      show gName 10 (V.bl (decide (V.int (mk % 2) = V.int 0))) _ _ _
      generalize decide (V.int (mk % 2) = V.int 0) = b
      refine ⟨_, rfl, _, rfl, .inr ⟨b, rfl, _, _, rfl, rfl, ?_⟩⟩
      refine ⟨.ref p, rfl, .inl ⟨rfl, _, .inl (.inl ep)⟩, sz (show 2 ≤ 1000000 by decide), fun p2 np2 => ?_⟩
      have ix : ([V.str "d", V.str "u"])[if b = true then 1 else 0]? = some (.str (sgn b)) := by
        cases b
        · exact congrArg (fun z => some (V.str z)) sgn_d.symm
        · exact congrArg (fun z => some (V.str z)) sgn_u.symm
      have pp : p ≠ p2 := ne_of_none ep np2
      refine ⟨_, rfl, .inr ⟨b, rfl, p2, _, _, .str (sgn b), rfl, rfl, .inl (.inl upd_same), at_of (j := if b = true then 1 else 0) (by cases b <;> rfl) ix, ?_⟩⟩
      refine ⟨p, _, _, rfl, rfl, by rw [upd_ne pp]; exact ep, szl (by unfold sv; rw [List.length_map]; omega), ?_⟩
      have s2 := same_upd (o := .lst [V.str "d", V.str "u"]) np2
      refine ⟨_, pre ++ [b], _, _, _, rfl, by rw [List.length_append, hp]; rfl, same_updN (sm.trans s2) np, ?_, ?_⟩
      · rw [upd_ne (Ne.symm pc)]
        exact s2 _ _ ec
      · rw [upd_same, sv_snoc]
    · rintro σ H2 ⟨u, pre, y8, y9, y10, rfl, hp, sm, ec, ep⟩
      have h12 := signsOf_len pre
      -- signs put in
      refine ⟨fun m σ H' => ∃ (u : Int) (pre : List Bool) (y8 y9 y10 : Option V), σ = [some (.ref a), some (.ref p), some (.int u), none, none, none, none, none, y8, y9, y10] ∧ m = gap pre ∧ pre.length + gap pre ≤ 123 ∧ Same H H' ∧ H' p = some (.lst (sv pre)), ⟨_, u, pre, y8, y9, y10, rfl, rfl, by unfold gap; omega, sm, ep⟩, ?_⟩
      clear hp h12 ec sm ep
      clear pre
      rintro m σ H3 ⟨u, pre, y8, y9, y10, rfl, rfl, hg, sm, ep⟩
      have cf : PySem.Spec.countIn (.str ("d" : Str)) ((pre.map sgn).map PyData.str) = ((signsOf false pre : Nat) : Int) := by
        rw [← sgn_d]
        exact countIn_signs false pre
      have ct : PySem.Spec.countIn (.str ("u" : Str)) ((pre.map sgn).map PyData.str) = ((signsOf true pre : Nat) : Int) := by
        rw [← sgn_u]
        exact countIn_signs true pre
      have sq : SqL K H3 p ((pre.map sgn).map V.str) := by
        rw [← sv_map]
        exact .inl (.inl ep)
      refine ⟨.ref p, rfl, .inl ⟨rfl, _, sq⟩, p, pre.map sgn, "d", rfl, rfl, sq, .ref p, rfl, .inl ⟨rfl, _, sq⟩, p, pre.map sgn, "u", rfl, rfl, sq, _, 1, rfl, rfl, ?_⟩
      rw [cf, ct]
      have h12 := signsOf_len pre
      refine ⟨rfl, _, rfl, ite2 (fun e => ?_) (fun e => ?_)⟩
      · have hne : (signsOf false pre : Int) ≠ (signsOf true pre : Int) + 1 := fun z => by
          rw [decide_eq_true (congrArg V.int z)] at e
          cases e
        refine ⟨fun σ' H' => ∃ (u : Int) (pre' : List Bool) (y8 y9 y10 : Option V), σ' = [some (.ref a), some (.ref p), some (.int u), none, none, none, none, none, y8, y9, y10] ∧ gap pre' < gap pre ∧ pre'.length + gap pre' ≤ 123 ∧ Same H H' ∧ H' p = some (.lst (sv pre')), fun σ' H' ⟨u, pre', y8, y9, y10, e1, e2, e3, e4, e5⟩ => ⟨gap pre', e2, u, pre', y8, y9, y10, e1, rfl, e3, e4, e5⟩, ?_⟩
        refine ⟨.ref p, rfl, .inl ⟨rfl, _, sq⟩, sz (show 2 ≤ 1000000 by decide), fun p2 np2 => ?_⟩
        have s2 := same_upd (o := .lst [V.str "d", V.str "u"]) np2
        have sq2 := s2.seq sq
        have pp : p ≠ p2 := ne_of_none ep np2
        refine ⟨.ref p, rfl, .inl ⟨rfl, _, sq2⟩, p, pre.map sgn, "d", rfl, rfl, sq2, .ref p, rfl, .inl ⟨rfl, _, sq2⟩, p, pre.map sgn, "u", rfl, rfl, sq2, _, _, rfl, rfl, ?_⟩
        rw [cf, ct]
        obtain ⟨b, hb⟩ : ∃ b, decide ((signsOf true pre : Int) < (signsOf false pre : Int)) = b := ⟨_, rfl⟩
        have ix : ([V.str "d", V.str "u"])[if b = true then 1 else 0]? = some (.str (sgn b)) := by
          cases b
          · exact congrArg (fun z => some (V.str z)) sgn_d.symm
          · exact congrArg (fun z => some (V.str z)) sgn_u.symm
        refine .inr ⟨b, congrArg (fun z => [V.bl z]) hb, p2, _, _, .str (sgn b), rfl, rfl, .inl (.inl upd_same), at_of (j := if b = true then 1 else 0) (by cases b <;> rfl) ix, ?_⟩
        have hgap : gap (pre ++ [b]) + 1 = gap pre := by
          unfold gap
          rw [signsOf_app, signsOf_app]
          cases b
          · have h := of_decide_eq_false hb
            show (((signsOf false pre + 1 : Nat) : Int) - ((signsOf true pre + 0 : Nat) : Int) - 1).natAbs + 1 = _
            omega
          · have h := of_decide_eq_true hb
            show (((signsOf false pre + 0 : Nat) : Int) - ((signsOf true pre + 1 : Nat) : Int) - 1).natAbs + 1 = _
            omega
        refine ⟨p, _, _, rfl, rfl, by rw [upd_ne pp]; exact ep, szl (by unfold sv; rw [List.length_map]; omega), ?_⟩
        refine ⟨_, pre ++ [b], _, _, _, rfl, by omega, by rw [List.length_append]; show pre.length + 1 + _ ≤ 123; omega, same_updN (sm.trans s2) np, ?_⟩
        rw [upd_same, sv_snoc]
      · have heq : (signsOf false pre : Int) = (signsOf true pre : Int) + 1 := by
          cases hd : decide (V.int (signsOf false pre : Int) = V.int ((signsOf true pre : Int) + 1)) with
          | true => exact V.int.inj (of_decide_eq_true hd)
          | false => exact absurd (by rw [hd]; rfl) e
        have hs : (pre.map sg).sum = -1 := by
          rw [signsOf_sum]
          omega
        have hl : pre.length ≤ 123 := by omega
        refine ⟨⟨_, rfl⟩, .ref p, rfl, _, p, pre.map sgn, rfl, rfl, .inl sq, ?_, ?_⟩
        · rw [sgn_sum]
          show pre.length + _ * 0 ≤ 16777216
          omega
        rw [join_signs]
        clear cf ct sq heq h12 hg e
        generalize pre = l at hs hl
        have hne : 0 < l.length := by
          cases l with
          | nil => exact absurd hs (by decide)
          | cons b r => exact Nat.succ_pos _
        have hzl : (txt l).length = l.length := txt_len l
        obtain ⟨k, hk, one⟩ := turned_one hs
        have hgood := (one k hk).mpr rfl
        have hrow : TurnRow (txt l) l := ⟨rfl, hs⟩
        refine ⟨_, rfl, txt l, rfl, sz (by omega), ((txt l).length : Int), rfl, by omega, by omega, fun D nD => ?_⟩
        refine lc_range (lo := 0) (n := (txt l).length) (fun i H' => Same H3 H' ∧ H' D = some (.lst (((List.range i).filter fun j => stayB 0 (turned l j)).map fun j => V.int ((j : Nat) : Int)))) ⟨same_upd nD, upd_same⟩ ?_ ?_
        · rintro i H4 hi ⟨s4, eD⟩
          rw [hzl] at hi
          refine ⟨rfl, ?_⟩
          refine ⟨_, rfl, _, rfl, _, rfl, txt l, rfl, sz (by omega), _, rfl, _, rfl, _, rfl, txt l, rfl, sz (by omega), _, _, rfl, rfl, ?_, turned l i, ?_, by rw [turned_length (by omega)]; omega, fun H5 s5 => ?_⟩
          · have c1 := cutS_length (txt l) (some (0 + (i : Int))) none
            have c2 := cutS_length (txt l) none (some (0 + (i : Int)))
            exact sz (by omega)
          · show [V.str (cutS (txt l) (some (0 + (i : Int))) none ++ cutS (txt l) none (some (0 + (i : Int))))] = _
            rw [Int.zero_add, turned_txt (by omega)]
          have e1 : (List.range (i + 1)).filter (fun j => stayB 0 (turned l j)) = (List.range i).filter (fun j => stayB 0 (turned l j)) ++ [i].filter (fun j => stayB 0 (turned l j)) := by
            rw [List.range_succ, List.filter_append]
          have s45 := s4.trans s5
          have eD5 := s5 _ _ eD
          refine ⟨_, rfl, ?_⟩
          cases hb : stayB 0 (turned l i) with
          | true =>
            refine iteT ?_
            refine ⟨_, rfl, _, eD5, szl ?_, same_updN s45 nD, ?_⟩
            · rw [List.length_map]
              have := List.length_filter_le (fun j => stayB 0 (turned l j)) (List.range i)
              rw [List.length_range] at this
              omega
            · rw [upd_same, e1, List.filter_cons_of_pos (p := fun j => stayB 0 (turned l j)) hb, List.map_append, Int.zero_add]
              rfl
          | false =>
            refine iteF ?_
            refine ⟨s45, ?_⟩
            rw [e1, List.filter_cons_of_neg (p := fun j => stayB 0 (turned l j)) (by rw [hb]; decide)]
            rw [List.filter_nil, List.append_nil]
            exact eD5
        · rintro H4 ⟨s4, eD⟩
          rw [hzl, filter_one l.length hk one] at eD
          have eD : H4 D = some (.lst [.int (k : Int)]) := eD
          refine ⟨.ref D, rfl, D, _, rfl, .inl (.inl (.inl eD)), rfl, _, rfl, iteNS rfl ?_⟩
          refine ⟨_, rfl, txt l, rfl, by omega, .inl ⟨l, k, hrow, hk, hgood, fun H5 s5 => ?_⟩⟩
          have eD5 := s5 _ _ eD
          refine ⟨.ref D, rfl, D, _, 0, .int (k : Int), rfl, rfl, .inl (.inl eD5), rfl, rfl, _, rfl, iteNS rfl ?_⟩
          refine ⟨_, rfl, txt l, rfl, by omega, .inl ⟨l, k, hrow, hk, hgood, fun H6 s6 => ?_⟩⟩
          have eD6 := s6 _ _ eD5
          refine ⟨.int (k : Int), .ty "bool", _, _, false, rfl, .ty "bool", .base (.int (k : Int)), kit_ty (by decide +kernel), false, rfl, ?_⟩
          refine iteF ?_
          -- each turning
          have s6H : Same H3 H6 := (s4.trans s5).trans s6
          obtain ⟨n, hrg, hlt⟩ := rg_up (m := ((txt l).length : Int)) (c := 1 + ((txt l).length : Int) / 12) (by omega) (by omega) (by omega) (by omega)
          refine ⟨_, rfl, txt l, rfl, sz (by omega), _, rfl, txt l, rfl, sz (by omega), _, 12, rfl, rfl, ⟨by decide, by decide⟩, 1, _, rfl, rfl, 0, _, _, n, rfl, hrg, ?_⟩
          refine for_it (walk_rangeC (lo := 0) (c := 1 + ((txt l).length : Int) / 12) (n := n)) (fun i σ H' => ∃ (u : Int) (y8 y9 y10 : Option V), σ = [some (.ref a), some (.ref p), some (.int u), some (.str (txt l)), some (.ref D), none, none, none, y8, y9, y10] ∧ H' D = some (.lst [.int (k : Int)]) ∧ Same H H') ?_ (fun _ _ _ _ _ => trivial) ?_ ?_
          · exact ⟨_, _, _, _, rfl, eD6, sm.trans s6H⟩
          · rintro i x σ H7 H8 hi ⟨u, y8, y9, y10, rfl, eD, sm7⟩ ⟨rfl, rfl⟩
            have hi' := hlt i hi
            obtain ⟨k', ek', hk'⟩ : ∃ k' : Nat, 0 + (i : Int) * (1 + ((txt l).length : Int) / 12) = (k' : Int) ∧ k' < l.length := by
              have h0 : 0 ≤ (i : Int) * (1 + ((txt l).length : Int) / 12) := Int.mul_nonneg (by omega) (by omega)
              exact ⟨((i : Int) * (1 + ((txt l).length : Int) / 12)).toNat, by omega, by omega⟩
            show gName 8 (V.int (0 + (i : Int) * (1 + ((txt l).length : Int) / 12))) _ _ _
            rw [ek']
            obtain ⟨j, hj, hsj, ej⟩ := turned_stays hk hk' hgood
            refine ⟨_, rfl, _, rfl, _, rfl, txt l, rfl, sz (by omega), _, rfl, _, rfl, _, rfl, txt l, rfl, sz (by omega), _, _, rfl, rfl, ?_, txt (turned l k'), ?_, by rw [txt_len, turned_length (by omega)]; omega, .inl ⟨turned l k', j, ⟨rfl, (turned_sum l k').trans hs⟩, hj, hsj, fun H9 s9 => ?_⟩⟩
            · have c1 := cutS_length (txt l) (some (k' : Int)) none
              have c2 := cutS_length (txt l) none (some (k' : Int))
              exact sz (by omega)
            · show [V.str (cutS (txt l) (some (k' : Int)) none ++ cutS (txt l) none (some (k' : Int)))] = _
              rw [turned_txt (by omega)]
            have eD9 := s9 _ _ eD
            refine ⟨.ref D, rfl, D, _, 0, .int (k : Int), rfl, rfl, .inl (.inl eD9), rfl, .int (k' : Int), rfl, _, _, rfl, rfl, .str (txt l), rfl, txt l, rfl, sz (by omega), _, _, rfl, rfl, (by show 0 < ((txt l).length : Int); omega), rfl, _, rfl, iteNS ?_ ?_⟩
            · rw [hzl]
              exact congrArg V.int ej.symm
            · exact ⟨_, _, _, _, rfl, eD9, sm7.trans s9⟩
          · rintro σ H7 ⟨u, y8, y9, y10, rfl, eD, sm7⟩
            -- a text that is none
            refine ⟨.ref a, rfl, a, ns, 0, rfl, sm7.seq hS, ?_⟩
            have m0 := mixed_nonneg (ns.getD 0 0) ((0 : Nat) : Int)
            generalize mixed (ns.getD 0 0) ((0 : Nat) : Int) = mk at m0 ⊢
            refine ⟨_, rfl, _, rfl, txt l, rfl, sz (by omega), _, 1, rfl, rfl, mk, _, rfl, rfl, (by show 0 < ((txt l).length : Int) + 1; omega), ?_⟩
            obtain ⟨k3, e3, h3⟩ : ∃ k3 : Nat, mk % (((txt l).length : Int) + 1) = (k3 : Int) ∧ k3 ≤ l.length := by
              have h1 := Int.emod_nonneg mk (show ((txt l).length : Int) + 1 ≠ 0 by omega)
              have h2 := Int.emod_lt_of_pos mk (show 0 < ((txt l).length : Int) + 1 by omega)
              exact ⟨(mk % (((txt l).length : Int) + 1)).toNat, by omega, by omega⟩
            show gName 6 (V.int (mk % (((txt l).length : Int) + 1))) _ _ _
            rw [e3]
            obtain ⟨j, ej, hj⟩ : ∃ j : Nat, mk / 200 % 5 = (j : Int) ∧ j < 5 := ⟨(mk / 200 % 5).toNat, by omega, by omega⟩
            have hparts : ((l.take k3).map sg).sum + ((l.drop k3).map sg).sum = -1 := by
              rw [← List.sum_append, ← List.map_append, List.take_append_drop]
              exact hs
            obtain ⟨bad, gb, lb, nb⟩ := pick_wrong hparts hj
            refine ⟨_, rfl, _, rfl, _, rfl, txt l, rfl, sz (by omega), sz (show 5 ≤ 1000000 by decide), fun bl nbl => ?_⟩
            refine ⟨_, rfl, mk, 200, rfl, rfl, ⟨by decide, by decide⟩, mk / 200, 5, rfl, rfl, (by show (0 : Int) < 5; decide), bl, _, _, .str bad, rfl, rfl, .inl (.inl upd_same), at_of ej gb, ?_⟩
            have l1 := cutS_length (txt l) none (some (k3 : Int))
            have l2 := cutS_length (txt l) (some (k3 : Int)) none
            refine ⟨_, _, rfl, rfl, sz (by omega), ?_⟩
            refine ⟨_, rfl, _, rfl, _, rfl, txt l, rfl, sz (by omega), _, _, rfl, rfl, sz (by rw [PySem.Str.length_append]; omega), ?_⟩
            have wl : (cutS (txt l) none (some (k3 : Int)) ++ bad ++ cutS (txt l) (some (k3 : Int)) none).length ≤ 1000 := by
              rw [PySem.Str.length_append, PySem.Str.length_append]
              omega
            have wn : ∀ l', ¬ TurnRow (cutS (txt l) none (some (k3 : Int)) ++ bad ++ cutS (txt l) (some (k3 : Int)) none) l' := by
              rw [cutS_from h3, cutS_to h3]
              exact nb
            generalize (cutS (txt l) none (some (k3 : Int)) ++ bad ++ cutS (txt l) (some (k3 : Int)) none) = wrong at wl wn
            refine ⟨_, rfl, wrong, rfl, wl, .inr ⟨wn, fun HG sG => ⟨rfl, true, congrArg V.bl (decide_eq_true rfl), ?_⟩⟩⟩
            refine iteT ?_
            refine ⟨"", rfl, by decide +kernel, .inr ⟨no_empty, fun HI sI => ⟨rfl, true, congrArg V.bl (decide_eq_true rfl), ?_⟩⟩⟩
            refine iteT ?_
            refine ⟨"d", rfl, by decide +kernel, .inl ⟨[false], 0, one_down, by decide, by decide, fun HK sK => ⟨rfl, ?_⟩⟩⟩
            rw [decide_eq_true (show V.int ((0 : Nat) : Int) = V.int 0 from rfl)]
            exact q _
end
end Hr
/-! ### how often a sign stands in a text; a sign so many times -/
namespace Hr
open PySem PySem.Spec PyProof.Rows L2
open PySem.Builtin PySem.Builtin.Str in
theorem occ_run (x : Str) (c : Nat) : ∀ (m a : Nat) (acc : Array Nat) (free : Nat), a + m = x.length + 1 → free ≤ a → acc.size ≤ a →
    (forIn (List.range' a m) (acc, free) (StrLaws.occBody x ⟨#[c]⟩ x.length (x.length + 1))).run.fst.size = acc.size + ((x.cps.toList.drop a).filter fun k => k == c).length
  | 0, a, acc, free, e, _, _ => by
    have : x.cps.toList.drop a = [] := List.drop_eq_nil_of_le (by
      have : x.cps.toList.length = x.length := rfl
      omega)
    rw [this]
    rfl
  | m + 1, a, acc, free, e, hf, hs => by
    rw [List.range'_succ, List.forIn_cons]
    unfold StrLaws.occBody
    by_cases hc : x.cps.toList[a]? = some c
    · obtain ⟨h1, h2⟩ := (StrLaws.subAt_one x c a).mpr hc
      rw [if_pos ⟨⟨⟨(show acc.size < x.length + 1 by omega), hf⟩, h1⟩, h2⟩]
      have ih := occ_run x c m (a + 1) (acc.push a) (a + (⟨#[c]⟩ : Str).length) (by omega) (Nat.le_refl _) (by rw [Array.size_push]; omega)
      have hlt : a < x.cps.toList.length := (List.getElem?_eq_some_iff.mp hc).1
      rw [List.drop_eq_getElem_cons hlt, List.filter_cons_of_pos (by rw [(List.getElem?_eq_some_iff.mp hc).2]; simp), List.length_cons]
      rw [Array.size_push] at ih
      exact ih.trans (by omega)
    · rw [if_neg (fun z => hc ((StrLaws.subAt_one x c a).mp ⟨z.1.2, z.2⟩))]
      have ih := occ_run x c m (a + 1) acc free (by omega) (by omega) (by omega)
      have hd : ((x.cps.toList.drop a).filter fun k => k == c).length = ((x.cps.toList.drop (a + 1)).filter fun k => k == c).length := by
        by_cases hlt : a < x.cps.toList.length
        · rw [List.drop_eq_getElem_cons hlt, List.filter_cons_of_neg (by
            intro z
            have z : x.cps.toList[a] = c := by simpa using z
            exact hc (by rw [List.getElem?_eq_getElem hlt, z]))]
        · rw [List.drop_eq_nil_of_le (by omega), List.drop_eq_nil_of_le (by omega)]
      rw [hd]
      exact ih
theorem count_one (x : Str) (c : Nat) : Txt.count x ⟨#[c]⟩ = ((x.cps.toList.filter fun k => k == c).length : Nat) := by
  have h := occ_run x c (x.length + 1) 0 #[] 0 (by omega) (Nat.le_refl _) (Nat.le_refl _)
  show (((Builtin.Str.occurrences x ⟨#[c]⟩ 0 x.length (x.length + 1)).length : Nat) : Int) = _
  rw [StrLaws.occ_eq, Array.length_toList]
  rw [show x.length + 1 - 0 = x.length + 1 from rfl]
  have h2 : ((#[] : Array Nat).size + ((x.cps.toList.drop 0).filter fun k => k == c).length) = (x.cps.toList.filter fun k => k == c).length := by
    rw [List.drop_zero]
    exact Nat.zero_add _
  exact congrArg (fun n : Nat => (n : Int)) (h.trans h2)
theorem count_u (l : List Bool) : Txt.count (txt l) ("u" : Str) = ((l.filter id).length : Nat) := by
  rw [eU, count_one]
  show ((((l.map code).filter fun k => k == 117).length : Nat) : Int) = _
  rw [List.filter_map, List.length_map]
  congr 2
  refine List.filter_congr fun b _ => ?_
  cases b <;> rfl
theorem rep_txt (b : Bool) : ∀ k, (⟨(List.replicate k (sgn b).cps).foldl (· ++ ·) #[]⟩ : Str) = txt (List.replicate k b)
  | k => by
    have h : ∀ (k : Nat) (acc : Array Nat), (List.replicate k (sgn b).cps).foldl (· ++ ·) acc = acc ++ (List.replicate k (code b)).toArray := by
      intro k
      induction k with
      | zero => intro acc; simp
      | succ k ih =>
        intro acc
        rw [List.replicate_succ, List.foldl_cons, ih, List.replicate_succ]
        apply Array.ext'
        show (acc ++ #[code b] ++ (List.replicate k (code b)).toArray).toList = (acc ++ (code b :: List.replicate k (code b)).toArray).toList
        rw [Array.toList_append, Array.toList_append, Array.toList_append, List.append_assoc]
        rfl
    rw [h]
    unfold txt
    rw [List.map_replicate]
    simp
theorem op_mul_sgn {X : Cx} : OpR X (binaryOp .Mult) (fun x y H Q => ∃ (b : Bool) (k : Nat), x = .str (sgn b) ∧ y = .int (k : Int) ∧ k ≤ 1000 ∧ Q (.str (txt (List.replicate k b))) H) := by
  intro pins s σ H x y v u Q I rx ry h
  obtain ⟨b, k, rfl, rfl, hk, q⟩ := h
  obtain ⟨t, rfl⟩ := rx
  obtain ⟨t', rfl⟩ := ry
  have hz : ((sgn b).length : Int) = 1 := rfl
  refine PySem.P.mul_str ?_ (fun h1 _ => ?_) (fun h1 _ => ?_) ?_
  · rw [decide_eq_false (by omega), decide_eq_false (by omega)]
    rfl
  · rw [hz]
    have h3 : (1 : Int) ≤ (2 ^ 63 - 1) / (k : Int) := by
      refine (Int.le_ediv_iff_mul_le (by omega)).mpr ?_
      omega
    omega
  · rw [Int.toNat_natCast]
    show decide (sizeLine < 1 * k) = false
    exact decide_eq_false (by have := sz (show k ≤ 1000000 by omega); omega)
  · by_cases h1 : (k : Int) < 1
    · rw [if_pos h1]
      have e0 : k = 0 := by omega
      subst e0
      exact ⟨by decide, .str (txt []), H, I.tok _, ⟨_, rfl⟩, q⟩
    · rw [if_neg h1]
      by_cases h2 : ((k : Int) == 1 || (sgn b).length == 0) = true
      · rw [if_pos h2]
        have e1 : k = 1 := by
          have : (sgn b).length = 1 := rfl
          rw [this] at h2
          simp at h2
          omega
        subst e1
        exact ⟨.str (sgn b), H, I, ⟨_, rfl⟩, q⟩
      · rw [if_neg h2, Int.toNat_natCast, rep_txt]
        refine ⟨?_, .str (txt (List.replicate k b)), H, I.tok _, ⟨_, rfl⟩, q⟩
        rw [txt_len, List.length_replicate]
        exact sz (by omega)
end Hr
namespace Hr
open PySem PySem.Spec PyProof.Rows L2
section
variable {P : Program} {w : World} {K : PySem.W.Frag} {mg : Str → Option Value} {base : Heap}
def spHeights : Sp := fun vs H Q _ => ∃ (l : List Bool), vs = [.str (txt l)] ∧ l.length ≤ 1000 ∧ ∀ H' p, Same H H' → H p = none → H' p = some (.lst ((hts 0 l).map V.int)) → Q (.ref p) H'
theorem cal_heights (D : Def K mg "heights" sHeights ["row"]) (C : Cal K mg CX0 P w base 1 "is_row" [] spIsRow) {t1 : Tok} (gU : mg "UP" = some (.str "u" t1)) : Cal K mg CX0 P w base 2 "heights" [] spHeights := by
  refine D.cal scHeights (fun vs H Q E h => ?_) (fun f cdv A outer s H vs Q E hr h => ?_)
  · obtain ⟨z, rfl, _⟩ := h
    rfl
  · obtain ⟨l, rfl, hl, q⟩ := h
    have nd := scHeights.nd
    refine ⟨_, pss_cons (ps_if (pt_not (pt_val (pe_c C hr (pa_cons (pv 0) pa_nil)))) pss_never pss_nil)
      (pss_cons (ps_set (i := 1) nd rfl (.inl rfl) pe_int)
      (pss_cons (ps_set (i := 2) nd rfl (.inl rfl) (pe_lst (pa_cons (pv 1) pa_nil)))
      (pss_cons (ps_for PassesOwn.never rfl (pi_str (pv 0)) (pg_name (i := 3) nd rfl (.inl rfl))
        (pss_cons (ps_aug (i := 1) nd rfl (.inl rfl) (pe_ifExp (pt_cmpR op_eq (pv 3) (pe_glob (v := .str "u") (by rfl) gU ⟨_, rfl⟩) (nomark _)) pe_int (pe_un un_neg pe_int)) ip_add)
        (pss_one (ps_expr (pe_bm PySem.F.plainAttrs_list PySem.F.slot_list_append PySem.F.type_list_append mt_append (pv 2) (pa_cons (pv 1) pa_nil))))))
      (pss_one (ps_ret (pv 2)))))), ?_⟩
    refine ⟨.str (txt l), rfl, txt l, rfl, by rw [txt_len]; exact hl, fun H1 s1 => ⟨true, by rw [isRowB_txt], iteF ?_⟩⟩
    refine ⟨.int 0, rfl, sz (show 1 ≤ 1000000 by decide), fun o no => ?_⟩
    have n0 : H o = none := s1.free no
    refine ⟨.str (txt l), rfl, txt l, rfl, ?_⟩
    refine for_it walk_str (fun i σ H' => ∃ y, σ = [some (.str (txt l)), some (.int ((l.take i).map sg).sum), some (.ref o), y] ∧ Same H H' ∧ H' o = some (.lst ((hts 0 (l.take i)).map V.int))) ?_ (fun _ _ _ _ _ => trivial) ?_ ?_
    · exact ⟨none, rfl, same_updN s1 n0, upd_same⟩
    · rintro i x σ H2 H3 hi ⟨y, rfl, sm, eo⟩ ⟨rfl, c, hc, rfl⟩
      rw [txt_at] at hc
      obtain ⟨b, hb, rfl⟩ := Option.map_eq_some_iff.mp hc
      have e1 : ((l.take (i + 1)).map sg).sum = ((l.take i).map sg).sum + sg b := by
        rw [take_snoc hb, List.map_append, List.sum_append]
        show _ + (sg b + 0) = _
        omega
      have e2 : hts 0 (l.take (i + 1)) = hts 0 (l.take i) ++ [((l.take (i + 1)).map sg).sum] := by
        rw [e1, take_snoc hb, hts_snoc, Int.zero_add]
      have hlen : ((hts 0 (l.take i)).map V.int).length < sizeLine := szl (by rw [List.length_map, hts_len, List.length_take]; omega)
      refine ⟨_, rfl, .str ⟨#[code b]⟩, rfl, rfl, decide (code b = 117), congrArg V.bl (is_u _), ?_⟩
      rw [code_u]
      cases b with
      | true =>
        refine iteT ?_
        refine ⟨_, 1, rfl, rfl, .ref o, rfl, .inl ⟨rfl, _, .inl (.inl eo)⟩, _, rfl, o, _, _, rfl, rfl, eo, hlen, some (.str ⟨#[code true]⟩), ?_, same_updN sm n0, ?_⟩
        · rw [e1]
          rfl
        · rw [upd_same, e2, e1, List.map_append]
          rfl
      | false =>
        refine iteF ?_
        refine ⟨1, rfl, _, -1, rfl, rfl, .ref o, rfl, .inl ⟨rfl, _, .inl (.inl eo)⟩, _, rfl, o, _, _, rfl, rfl, eo, hlen, some (.str ⟨#[code false]⟩), ?_, same_updN sm n0, ?_⟩
        · rw [e1]
          rfl
        · rw [upd_same, e2, e1, List.map_append]
          rfl
    · rintro σ H2 ⟨y, rfl, sm, eo⟩
      rw [txt_size, List.take_length] at eo
      exact ⟨.ref o, rfl, q H2 o sm n0 eo⟩
end
end Hr
/-! ### the program's stays -/
namespace Hr
open PySem PySem.Spec PyProof.Rows L2
theorem scTurn : FnScope ["row", "found", "lowest"] ["row"] (defScope sTurn) := ⟨rfl, rfl, rfl, by decide +kernel, rfl, by decide +kernel, by decide +kernel⟩
theorem count_s (b : Bool) (l : List Bool) : Txt.count (txt l) (sgn b) = ((signsOf b l : Nat) : Int) := by
  show Txt.count (txt l) ⟨#[code b]⟩ = _
  rw [count_one]
  show ((((l.map code).filter fun k => k == code b).length : Nat) : Int) = _
  rw [List.filter_map, List.length_map]
  unfold signsOf
  congr 2
  refine List.filter_congr fun x _ => ?_
  cases x <;> cases b <;> rfl
theorem hts_get : ∀ (l : List Bool) (h : Int) (i : Nat), i ≤ l.length → (hts h l)[i]? = some (h + hgt l i)
  | [], h, i, hi => by
    have : i = 0 := by
      have : i ≤ 0 := hi
      omega
    subst this
    show some h = some (h + 0)
    rw [Int.add_zero]
  | b :: l, h, 0, _ => by
    show some h = some (h + 0)
    rw [Int.add_zero]
  | b :: l, h, i + 1, hi => by
    rw [List.length_cons] at hi
    have := hts_get l (h + sg b) i (by omega)
    show (hts (h + sg b) l)[i]? = _
    rw [this]
    unfold hgt
    rw [List.take_succ_cons, List.map_cons, List.sum_cons, ← Int.add_assoc]
theorem hts_mem {l : List Bool} {x : Int} (h : x ∈ hts 0 l) : ∃ i, i ≤ l.length ∧ x = hgt l i := by
  obtain ⟨i, hi, e⟩ := List.getElem_of_mem h
  rw [hts_len] at hi
  refine ⟨i, by omega, ?_⟩
  have := hts_get l 0 i (by omega)
  rw [List.getElem?_eq_getElem (by rw [hts_len]; exact hi), e, Int.zero_add] at this
  exact Option.some.inj this
section
variable {P : Program} {w : World} {K : PySem.W.Frag} {mg : Str → Option Value} {base : Heap}
theorem cal_turn {CT : Addr} (er : Err K mg "NoTurn" CT) (D : Def K mg "stays" sTurn ["row"]) (C : Cal K mg CX0 P w base 1 "is_row" [] spIsRow) (C2 : Cal K mg CX0 P w base 2 "heights" [] spHeights) (mmin : mg "min" = none) (mlen : mg "len" = none)
    {t1 t2 : Tok} (gU : mg "UP" = some (.str "u" t1)) (gD : mg "DOWN" = some (.str "d" t2)) : Cal K mg (L2.CX P w) P w base 4 "stays" [] (spTurn CT) := by
  refine D.calX scTurn (fun vs H Q E h => ?_) (fun f cdv A outer s H vs Q E hr h => ?_)
  · obtain ⟨z, rfl, _⟩ := h
    rfl
  · obtain ⟨z, rfl, hz, q, qe⟩ := h
    have nd := scTurn.nd
    refine ⟨_, pss_cons (ps_if (PW.pt (pw_or (pt_not (pt_val (pe_c C hr (pa_cons (pv 0) pa_nil)))) (pw_or1 (pt_cmpR op_ne (pe_m1 PySem.F.slot_str_count PySem.F.type_str_count mt_count (pv 0) (pe_glob (v := .str "d") (by rfl) gD ⟨_, rfl⟩)) (pe_op op_add (pe_m1 PySem.F.slot_str_count PySem.F.type_str_count mt_count (pv 0) (pe_glob (v := .str "u") (by rfl) gU ⟨_, rfl⟩)) pe_int) (nomark _)))))
        (pss_one (ps_raise rfl (takes_of rfl rfl rfl rfl) (pmk_own PySem.F.excBase_ValueError er.x er.g er.k (raises_own er.b er.t) rfl))) pss_nil)
      (pss_cons (ps_set (i := 1) nd rfl (.inl rfl) (pe_c C2 hr (pa_cons (pv 0) pa_nil)))
      (pss_cons (ps_set (i := 2) nd rfl (.inl rfl) (pe_bm PySem.F.plainAttrs_list PySem.F.slot_list_index PySem.F.type_list_index mt_index (pv 1) (pa_cons (pe_callB (cr_min rfl) (by rfl) mmin boot_min (pa_cons (pv 1) pa_nil)) pa_nil)))
      (pss_one (ps_ret (pe_op op_mod (pv 2) (pe_callB call_len_str (by rfl) mlen PySem.boot_len (pa_cons (pv 0) pa_nil))))))), ?_⟩
    refine ⟨.str z, rfl, z, rfl, hz, fun H1 s1 => ⟨isRowB z, rfl, ?_⟩⟩
    by_cases hrow : isRowB z = true
    · rw [hrow]
      refine iteF ?_
      obtain ⟨l, rfl⟩ : ∃ l, z = txt l := ⟨signs z, (txt_signs hrow).symm⟩
      rw [txt_len] at hz
      have cd : Txt.count (txt l) ("d" : Str) = ((signsOf false l : Nat) : Int) := by rw [← sgn_d, count_s]
      have cu : Txt.count (txt l) ("u" : Str) = ((signsOf true l : Nat) : Int) := by rw [← sgn_u, count_s]
      have hsum := signsOf_sum l
      refine ⟨.str (txt l), rfl, ⟨_, rfl⟩, txt l, "d", rfl, rfl, .str (txt l), rfl, ⟨_, rfl⟩, txt l, "u", rfl, rfl, _, 1, rfl, rfl, rfl, _, rfl, ite2 (fun e => ?_) (fun e => ?_)⟩
      · refine qe (fun l' hl' => ?_) H1 s1
        have el : l' = l := (txt_inj hl'.1).symm
        subst el
        have e' : ¬ (V.int (Txt.count (txt l') ("d" : Str)) = V.int (Txt.count (txt l') ("u" : Str) + 1)) := by simpa using e
        rw [cd, cu] at e'
        exact e' (congrArg V.int (by have := hl'.2; omega))
      · have e0 : V.int (Txt.count (txt l) ("d" : Str)) = V.int (Txt.count (txt l) ("u" : Str) + 1) := by simpa using e
        have e0 := V.int.inj e0
        rw [cd, cu] at e0
        have hs : (l.map sg).sum = -1 := by omega
        obtain ⟨k, k0, kl, low⟩ := lowest_is hs
        refine ⟨.str (txt l), rfl, l, rfl, hz, fun H2 p s2 np ep => ?_⟩
        have hS : SqL K H2 p ((hts 0 l).map V.int) := .inl (.inl ep)
        refine ⟨.ref p, rfl, .inl ⟨rfl, _, hS⟩, .ref p, rfl, p, hts 0 l, rfl, hS, by rw [hts_len]; omega, fun M hM hmin => ?_⟩
        have eM : M = hgt l k := by
          obtain ⟨i, hi, rfl⟩ := hts_mem hM
          have h1 : hgt l i ≤ hgt l k := hmin _ (List.mem_of_getElem? ((hts_get l 0 k kl).trans (by rw [Int.zero_add])))
          by_cases hik : i < k
          · have := low.1 i hik
            omega
          · have := low.2 i (by omega) hi
            omega
        have gk : ∀ i, i ≤ l.length → ((hts 0 l).map V.int)[i]? = some (.int (hgt l i)) := fun i hi => by
          rw [List.getElem?_map, hts_get l 0 i hi, Int.zero_add]
          rfl
        refine ⟨p, _, _, k, _, rfl, rfl, hS, rfl, ?_, gk k kl, ?_, fun m z' hm hz' => ?_, ?_⟩
        · rw [List.all_eq_true]
          intro v hv
          obtain ⟨n, _, rfl⟩ := List.mem_map.mp hv
          rfl
        · rw [eM]
          show (hgt l k == hgt l k) = true
          exact beq_self_eq_true _
        · rw [gk m (by omega)] at hz'
          cases hz'
          rw [eM]
          show (hgt l m == hgt l k) = false
          have := low.1 m hm
          exact beq_eq_false_iff_ne.mpr (by omega)
        · have hlen : (txt l).length = l.length := txt_len l
          refine ⟨_, rfl, .str (txt l), rfl, txt l, rfl, sz (by rw [hlen]; omega), (k : Int), ((txt l).length : Int), rfl, rfl, (by rw [hlen]; show (0 : Int) < _; omega), ?_⟩
          rw [hlen]
          show Q (.int ((k : Int) % (l.length : Int))) H2
          by_cases hk : k = l.length
          · rw [show (k : Int) % (l.length : Int) = ((0 : Nat) : Int) by rw [hk, Int.emod_self]; rfl]
            refine q l 0 ⟨rfl, hs⟩ (by omega) ?_ H2 (s1.trans s2)
            rw [turned_zero, ← turned_len l, ← hk]
            rw [hk, turned_len]
            have := (turned_iff hs k0 kl).mpr low
            rw [hk, turned_len] at this
            exact this
          · rw [Int.emod_eq_of_lt (by omega) (by omega)]
            exact q l k ⟨rfl, hs⟩ (by omega) ((turned_iff hs k0 kl).mpr low) H2 (s1.trans s2)
    · have hrow' : isRowB z = false := by simpa using hrow
      rw [hrow']
      refine iteT ?_
      refine qe (fun l hl => ?_) H1 s1
      rw [hl.1, isRowB_txt] at hrow'
      cases hrow'
end
end Hr
namespace Hr
open PySem PySem.Spec PyProof.Rows L2
/-- the eight classes by their numbers -/
def eight (c0 c1 c2 c3 c4 c5 c6 c7 : Addr) : Nat → Addr
  | 0 => c0 | 1 => c1 | 2 => c2 | 3 => c3 | 4 => c4 | 5 => c5 | 6 => c6 | _ => c7
theorem kit_eight {K : PySem.W.Frag} {t : Value} {k : Nat} {c0 c1 c2 c3 c4 c5 c6 c7 : Addr} (h0 : PySem.W.kitOne K t (.ref c0) = some (decide (0 = k))) (h1 : PySem.W.kitOne K t (.ref c1) = some (decide (1 = k))) (h2 : PySem.W.kitOne K t (.ref c2) = some (decide (2 = k)))
    (h3 : PySem.W.kitOne K t (.ref c3) = some (decide (3 = k))) (h4 : PySem.W.kitOne K t (.ref c4) = some (decide (4 = k))) (h5 : PySem.W.kitOne K t (.ref c5) = some (decide (5 = k))) (h6 : PySem.W.kitOne K t (.ref c6) = some (decide (6 = k))) (h7 : PySem.W.kitOne K t (.ref c7) = some (decide (7 = k))) :
    ∀ j, j < 8 → PySem.W.kitOne K t (.ref (eight c0 c1 c2 c3 c4 c5 c6 c7 j)) = some (decide (j = k))
  | 0, _ => h0 | 1, _ => h1 | 2, _ => h2 | 3, _ => h3 | 4, _ => h4 | 5, _ => h5 | 6, _ => h6 | 7, _ => h7
  | j + 8, h => absurd h (by omega)
end Hr
/-! ### what the top has written -/
namespace Hr
open PySem PySem.Spec PyProof.Rows L2
theorem all_mk {l : PySem.W.OpenLaw} {w : World} {K : PySem.W.Frag} {h : Heap} {mg : Str → Option Value} {fa f : Addr} (X : K.In h) (G : h.Ns mainGlobals mg) (hfa : mg "law" = some (.ref fa))
    {od an : Option Addr} {sl : Array (Option Value)} {oc kV dc pm cd ct : Value} {tk_UP tk_DOWN : Tok} {CH c0 c1 c2 c3 c4 c5 c6 c7 : Addr}
    (a : PySem.W.nsIn K mainGlobals "law" = some (some (.ref f))) (l1 : K.lookup f = some ⟨oc, od, .func (PySem.W.fnOf "law" "law" (defArgs sLaw) (defBody sLaw) (defScope sLaw) .none kV dc pm an cd ct), sl⟩) (c : PySem.W.codeIn K cd "law" = true) (k : PySem.W.keepIn K (.ref f) = true)
    (d_heights : Def K mg "heights" sHeights ["row"])
    (d_is_row : Def K mg "is_row" sIsRow ["text"])
    (d_stays : Def K mg "stays" sTurn ["row"])
    (d_law_mixed : Def K mg "_law_mixed" sMixed ["_law_cell", "_law_k"])
    (d_law_number : Def K mg "_law_number" sNumber ["_law_script", "_law_k"])
    (d_law_word : Def K mg "_law_word" sWord ["_law_error"])
    (d_law_told : Def K mg "_law_told" sTold ["_law_row"])
    (d_law_stays : Def K mg "_law_stays" sStays ["_law_row"])
    (g_UP : PySem.W.nsIn K mainGlobals "UP" = some (some (.str "u" tk_UP)))
    (g_DOWN : PySem.W.nsIn K mainGlobals "DOWN" = some (some (.str "d" tk_DOWN)))
    (z_all : PySem.W.nsIn K mainGlobals "all" = some none)
    (z_bool : PySem.W.nsIn K mainGlobals "bool" = some none)
    (z_enumerate : PySem.W.nsIn K mainGlobals "enumerate" = some none)
    (z_int : PySem.W.nsIn K mainGlobals "int" = some none)
    (z_isinstance : PySem.W.nsIn K mainGlobals "isinstance" = some none)
    (z_len : PySem.W.nsIn K mainGlobals "len" = some none)
    (z_min : PySem.W.nsIn K mainGlobals "min" = some none)
    (z_range : PySem.W.nsIn K mainGlobals "range" = some none)
    (z_str : PySem.W.nsIn K mainGlobals "str" = some none)
    (z_zip : PySem.W.nsIn K mainGlobals "zip" = some none)
    (gc0 : PySem.W.nsIn K mainGlobals "NoRow" = some (some (.ref c0)))
    (gc1 : PySem.W.nsIn K mainGlobals "NoCount" = some (some (.ref c1)))
    (gc2 : PySem.W.nsIn K mainGlobals "NoRank" = some (some (.ref c2)))
    (gc3 : PySem.W.nsIn K mainGlobals "NoPlace" = some (some (.ref c3)))
    (gc4 : PySem.W.nsIn K mainGlobals "NoTree" = some (some (.ref c4)))
    (gc5 : PySem.W.nsIn K mainGlobals "NoPairs" = some (some (.ref c5)))
    (gc6 : PySem.W.nsIn K mainGlobals "NoTurn" = some (some (.ref c6)))
    (gc7 : PySem.W.nsIn K mainGlobals "NoText" = some (some (.ref c7)))
    (gH : PySem.W.nsIn K mainGlobals "HillError" = some (some (.ref CH)))
    (hHb : PySem.W.subIn K (.ref CH) (.type "BaseException") = some true)
    (hHd : PySem.W.hasDictIn K CH = true)
    (hHt : PySem.W.typeIn K (.ref CH) = some (.type "type"))
    (on : PySem.W.specialIn K (.builtin "object.__class__") "__get__" = some (some (.builtin "getset_descriptor.__get__")))
    (ot : PySem.W.takesIn K (.builtin "object.__class__") = some true)
    (x6 : PySem.W.excIn K c6 [.type "ValueError", .type "Exception", .type "BaseException", .type "object"] "ValueError.__new__" = true)
    (k6 : PySem.W.keepIn K (.ref c6) = true)
    (b6 : PySem.W.subIn K (.ref c6) (.type "BaseException") = some true)
    (t6 : PySem.W.typeIn K (.ref c6) = some (.type "type"))
    (s6 : PySem.W.subIn K (.ref c6) (.ref CH) = some true)
    (eg6 : PySem.W.findIn K (.ref c6) "__getattribute__" = some (some (.builtin "BaseException.__getattribute__")))
    (ek6 : PySem.W.findIn K (.ref c6) "__getattr__" = some none)
    (ed6 : PySem.W.hasDictIn K c6 = true)
    (ea6 : PySem.W.findIn K (.ref c6) "__class__" = some (some (.builtin "object.__class__")))
    (em6 : PySem.W.mroIn K c6 (.type "object") = some true)
    (ve6 : PySem.W.kitOne K (.ref c6) (.type "ValueError") = some true)
    (q6_0 : PySem.W.kitOne K (.ref c6) (.ref c0) = some false)
    (q6_1 : PySem.W.kitOne K (.ref c6) (.ref c1) = some false)
    (q6_2 : PySem.W.kitOne K (.ref c6) (.ref c2) = some false)
    (q6_3 : PySem.W.kitOne K (.ref c6) (.ref c3) = some false)
    (q6_4 : PySem.W.kitOne K (.ref c6) (.ref c4) = some false)
    (q6_5 : PySem.W.kitOne K (.ref c6) (.ref c5) = some false)
    (q6_6 : PySem.W.kitOne K (.ref c6) (.ref c6) = some true)
    (q6_7 : PySem.W.kitOne K (.ref c6) (.ref c7) = some false)
    : ∃ fd : FuncData, (∀ (s : Shared) (v : Value), BindsTo s fd ⟨[v], []⟩ [("_law_script", v)]) ∧ ∀ base : Heap, K.In base → base.Ns mainGlobals mg → FnOk l.prog w K mg base CX0 6 fa fd ["_law_script"] (spLaw K) := by
  have e := hfa.symm.trans (PySem.W.mg_of X G a)
  cases e
  have F := fun_mk (st := sLaw) l1 c k
  refine ⟨PySem.W.fnOf "law" "law" (defArgs sLaw) (defBody sLaw) (defScope sLaw) .none kV dc pm an cd ct, fun s v => .of_eq rfl, fun base _ _ => ?_⟩
  have m_all := PySem.W.mg_none_of X G z_all
  have m_bool := PySem.W.mg_none_of X G z_bool
  have m_enumerate := PySem.W.mg_none_of X G z_enumerate
  have m_int := PySem.W.mg_none_of X G z_int
  have m_isinstance := PySem.W.mg_none_of X G z_isinstance
  have m_len := PySem.W.mg_none_of X G z_len
  have m_min := PySem.W.mg_none_of X G z_min
  have m_range := PySem.W.mg_none_of X G z_range
  have m_str := PySem.W.mg_none_of X G z_str
  have m_zip := PySem.W.mg_none_of X G z_zip
  have c_UP := PySem.W.mg_of X G g_UP
  have c_DOWN := PySem.W.mg_of X G g_DOWN
  have mc0 := PySem.W.mg_of X G gc0
  have mc1 := PySem.W.mg_of X G gc1
  have mc2 := PySem.W.mg_of X G gc2
  have mc3 := PySem.W.mg_of X G gc3
  have mc4 := PySem.W.mg_of X G gc4
  have mc5 := PySem.W.mg_of X G gc5
  have mc6 := PySem.W.mg_of X G gc6
  have mc7 := PySem.W.mg_of X G gc7
  have mH := PySem.W.mg_of X G gH
  have er6 : Err K mg "NoTurn" c6 := ⟨mc6, x6, k6, b6, t6⟩
  have is6 : IsErr K (eight c0 c1 c2 c3 c4 c5 c6 c7) 6 := ⟨by decide, ⟨eg6, ek6, b6, ed6, ea6, on, ot, em6⟩, kit_eight q6_0 q6_1 q6_2 q6_3 q6_4 q6_5 q6_6 q6_7, ve6⟩
  have ex6 := PySem.W.exm_ref hHb hHd hHt s6
  have cIsRow := cal_isRow (P := l.prog) (w := w) (base := base) d_is_row m_isinstance m_str m_all c_UP c_DOWN
  have cHeights := cal_heights d_heights cIsRow c_UP
  have cTurn := cal_turn er6 d_stays cIsRow cHeights m_min m_len c_UP c_DOWN
  have cMixed := cal_mixed (P := l.prog) (w := w) (base := base) d_law_mixed
  have cNum := cal_number d_law_number cMixed m_len
  have cLStays := cal_stays (P := l.prog) (w := w) (base := base) d_law_stays m_len m_int m_enumerate
  have cWord := cal_word (cs := (eight c0 c1 c2 c3 c4 c5 c6 c7)) (P := l.prog) (w := w) (base := base) d_law_word mc0 mc1 mc2 mc3 mc4 mc5 mc6 mc7 m_isinstance m_zip
  have cTold := cal_told (cs := (eight c0 c1 c2 c3 c4 c5 c6 c7)) d_law_told mH is6 ex6 cTurn cWord
  exact ok_law F cMixed cNum cLStays cTold m_len m_int m_bool m_isinstance m_range m_enumerate
end Hr
open PySem PySem.W PyProof.Rows
set_option maxHeartbeats 0 in
theorem PySem.Challenge.cw_hillrows_k10_whole_turnings_holds : PySem.Challenge.rw_hillrows_k10_whole_turnings.Holds := by
  w_on; o_law; k_head; (case hw => w_witness2)
  k_fill
  refine L2.walk_of (l := PySem.Challenge.rw_hillrows_k10_whole_turnings) (n := 63) (k := 6) (x := "_law_script") (CX := fun _ => L2.CX0) (sp := fun w => Hr.spLaw _) rfl (by decide) rfl ⟨rfl, by decide, by decide⟩ (fun w h Y => PySem.W.kIn_of Y) ?F (fun _ _ a ns hl _ hS => ⟨a, ns, rfl, hS, hl, fun _ => rfl⟩) (fun _ _ _ _ _ h => h)
  case F =>
    intro w mg fa h KX G hmg
    refine' Hr.all_mk KX G hmg ?a ?l1 ?c ?k ?d_heights ?d_is_row ?d_stays ?d_law_mixed ?d_law_number ?d_law_word ?d_law_told ?d_law_stays ?g_UP ?g_DOWN ?z_all ?z_bool ?z_enumerate ?z_int ?z_isinstance ?z_len ?z_min ?z_range ?z_str ?z_zip ?gc0 ?gc1 ?gc2 ?gc3 ?gc4 ?gc5 ?gc6 ?gc7 ?gH ?hHb ?hHd ?hHt ?on ?ot ?x6 ?k6 ?b6 ?t6 ?s6 ?eg6 ?ek6 ?ed6 ?ea6 ?em6 ?ve6 ?q6_0 ?q6_1 ?q6_2 ?q6_3 ?q6_4 ?q6_5 ?q6_6 ?q6_7
    (case a => k_is); (case l1 => k_is); (case c => k_is); (case k => k_is)
    case d_heights =>
      refine' Hr.def_mk KX G (fun _ _ _ _ _ _ us hl => match us, hl with | [_], _ => rfl) ?a ?l ?c ?k
      (case a => k_is); (case l => k_is); (case c => k_is); (case k => k_is)
    case d_is_row =>
      refine' Hr.def_mk KX G (fun _ _ _ _ _ _ us hl => match us, hl with | [_], _ => rfl) ?a ?l ?c ?k
      (case a => k_is); (case l => k_is); (case c => k_is); (case k => k_is)
    case d_stays =>
      refine' Hr.def_mk KX G (fun _ _ _ _ _ _ us hl => match us, hl with | [_], _ => rfl) ?a ?l ?c ?k
      (case a => k_is); (case l => k_is); (case c => k_is); (case k => k_is)
    case d_law_mixed =>
      refine' Hr.def_mk KX G (fun _ _ _ _ _ _ us hl => match us, hl with | [_, _], _ => rfl) ?a ?l ?c ?k
      (case a => k_is); (case l => k_is); (case c => k_is); (case k => k_is)
    case d_law_number =>
      refine' Hr.def_mk KX G (fun _ _ _ _ _ _ us hl => match us, hl with | [_, _], _ => rfl) ?a ?l ?c ?k
      (case a => k_is); (case l => k_is); (case c => k_is); (case k => k_is)
    case d_law_word =>
      refine' Hr.def_mk KX G (fun _ _ _ _ _ _ us hl => match us, hl with | [_], _ => rfl) ?a ?l ?c ?k
      (case a => k_is); (case l => k_is); (case c => k_is); (case k => k_is)
    case d_law_told =>
      refine' Hr.def_mk KX G (fun _ _ _ _ _ _ us hl => match us, hl with | [_], _ => rfl) ?a ?l ?c ?k
      (case a => k_is); (case l => k_is); (case c => k_is); (case k => k_is)
    case d_law_stays =>
      refine' Hr.def_mk KX G (fun _ _ _ _ _ _ us hl => match us, hl with | [_], _ => rfl) ?a ?l ?c ?k
      (case a => k_is); (case l => k_is); (case c => k_is); (case k => k_is)
    (case g_UP => k_is)
    (case g_DOWN => k_is)
    (case z_all => k_is)
    (case z_bool => k_is)
    (case z_enumerate => k_is)
    (case z_int => k_is)
    (case z_isinstance => k_is)
    (case z_len => k_is)
    (case z_min => k_is)
    (case z_range => k_is)
    (case z_str => k_is)
    (case z_zip => k_is)
    (case gc0 => k_is)
    (case gc1 => k_is)
    (case gc2 => k_is)
    (case gc3 => k_is)
    (case gc4 => k_is)
    (case gc5 => k_is)
    (case gc6 => k_is)
    (case gc7 => k_is)
    (case gH => k_is)
    (case hHb => k_is)
    (case hHd => k_is)
    (case hHt => k_is)
    (case on => k_is)
    (case ot => k_is)
    (case x6 => k_exc)
    (case k6 => k_is)
    (case b6 => k_is)
    (case t6 => k_is)
    (case s6 => k_is)
    (case eg6 => k_is)
    (case ek6 => k_is)
    (case ed6 => k_is)
    (case ea6 => k_is)
    (case em6 => k_is)
    (case ve6 => kit_is)
    (case q6_0 => kit_is)
    (case q6_1 => kit_is)
    (case q6_2 => kit_is)
    (case q6_3 => kit_is)
    (case q6_4 => kit_is)
    (case q6_5 => kit_is)
    (case q6_6 => kit_is)
    (case q6_7 => kit_is)
