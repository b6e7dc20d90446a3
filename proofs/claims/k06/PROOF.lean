import PyProof.Rows.All
import Wide.All
import OpenK.AllK
import Wide.FinOn
import HandS.ForMost
import HandS.IsInst
import HandS.Defaults
import HandS.Walk
import HandS.Codes
import HandS.RevRange
import HandS.ForExc
import KE.GoesMore
import HandS.ExcIs
import HandS.RaiseMore
import HandS.FStr
import HandS.ExcValue
import KE.RegKIsAll
import PySem.Challenge.RW_hillrows_k06_ranks_refused
set_option Elab.async false
set_option linter.all false
set_option maxRecDepth 100000
namespace Hr
/-- the ways to the ground with k signs from the height h, none above T (for h at most T) -/
def W (T : Nat) : Nat → Nat → Nat
  | 0, h => if h = 0 then 1 else 0
  | k + 1, h => (if h = 0 then 0 else W T k (h - 1)) + (if h < T then W T k (h + 1) else 0)
theorem W_zero (T : Nat) : ∀ k h, k < h → W T k h = 0
  | 0, h, e => by
    unfold W
    rw [if_neg (by omega)]
  | k + 1, h, e => by
    unfold W
    rw [if_neg (show ¬ h = 0 by omega), W_zero T k (h - 1) (by omega), W_zero T k (h + 1) (by omega)]
    split <;> rfl
theorem W_same {T T' : Nat} (hT : T ≤ T') : ∀ k h, h ≤ T → k + h ≤ 2 * T + 1 → W T k h = W T' k h
  | 0, h, _, _ => by simp only [W]
  | k + 1, h, e, l => by
    simp only [W]
    by_cases h0 : h = 0
    · rw [if_pos h0, if_pos h0]
      by_cases hl : h < T
      · rw [if_pos hl, if_pos (show h < T' by omega), W_same hT k (h + 1) (by omega) (by omega)]
      · rw [if_neg hl]
        by_cases hl' : h < T'
        · rw [if_pos hl', W_zero T' k (h + 1) (by omega)]
        · rw [if_neg hl']
    · rw [if_neg h0, if_neg h0, W_same hT k (h - 1) (by omega) (by omega)]
      by_cases hl : h < T
      · rw [if_pos hl, if_pos (show h < T' by omega), W_same hT k (h + 1) (by omega) (by omega)]
      · rw [if_neg hl]
        by_cases hl' : h < T'
        · rw [if_pos hl', W_zero T' k (h + 1) (by omega)]
        · rw [if_neg hl']
/-- one row of the table -/
def rowW (T k : Nat) : List Int := (List.range (T + 1)).map fun h => ((W T k h : Nat) : Int)
theorem rowW_len (T k : Nat) : (rowW T k).length = T + 1 := by
  unfold rowW
  rw [List.length_map, List.length_range]
theorem rowW_get {T k h : Nat} (e : h ≤ T) : (rowW T k)[h]? = some ((W T k h : Nat) : Int) := by
  unfold rowW
  rw [List.getElem?_map, List.getElem?_range (by omega)]
  rfl
theorem rowW_zero (T : Nat) : rowW T 0 = 1 :: List.replicate T 0 := by
  unfold rowW
  apply List.ext_getElem?
  intro i
  rw [List.getElem?_map]
  cases i with
  | zero => rw [List.getElem?_range (by omega)]; rfl
  | succ i =>
    rw [List.getElem?_cons_succ]
    by_cases h : i < T
    · rw [List.getElem?_range (by omega), List.getElem?_replicate, if_pos h]
      rfl
    · rw [List.getElem?_eq_none (by rw [List.length_range]; omega), List.getElem?_replicate, if_neg h]
      rfl
/-- the padded row -/
def padW (l : List Int) : List Int := 0 :: (l ++ [0])
theorem pad_lo {T k h : Nat} (e : h ≤ T) : (padW (rowW T k))[h]? = some (((if h = 0 then 0 else W T k (h - 1) : Nat)) : Int) := by
  unfold padW
  cases h with
  | zero => rfl
  | succ h =>
    rw [List.getElem?_cons_succ, List.getElem?_append_left (by rw [rowW_len]; omega), rowW_get (by omega)]
    rfl
theorem pad_hi {T k h : Nat} (e : h ≤ T) : (padW (rowW T k))[h + 2]? = some (((if h < T then W T k (h + 1) else 0 : Nat)) : Int) := by
  unfold padW
  rw [List.getElem?_cons_succ]
  by_cases hl : h < T
  · rw [List.getElem?_append_left (by rw [rowW_len]; omega), rowW_get (by omega), if_pos hl]
  · have e : h = T := by omega
    subst e
    rw [List.getElem?_append_right (by rw [rowW_len]; omega), rowW_len, Nat.sub_self, if_neg hl]
    rfl
theorem row_step {T k h : Nat} (e : h ≤ T) : ∃ a b : Int, (padW (rowW T k))[h]? = some a ∧ (padW (rowW T k))[h + 2]? = some b ∧ (rowW T (k + 1))[h]? = some (a + b) := by
  refine ⟨_, _, pad_lo e, pad_hi e, ?_⟩
  rw [rowW_get e]
  simp only [W]
  rw [Int.natCast_add]
theorem W_le (T : Nat) : ∀ k h, W T k h ≤ 2 ^ k
  | 0, h => by
    unfold W
    split <;> decide
  | k + 1, h => by
    have a := W_le T k (h - 1)
    have b := W_le T k (h + 1)
    unfold W
    rw [Nat.pow_succ]
    split <;> split <;> omega

/-! ### hill rows by growing beginnings -/
section
variable {α : Type} (d u : α → α)
/-- the ceiling: none or some k -/
def under : Option Nat → Nat → Bool
  | none, _ => true
  | some c, h => decide (h < c)
def low (h : Nat) : Option Nat → Nat
  | none => h
  | some c => min h c
def grow1 (c : Option Nat) (p : α × Nat) : List (α × Nat) :=
  (if 0 < p.2 then [(d p.1, p.2 - 1)] else []) ++ (if under c p.2 = true then [(u p.1, p.2 + 1)] else [])
def growAll (c : Option Nat) (l : List (α × Nat)) : List (α × Nat) := l.flatMap (grow1 d u c)
def grown (c : Option Nat) (a : α) : Nat → List (α × Nat)
  | 0 => [(a, 0)]
  | k + 1 => growAll d u c (grown c a k)
def cnt (h : Nat) (l : List (α × Nat)) : Nat := (l.filter fun p => p.2 == h).length
theorem cnt_nil (h : Nat) : cnt h ([] : List (α × Nat)) = 0 := rfl
theorem cnt_append (h : Nat) (l r : List (α × Nat)) : cnt h (l ++ r) = cnt h l + cnt h r := by
  unfold cnt
  rw [List.filter_append, List.length_append]
theorem cnt_one (h : Nat) (a : α) (k : Nat) : cnt h [(a, k)] = if k = h then 1 else 0 := by
  unfold cnt
  by_cases e : k = h
  · rw [if_pos e, List.filter_cons_of_pos (by simp [e])]
    rfl
  · rw [if_neg e, List.filter_cons_of_neg (by simp [e])]
    rfl
theorem cnt_cons (h : Nat) (p : α × Nat) (l : List (α × Nat)) : cnt h (p :: l) = (if p.2 = h then 1 else 0) + cnt h l := by
  rw [← List.singleton_append, cnt_append, show cnt h [p] = if p.2 = h then 1 else 0 from cnt_one h p.1 p.2]
theorem cnt_grow1 (c : Option Nat) (h : Nat) (p : α × Nat) : cnt h (grow1 d u c p) = (if p.2 = h + 1 then 1 else 0) + (if 0 < h ∧ under c (h - 1) = true ∧ p.2 = h - 1 then 1 else 0) := by
  unfold grow1
  rw [cnt_append]
  congr 1
  · by_cases e : 0 < p.2
    · rw [if_pos e, cnt_one]
      by_cases e2 : p.2 = h + 1
      · rw [if_pos e2, if_pos (by omega)]
      · rw [if_neg e2, if_neg (by omega)]
    · rw [if_neg e, cnt_nil, if_neg (by omega)]
  · by_cases e : under c p.2 = true
    · rw [if_pos e, cnt_one]
      by_cases e2 : p.2 + 1 = h
      · have : h - 1 = p.2 := by omega
        rw [if_pos e2, if_pos ⟨by omega, by rw [this]; exact e, by omega⟩]
      · rw [if_neg e2, if_neg (by omega)]
    · rw [if_neg e, cnt_nil]
      by_cases e2 : 0 < h ∧ under c (h - 1) = true ∧ p.2 = h - 1
      · rw [← e2.2.2] at e2
        exact absurd e2.2.1 e
      · rw [if_neg e2]
theorem cnt_growAll (c : Option Nat) (h : Nat) : ∀ l : List (α × Nat), cnt h (growAll d u c l) = cnt (h + 1) l + (if 0 < h ∧ under c (h - 1) = true then cnt (h - 1) l else 0)
  | [] => by
    show 0 = 0 + (if _ then 0 else 0)
    split <;> rfl
  | p :: l => by
    have e : growAll d u c (p :: l) = grow1 d u c p ++ growAll d u c l := rfl
    rw [e, cnt_append, cnt_grow1, cnt_growAll c h l, cnt_cons, cnt_cons]
    by_cases e1 : 0 < h ∧ under c (h - 1) = true
    · rw [if_pos e1, if_pos e1]
      by_cases e2 : p.2 = h - 1
      · rw [if_pos (show 0 < h ∧ under c (h - 1) = true ∧ p.2 = h - 1 from ⟨e1.1, e1.2, e2⟩), if_pos e2]
        omega
      · rw [if_neg (show ¬ (0 < h ∧ under c (h - 1) = true ∧ p.2 = h - 1) from fun z => e2 z.2.2), if_neg e2]
        omega
    · rw [if_neg e1, if_neg e1, if_neg (show ¬ (0 < h ∧ under c (h - 1) = true ∧ p.2 = h - 1) from fun z => e1 ⟨z.1, z.2.1⟩)]
      omega
/-- no row grown in k signs is higher than k -/
theorem cnt_grown (c : Option Nat) (a : α) (T : Nat) (hT : ∀ k, c = some k → T = k) : ∀ k h, (c = none → k + h ≤ 2 * T + 1) → h ≤ T → cnt h (grown d u c a k) = W T k h
  | 0, h, _, _ => by
    show cnt h [(a, 0)] = _
    rw [cnt_one]
    unfold W
    by_cases e : h = 0
    · rw [if_pos e, if_pos e.symm]
    · rw [if_neg e, if_neg (fun z => e z.symm)]
  | k + 1, h, hc, hl => by
    show cnt h (growAll d u c (grown d u c a k)) = _
    rw [cnt_growAll]
    simp only [W]
    rw [Nat.add_comm]
    congr 1
    · by_cases e0 : h = 0
      · rw [if_pos e0, if_neg (by omega)]
      · rw [if_neg e0]
        have hu : under c (h - 1) = true := by
          cases c with
          | none => rfl
          | some k =>
            have := hT k rfl
            unfold under
            exact decide_eq_true (by omega)
        rw [if_pos ⟨by omega, hu⟩, cnt_grown c a T hT k (h - 1) (fun z => by have := hc z; omega) (by omega)]
    · by_cases e : h < T
      · rw [if_pos e, cnt_grown c a T hT k (h + 1) (fun z => by have := hc z; omega) (by omega)]
      · rw [if_neg e]
        cases c with
        | none =>
          have z := hc rfl
          exact cnt_zero_len none a k (h + 1) (by omega)
        | some j =>
          have e3 := hT j rfl
          exact cnt_zero_top2 j a k (h + 1) (by omega)
where
  cnt_zero_len (c : Option Nat) (a : α) : ∀ k h, k < h → cnt h (grown d u c a k) = 0
    | 0, h, e => by
      show cnt h [(a, 0)] = 0
      rw [cnt_one, if_neg (by omega)]
    | k + 1, h, e => by
      show cnt h (growAll d u c (grown d u c a k)) = 0
      rw [cnt_growAll, cnt_zero_len c a k (h + 1) (by omega), cnt_zero_len c a k (h - 1) (by omega)]
      split <;> rfl
  cnt_zero_top2 (j : Nat) (a : α) : ∀ k h, j < h → cnt h (grown d u (some j) a k) = 0
    | 0, h, e => by
      show cnt h [(a, 0)] = 0
      rw [cnt_one, if_neg (by omega)]
    | k + 1, h, e => by
      show cnt h (growAll d u (some j) (grown d u (some j) a k)) = 0
      rw [cnt_growAll, cnt_zero_top2 j a k (h + 1) (by omega), if_neg (fun z => ?_)]
      have := z.2
      unfold under at this
      have := of_decide_eq_true this
      omega
theorem grown_len (c : Option Nat) (a : α) : ∀ k, (grown d u c a k).length ≤ 2 ^ k
  | 0 => Nat.le_refl 1
  | k + 1 => by
    have ih := grown_len c a k
    have g : ∀ l : List (α × Nat), (growAll d u c l).length ≤ 2 * l.length := by
      intro l
      induction l with
      | nil => exact Nat.le_refl _
      | cons p l il =>
        have e : growAll d u c (p :: l) = grow1 d u c p ++ growAll d u c l := rfl
        rw [e, List.length_append, List.length_cons]
        have : (grow1 d u c p).length ≤ 2 := by
          unfold grow1
          rw [List.length_append]
          split <;> split <;> simp
        omega
    have := g (grown d u c a k)
    show (growAll d u c (grown d u c a k)).length ≤ _
    rw [Nat.pow_succ]
    omega
/-- as many as the table counts -/
theorem counted_ok (c : Option Nat) (a : α) (n : Nat) : cnt 0 (grown d u c a (2 * n)) = W (low n c) (2 * n) 0 := by
  cases c with
  | none => exact cnt_grown d u none a n (fun _ z => nomatch z) _ _ (fun _ => by omega) (Nat.zero_le _)
  | some j =>
    rw [cnt_grown d u (some j) a j (fun k z => by cases z; rfl) _ _ (fun z => nomatch z) (Nat.zero_le _)]
    show W j (2 * n) 0 = W (min n j) (2 * n) 0
    by_cases h : j ≤ n
    · rw [Nat.min_eq_right h]
    · rw [Nat.min_eq_left (by omega)]
      exact (W_same (by omega) _ _ (Nat.zero_le _) (by omega)).symm
end
end Hr
namespace Hr
/-! ### rows as lists of signs: true is up -/
/-- all rows of k signs from the height h to the ground, none above T, in order -/
def rws (T : Nat) : Nat → Nat → List (List Bool)
  | 0, h => if h = 0 then [[]] else []
  | k + 1, h => (if h = 0 then [] else (rws T k (h - 1)).map (false :: ·)) ++ (if h < T then (rws T k (h + 1)).map (true :: ·) else [])
theorem rws_len (T : Nat) : ∀ k h, (rws T k h).length = W T k h
  | 0, h => by
    unfold rws W
    split <;> rfl
  | k + 1, h => by
    unfold rws W
    rw [List.length_append]
    congr 1
    · split
      · rfl
      · rw [List.length_map, rws_len T k (h - 1)]
    · split
      · rw [List.length_map, rws_len T k (h + 1)]
      · rfl
/-- the row of a rank -/
def unrank (T : Nat) : Nat → Nat → Nat → List Bool
  | 0, _, _ => []
  | k + 1, h, r => if r < (if h = 0 then 0 else W T k (h - 1)) then false :: unrank T k (h - 1) r else true :: unrank T k (h + 1) (r - (if h = 0 then 0 else W T k (h - 1)))
/-- the ways down -/
def dn (T k h : Nat) : Nat := if h = 0 then 0 else W T k (h - 1)
theorem unrank_succ (T k h r : Nat) : unrank T (k + 1) h r = if r < dn T k h then false :: unrank T k (h - 1) r else true :: unrank T k (h + 1) (r - dn T k h) := rfl
theorem W_succ (T k h : Nat) : W T (k + 1) h = dn T k h + (if h < T then W T k (h + 1) else 0) := rfl
/-- the rank of a row that goes on from h -/
def rankOf (T : Nat) : Nat → List Bool → Nat
  | _, [] => 0
  | h, true :: l => dn T l.length h + rankOf T (h + 1) l
  | h, false :: l => rankOf T (h - 1) l
/-- a row from h to the ground under the ceiling -/
def okb (c : Option Nat) : Nat → List Bool → Bool
  | h, [] => h == 0
  | h, true :: l => under c h && okb c (h + 1) l
  | h, false :: l => (h != 0) && okb c (h - 1) l
theorem okb_up {c : Option Nat} {h : Nat} {l : List Bool} (e : okb c h (true :: l) = true) : under c h = true ∧ okb c (h + 1) l = true := by
  unfold okb at e
  exact Bool.and_eq_true_iff.mp e
theorem okb_down {c : Option Nat} {h : Nat} {l : List Bool} (e : okb c h (false :: l) = true) : h ≠ 0 ∧ okb c (h - 1) l = true := by
  unfold okb at e
  obtain ⟨a, b⟩ := Bool.and_eq_true_iff.mp e
  exact ⟨by simpa using a, b⟩
theorem okb_len {c : Option Nat} : ∀ {l : List Bool} {h : Nat}, okb c h l = true → h ≤ l.length
  | [], h, e => by
    have : h = 0 := by simpa [okb] using e
    omega
  | true :: l, h, e => by
    have := okb_len (okb_up e).2
    rw [List.length_cons]
    omega
  | false :: l, h, e => by
    have := okb_len (okb_down e).2
    rw [List.length_cons]
    omega
theorem rank_lt {T : Nat} : ∀ {l : List Bool} {h : Nat}, okb (some T) h l = true → rankOf T h l < W T l.length h
  | [], h, e => by
    have e0 : h = 0 := by simpa [okb] using e
    rw [e0]
    exact Nat.zero_lt_one
  | true :: l, h, e => by
    obtain ⟨a, b⟩ := okb_up e
    have ih := rank_lt b
    have a' : h < T := of_decide_eq_true a
    rw [List.length_cons, W_succ, if_pos a']
    show dn T l.length h + rankOf T (h + 1) l < _
    omega
  | false :: l, h, e => by
    obtain ⟨a, b⟩ := okb_down e
    have ih := rank_lt b
    rw [List.length_cons, W_succ]
    show rankOf T (h - 1) l < _
    unfold dn
    rw [if_neg a]
    omega
theorem unrank_rank {T : Nat} : ∀ {l : List Bool} {h : Nat}, okb (some T) h l = true → unrank T l.length h (rankOf T h l) = l
  | [], h, e => rfl
  | true :: l, h, e => by
    obtain ⟨a, b⟩ := okb_up e
    rw [List.length_cons, unrank_succ]
    show (if dn T l.length h + rankOf T (h + 1) l < dn T l.length h then _ else true :: unrank T l.length (h + 1) (dn T l.length h + rankOf T (h + 1) l - dn T l.length h)) = _
    rw [if_neg (by omega), Nat.add_sub_cancel_left, unrank_rank b]
  | false :: l, h, e => by
    obtain ⟨a, b⟩ := okb_down e
    have := rank_lt b
    rw [List.length_cons, unrank_succ]
    show (if rankOf T (h - 1) l < dn T l.length h then false :: unrank T l.length (h - 1) (rankOf T (h - 1) l) else _) = _
    rw [if_pos (by unfold dn; rw [if_neg a]; exact this), unrank_rank b]
theorem unrank_ok {T : Nat} : ∀ {k h r : Nat}, r < W T k h → okb (some T) h (unrank T k h r) = true ∧ (unrank T k h r).length = k ∧ rankOf T h (unrank T k h r) = r
  | 0, h, r, e => by
    unfold W at e
    by_cases h0 : h = 0
    · rw [if_pos h0] at e
      refine ⟨?_, rfl, ?_⟩
      · rw [h0]
        rfl
      · show 0 = r
        omega
    · rw [if_neg h0] at e
      omega
  | k + 1, h, r, e => by
    rw [unrank_succ]
    rw [W_succ] at e
    by_cases hr : r < dn T k h
    · rw [if_pos hr]
      have h0 : h ≠ 0 := fun z => by
        unfold dn at hr
        rw [if_pos z] at hr
        omega
      have hr' : r < W T k (h - 1) := by
        unfold dn at hr
        rw [if_neg h0] at hr
        exact hr
      obtain ⟨a, b, c⟩ := unrank_ok hr'
      refine ⟨?_, by rw [List.length_cons, b], c⟩
      unfold okb
      rw [a, Bool.and_true]
      simpa using h0
    · rw [if_neg hr]
      by_cases hT : h < T
      · rw [if_pos hT] at e
        obtain ⟨a, b, c⟩ := unrank_ok (T := T) (k := k) (h := h + 1) (r := r - dn T k h) (by omega)
        refine ⟨?_, by rw [List.length_cons, b], ?_⟩
        · unfold okb
          rw [a, Bool.and_true]
          exact decide_eq_true hT
        · show dn T _ h + rankOf T (h + 1) _ = r
          rw [b, c]
          omega
      · rw [if_neg hT] at e
        omega
theorem unrank_get {T : Nat} : ∀ {k h r : Nat}, r < W T k h → (rws T k h)[r]? = some (unrank T k h r)
  | 0, h, r, e => by
    unfold W at e
    by_cases h0 : h = 0
    · rw [if_pos h0] at e
      have : r = 0 := by omega
      rw [this, h0]
      rfl
    · rw [if_neg h0] at e
      omega
  | k + 1, h, r, e => by
    rw [unrank_succ]
    rw [W_succ] at e
    unfold rws
    have hl : (if h = 0 then [] else (rws T k (h - 1)).map (false :: ·)).length = dn T k h := by
      unfold dn
      split
      · rfl
      · rw [List.length_map, rws_len]
    by_cases hr : r < dn T k h
    · rw [if_pos hr, List.getElem?_append_left (by rw [hl]; exact hr)]
      have h0 : h ≠ 0 := fun z => by
        unfold dn at hr
        rw [if_pos z] at hr
        omega
      have hr' : r < W T k (h - 1) := by
        unfold dn at hr
        rw [if_neg h0] at hr
        exact hr
      rw [if_neg h0, List.getElem?_map, unrank_get hr']
      rfl
    · rw [if_neg hr, List.getElem?_append_right (by rw [hl]; omega), hl]
      by_cases hT : h < T
      · rw [if_pos hT] at e ⊢
        rw [List.getElem?_map, unrank_get (T := T) (k := k) (h := h + 1) (r := r - dn T k h) (by omega)]
        rfl
      · rw [if_neg hT] at e
        omega
/-- a hill row of n ups is not higher than n -/
theorem okb_low {c : Option Nat} {n : Nat} : ∀ {l : List Bool} {h : Nat}, h + l.length ≤ 2 * n → okb c h l = true → okb (some (low n c)) h l = true
  | [], h, _, e => e
  | true :: l, h, hn, e => by
    obtain ⟨a, b⟩ := okb_up e
    rw [List.length_cons] at hn
    have := okb_len b
    unfold okb
    rw [okb_low (by omega) b, Bool.and_true]
    refine decide_eq_true ?_
    cases c with
    | none => show h < n; omega
    | some k =>
      have a' : h < k := of_decide_eq_true a
      show h < min n k
      omega
  | false :: l, h, hn, e => by
    obtain ⟨a, b⟩ := okb_down e
    rw [List.length_cons] at hn
    unfold okb
    rw [okb_low (by omega) b, Bool.and_true]
    simpa using a
theorem okb_up_of {c : Option Nat} {n : Nat} : ∀ {l : List Bool} {h : Nat}, okb (some (low n c)) h l = true → okb c h l = true
  | [], h, e => e
  | true :: l, h, e => by
    obtain ⟨a, b⟩ := okb_up e
    unfold okb
    rw [okb_up_of b, Bool.and_true]
    have a' : h < low n c := of_decide_eq_true a
    cases c with
    | none => rfl
    | some k =>
      have a' : h < min n k := a'
      exact decide_eq_true (by omega)
  | false :: l, h, e => by
    obtain ⟨a, b⟩ := okb_down e
    unfold okb
    rw [okb_up_of b, Bool.and_true]
    simpa using a
/-- how many ups -/
theorem okb_ups {c : Option Nat} : ∀ {l : List Bool} {h : Nat}, okb c h l = true → h + 2 * (l.filter id).length = l.length
  | [], h, e => by
    have e0 : h = 0 := by simpa [okb] using e
    rw [e0]
    rfl
  | true :: l, h, e => by
    have := okb_ups (okb_up e).2
    rw [List.length_cons, List.filter_cons_of_pos rfl, List.length_cons]
    omega
  | false :: l, h, e => by
    obtain ⟨a, b⟩ := okb_down e
    have := okb_ups b
    rw [List.length_cons, List.filter_cons_of_neg (by simp)]
    omega
theorem okb_even {c : Option Nat} {l : List Bool} (e : okb c 0 l = true) : l.length = 2 * (l.length / 2) := by
  have := okb_ups e
  omega
/-! ### heights -/
def sg (b : Bool) : Int := if b = true then 1 else -1
def hts : Int → List Bool → List Int
  | h, [] => [h]
  | h, b :: l => h :: hts (h + sg b) l
theorem hts_len : ∀ (l : List Bool) (h : Int), (hts h l).length = l.length + 1
  | [], _ => rfl
  | b :: l, h => by
    show (hts (h + sg b) l).length + 1 = _
    rw [hts_len l]
    rfl
theorem hts_ne (h : Int) (l : List Bool) : hts h l ≠ [] := by
  cases l <;> exact List.cons_ne_nil _ _
theorem hts_append : ∀ (l r : List Bool) (h : Int), hts h (l ++ r) = (hts h l).dropLast ++ hts (h + (l.map sg).sum) r
  | [], r, h => by
    show hts h r = [] ++ hts (h + 0) r
    rw [Int.add_zero]
    rfl
  | b :: l, r, h => by
    show h :: hts (h + sg b) (l ++ r) = (h :: hts (h + sg b) l).dropLast ++ _
    rw [hts_append l r, List.dropLast_cons_of_ne_nil (hts_ne _ _), List.map_cons, List.sum_cons, ← Int.add_assoc]
    rfl
theorem hts_snoc (l : List Bool) (b : Bool) (h : Int) : hts h (l ++ [b]) = hts h l ++ [h + (l.map sg).sum + sg b] := by
  have last : ∀ (l : List Bool) (h : Int), hts h l = (hts h l).dropLast ++ [h + (l.map sg).sum] := by
    intro l h
    have := hts_append l [] h
    rw [List.append_nil] at this
    exact this
  rw [hts_append, last l h]
  rw [List.dropLast_concat, List.append_assoc]
  rfl
theorem hts_last (l : List Bool) (h : Int) : (hts h l) = (hts h l).dropLast ++ [h + (l.map sg).sum] := by
  have := hts_append l [] h
  rw [List.append_nil] at this
  exact this
/-- a hill row by its heights -/
theorem okb_iff (c : Option Nat) : ∀ (l : List Bool) (h : Nat), (∀ k, c = some k → h ≤ k) → (okb c h l = true ↔ ((h : Int) + (l.map sg).sum = 0 ∧ (∀ x ∈ hts h l, 0 ≤ x) ∧ ∀ k, c = some k → ∀ x ∈ hts h l, x ≤ (k : Int)))
  | [], h, hc => by
    show ((h == 0) = true) ↔ _
    constructor
    · intro e
      have e0 : h = 0 := by simpa using e
      subst e0
      refine ⟨rfl, fun x hx => ?_, fun k hk x hx => ?_⟩
      · have := List.mem_singleton.mp hx
        omega
      · have := List.mem_singleton.mp hx
        omega
    · rintro ⟨e, _, _⟩
      have : (h : Int) + 0 = 0 := e
      have : h = 0 := by omega
      simp [this]
  | true :: l, h, hc => by
    have e1 : hts (h : Int) (true :: l) = (h : Int) :: hts ((h + 1 : Nat) : Int) l := rfl
    have e2 : ((true :: l).map sg).sum = 1 + (l.map sg).sum := by
      rw [List.map_cons, List.sum_cons]
      rfl
    rw [e1, e2]
    constructor
    · intro e
      obtain ⟨a, b⟩ := okb_up e
      have hc' : ∀ k, c = some k → h + 1 ≤ k := fun k hk => by
        rw [hk] at a
        exact of_decide_eq_true a
      obtain ⟨i1, i2, i3⟩ := (okb_iff c l (h + 1) hc').mp b
      refine ⟨by omega, fun x hx => ?_, fun k hk x hx => ?_⟩
      · rcases List.mem_cons.mp hx with z | z
        · omega
        · exact i2 x z
      · rcases List.mem_cons.mp hx with z | z
        · have := hc k hk
          omega
        · exact i3 k hk x z
    · rintro ⟨a, b, d⟩
      have hmem : ((h + 1 : Nat) : Int) ∈ hts ((h + 1 : Nat) : Int) l := by
        cases l <;> exact List.mem_cons_self ..
      have hc' : ∀ k, c = some k → h + 1 ≤ k := fun k hk => by
        have := d k hk _ (List.mem_cons_of_mem _ hmem)
        omega
      have := (okb_iff c l (h + 1) hc').mpr ⟨by omega, fun x hx => b x (List.mem_cons_of_mem _ hx), fun k hk x hx => d k hk x (List.mem_cons_of_mem _ hx)⟩
      unfold okb
      rw [this, Bool.and_true]
      cases c with
      | none => rfl
      | some k =>
        have := hc' k rfl
        exact decide_eq_true (by omega)
  | false :: l, h, hc => by
    have e2 : ((false :: l).map sg).sum = -1 + (l.map sg).sum := by
      rw [List.map_cons, List.sum_cons]
      rfl
    by_cases h0 : h = 0
    · subst h0
      have e1 : hts ((0 : Nat) : Int) (false :: l) = 0 :: hts (-1) l := rfl
      constructor
      · intro e
        exact absurd rfl (okb_down e).1
      · rintro ⟨a, b, d⟩
        have hmem : (-1 : Int) ∈ hts (-1) l := by
          cases l <;> exact List.mem_cons_self ..
        rw [e1] at b
        have := b _ (List.mem_cons_of_mem _ hmem)
        omega
    · have e1 : hts (h : Int) (false :: l) = (h : Int) :: hts ((h - 1 : Nat) : Int) l := by
        show (h : Int) :: hts ((h : Int) + -1) l = _
        rw [show (h : Int) + -1 = ((h - 1 : Nat) : Int) by omega]
      rw [e1, e2]
      have hc' : ∀ k, c = some k → h - 1 ≤ k := fun k hk => by
        have := hc k hk
        omega
      constructor
      · intro e
        obtain ⟨a, b⟩ := okb_down e
        obtain ⟨i1, i2, i3⟩ := (okb_iff c l (h - 1) hc').mp b
        refine ⟨by omega, fun x hx => ?_, fun k hk x hx => ?_⟩
        · rcases List.mem_cons.mp hx with z | z
          · omega
          · exact i2 x z
        · rcases List.mem_cons.mp hx with z | z
          · have := hc k hk
            omega
          · exact i3 k hk x z
      · rintro ⟨a, b, d⟩
        have := (okb_iff c l (h - 1) hc').mpr ⟨by omega, fun x hx => b x (List.mem_cons_of_mem _ hx), fun k hk x hx => d k hk x (List.mem_cons_of_mem _ hx)⟩
        unfold okb
        rw [this, Bool.and_true]
        simpa using h0
end Hr
namespace Hr
/-- a hill row of n ups under the ceiling c -/
def Hill (c : Option Nat) (n : Nat) (l : List Bool) : Prop := okb c 0 l = true ∧ l.length = 2 * n
end Hr
/-! ### defs of the text, by what they promise -/
namespace Hr
open PySem PySem.Spec PyProof.Rows L2
theorem same_upd {H : Hp} {p : Addr} {o : HO} (h : H p = none) : Same H (upd H p o) := fun b x e => by
  rw [upd_ne (ne_of_none e h)]
  exact e
/-- what was new may change -/
theorem same_updN {H0 H : Hp} {p : Addr} {o : HO} (s : Same H0 H) (n : H0 p = none) : Same H0 (upd H p o) := fun b x e => by
  rw [upd_ne (ne_of_none e n)]
  exact s b x e
theorem sz {n : Nat} (h : n ≤ 1000000) : n ≤ sizeLine := Nat.le_trans h (by decide)
theorem szl {n : Nat} (h : n < 1000000) : n < sizeLine := Nat.lt_of_lt_of_le h (by decide)
section
variable (K : PySem.W.Frag) (mg : Str → Option Value)
structure Def (x : Str) (st : Stmt) (ps : List Str) : Prop where
  ex : ∃ (f : Addr) (fd : FuncData), Fun K x x st f fd ∧ mg x = some (.ref f) ∧ Binds K fd ps []
/-- a def whose last parameter is None where it is left out -/
structure DefD (x : Str) (st : Stmt) (ps : List Str) : Prop where
  ex : ∃ (f : Addr) (fd : FuncData), FunD K x x (defArgs st) (defBody st) (defScope st) [V.non] [] f fd ∧ mg x = some (.ref f) ∧ Binds K fd ps [] ∧ ∃ ds, Vals [V.non] ds ∧ Binds K fd ps ds
/-- a def whose last parameter is dv where it is left out -/
structure DefV (x : Str) (st : Stmt) (ps : List Str) (dv : V) : Prop where
  ex : ∃ (f : Addr) (fd : FuncData), FunD K x x (defArgs st) (defBody st) (defScope st) [dv] [] f fd ∧ mg x = some (.ref f) ∧ Binds K fd ps [] ∧ ∃ ds, Vals [dv] ds ∧ Binds K fd ps ds
structure Cal (CX : CXT) (P : Program) (w : World) (base : Heap) (k : Nat) (x : Str) (dvs : List V) (sp : Sp) : Prop where
  ex : ∃ (f : Addr) (fd : FuncData) (ps : List Str) (ds : List Value), FnOk P w K mg base CX k f fd ps sp ∧ mg x = some (.ref f) ∧ PySem.W.keepIn K (.ref f) = true ∧ Binds K fd ps ds ∧ Vals dvs ds
end
section
variable {P : Program} {w : World} {K : PySem.W.Frag} {mg : Str → Option Value} {base : Heap}
theorem Def.cal {x : Str} {st : Stmt} {N ps : List Str} {k : Nat} {sp : Sp} (D : Def K mg x st ps) (S : FnScope N ps (defScope st)) (len : ∀ vs H Q E, sp vs H Q E → vs.length = ps.length)
    (hbody : ∀ (f : Addr) (cdv : Value) (A : Around) (outer : List Env) (s : Shared) (H : Hp) (vs : List V) (Q : VK) (E : XK), Room k (A.deeper (envOfC x (defScope st) s.heap.objs.size f cdv)) → sp vs H Q E →
      ∃ t, PSs (cxOf CX0 P w K mg base N x (defScope st) f cdv A outer s H E).nox (defBody st) t ∧ t { nx := fun _ H' => Q .non H', rt := Q } (start N vs) H) : Cal K mg CX0 P w base (k + 1) x [] sp := by
  obtain ⟨f, fd, F, hm, b⟩ := D.ex
  exact ⟨f, fd, ps, [], F.ok S len (hbody f), hm, F.kp, b, .nil⟩
theorem DefD.ok {x : Str} {st : Stmt} {N ps : List Str} {k : Nat} {sp : Sp} (D : DefD K mg x st ps) (S : FnScope N ps (defScope st)) (len : ∀ vs H Q E, sp vs H Q E → vs.length = ps.length)
    (hbody : ∀ (f : Addr) (cdv : Value) (A : Around) (outer : List Env) (s : Shared) (H : Hp) (vs : List V) (Q : VK) (E : XK), Room k (A.deeper (envOfC x (defScope st) s.heap.objs.size f cdv)) → sp vs H Q E →
      ∃ t, PSs (cxOf CX0 P w K mg base N x (defScope st) f cdv A outer s H E).nox (defBody st) t ∧ t { nx := fun _ H' => Q .non H', rt := Q } (start N vs) H) :
    Cal K mg CX0 P w base (k + 1) x [] sp ∧ Cal K mg CX0 P w base (k + 1) x [.non] sp := by
  obtain ⟨f, fd, F, hm, b, ds, vd, b2⟩ := D.ex
  have G : FnOk P w K mg base CX0 (k + 1) f fd ps sp := F.ok S len fun cdv A outer s H vs Q E hr hsp => by
    obtain ⟨t, h, q⟩ := hbody f cdv A outer s H vs Q E hr hsp
    exact ⟨t, h.nox, q⟩
  exact ⟨⟨f, fd, ps, [], G, hm, F.kp, b, .nil⟩, ⟨f, fd, ps, ds, G, hm, F.kp, b2, vd⟩⟩
theorem DefV.ok {x : Str} {st : Stmt} {N ps : List Str} {dv : V} {k : Nat} {sp : Sp} (D : DefV K mg x st ps dv) (S : FnScope N ps (defScope st)) (len : ∀ vs H Q E, sp vs H Q E → vs.length = ps.length)
    (hbody : ∀ (f : Addr) (cdv : Value) (A : Around) (outer : List Env) (s : Shared) (H : Hp) (vs : List V) (Q : VK) (E : XK), Room k (A.deeper (envOfC x (defScope st) s.heap.objs.size f cdv)) → sp vs H Q E →
      ∃ t, PSs (cxOf CX0 P w K mg base N x (defScope st) f cdv A outer s H E).nox (defBody st) t ∧ t { nx := fun _ H' => Q .non H', rt := Q } (start N vs) H) :
    Cal K mg CX0 P w base (k + 1) x [] sp ∧ Cal K mg CX0 P w base (k + 1) x [dv] sp := by
  obtain ⟨f, fd, F, hm, b, ds, vd, b2⟩ := D.ex
  have G : FnOk P w K mg base CX0 (k + 1) f fd ps sp := F.ok S len fun cdv A outer s H vs Q E hr hsp => by
    obtain ⟨t, h, q⟩ := hbody f cdv A outer s H vs Q E hr hsp
    exact ⟨t, h.nox, q⟩
  exact ⟨⟨f, fd, ps, [], G, hm, F.kp, b, .nil⟩, ⟨f, fd, ps, ds, G, hm, F.kp, b2, vd⟩⟩
/-- a weaker promise -/
theorem Cal.imp {CX : CXT} {x : Str} {dvs : List V} {k : Nat} {sp sp' : Sp} (C : Cal K mg CX P w base k x dvs sp) (h : ∀ vs H Q E, sp' vs H Q E → sp vs H Q E) : Cal K mg CX P w base k x dvs sp' := by
  obtain ⟨f, fd, ps, ds, G, hm, kp, b, d⟩ := C.ex
  exact ⟨f, fd, ps, ds, G.imp h, hm, kp, b, d⟩
end
section
variable {X : Cx}
theorem pe_c {k j : Nat} {x : Str} {dvs : List V} {sp : Sp} {e : Expr} {es : List Expr} {t : TA} {p pos : Pos} (c : Cal X.K X.mg CX0 X.prog X.w X.base k x dvs sp) (hr : Room j X.A) (ha : PA X (e :: es) t) (hk : k ≤ j := by decide) (hg : Gl X x := by rfl)
    (hdb : (x == ("__debug__" : Str)) = false := by decide) (he : starEach (e :: es) X.env = (false, eval e X.env) :: starEach es X.env := by rfl) (hpl : (backTo pos (starEach es X.env)).any (·.1) = false := by rfl) :
    PE X (.Call (.Name x p) (e :: es) [] pos) (tCall sp dvs E0 t) := by
  obtain ⟨f, fd, ps, ds, F, hm, kp, b, d⟩ := c.ex
  exact pe_call F (hr.mono hk) hg hm kp b d pass0 ha hdb he hpl
end
/-- from what the top has left -/
theorem def_mk {K : PySem.W.Frag} {mg : Str → Option Value} {h : Heap} {x : Str} {st : Stmt} {ps : List Str} {f : Addr} {oc : Value} {od an : Option Addr} {osl : Array (Option Value)} {kV doc pm cdv ct : Value} (X : K.In h) (G : h.Ns mainGlobals mg)
    (hb : ∀ (kV doc pm : Value) (an : Option Addr) (cdv ct : Value) (us : List Value), us.length = ps.length → bindArgs (PySem.W.fnOf x x (defArgs st) (defBody st) (defScope st) .none kV doc pm an cdv ct) ⟨us, []⟩ = pure (ps.zip us))
    (a : PySem.W.nsIn K mainGlobals x = some (some (.ref f))) (l : K.lookup f = some ⟨oc, od, .func (PySem.W.fnOf x x (defArgs st) (defBody st) (defScope st) .none kV doc pm an cdv ct), osl⟩)
    (c : PySem.W.codeIn K cdv x = true) (k : PySem.W.keepIn K (.ref f) = true) : Def K mg x st ps :=
  have F := fun_mk (st := st) l c k
  ⟨f, _, F, PySem.W.mg_of X G a, F.binds hb⟩
theorem defD_mk {K : PySem.W.Frag} {mg : Str → Option Value} {h : Heap} {x : Str} {st : Stmt} {ps : List Str} {f T : Addr} {oc tc : Value} {od an td : Option Addr} {osl tsl : Array (Option Value)} {kV doc pm cdv ct : Value} {n m : Nat} (X : K.In h) (G : h.Ns mainGlobals mg)
    (hn : ps.length = m + 1)
    (hb2 : ∀ (T : Addr) (kV doc pm : Value) (an : Option Addr) (cdv ct : Value) (us its : List Value), us.length = m + 1 → its.length = 1 →
      ∃ k, bindArgs (PySem.W.fnOf x x (defArgs st) (defBody st) (defScope st) (.ref T) kV doc pm an cdv ct) ⟨us, []⟩ = seqItems? (.ref T) >>= k ∧ k (some its.toArray) = pure (ps.zip (us ++ its.drop 1)))
    (hb1 : ∀ (T : Addr) (kV doc pm : Value) (an : Option Addr) (cdv ct : Value) (us its : List Value), us.length = m → its.length = 1 →
      ∃ k, bindArgs (PySem.W.fnOf x x (defArgs st) (defBody st) (defScope st) (.ref T) kV doc pm an cdv ct) ⟨us, []⟩ = seqItems? (.ref T) >>= k ∧ k (some its.toArray) = pure (ps.zip (us ++ its.drop 0)))
    (a : PySem.W.nsIn K mainGlobals x = some (some (.ref f))) (l : K.lookup f = some ⟨oc, od, .func (PySem.W.fnOf x x (defArgs st) (defBody st) (defScope st) (.ref T) kV doc pm an cdv ct), osl⟩)
    (c : PySem.W.codeIn K cdv x = true) (k : PySem.W.keepIn K (.ref f) = true) (lT : K.lookup T = some ⟨tc, td, .seq #[.none] n, tsl⟩) : DefD K mg x st ps := by
  have F : FunD K x x (defArgs st) (defBody st) (defScope st) [V.non] [] f (PySem.W.fnOf x x (defArgs st) (defBody st) (defScope st) (.ref T) kV doc pm an cdv ct) :=
    ⟨⟨oc, od, .ref T, kV, doc, pm, an, cdv, ct, osl, rfl, l, c, .inr ⟨List.cons_ne_nil _ _, T, _, [.none], n, rfl, lT, rfl, .cons rfl .nil⟩, .inl rfl⟩, k⟩
  obtain ⟨d2, v2, b2⟩ := F.binds1 (m + 1) 1 (List.cons_ne_nil _ _) (by rw [hn]; rfl) (fun T kV doc pm an cdv ct us its h1 h2 => hb2 T kV doc pm an cdv ct us its h1 h2)
  obtain ⟨d1, v1, b1⟩ := F.binds1 m 0 (List.cons_ne_nil _ _) (by rw [hn]; rfl) (fun T kV doc pm an cdv ct us its h1 h2 => hb1 T kV doc pm an cdv ct us its h1 h2)
  have e2 : d2 = [] := by
    cases v2
    rfl
  subst e2
  exact ⟨f, _, F, PySem.W.mg_of X G a, b2, d1, v1, b1⟩
theorem defV_mk {K : PySem.W.Frag} {mg : Str → Option Value} {h : Heap} {x : Str} {st : Stmt} {ps : List Str} {dv : V} {u : Value} {f T : Addr} {oc tc : Value} {od an td : Option Addr} {osl tsl : Array (Option Value)} {kV doc pm cdv ct : Value} {n m : Nat} (X : K.In h) (G : h.Ns mainGlobals mg)
    (hn : ps.length = m + 1)
    (hb2 : ∀ (T : Addr) (kV doc pm : Value) (an : Option Addr) (cdv ct : Value) (us its : List Value), us.length = m + 1 → its.length = 1 →
      ∃ k, bindArgs (PySem.W.fnOf x x (defArgs st) (defBody st) (defScope st) (.ref T) kV doc pm an cdv ct) ⟨us, []⟩ = seqItems? (.ref T) >>= k ∧ k (some its.toArray) = pure (ps.zip (us ++ its.drop 1)))
    (hb1 : ∀ (T : Addr) (kV doc pm : Value) (an : Option Addr) (cdv ct : Value) (us its : List Value), us.length = m → its.length = 1 →
      ∃ k, bindArgs (PySem.W.fnOf x x (defArgs st) (defBody st) (defScope st) (.ref T) kV doc pm an cdv ct) ⟨us, []⟩ = seqItems? (.ref T) >>= k ∧ k (some its.toArray) = pure (ps.zip (us ++ its.drop 0)))
    (a : PySem.W.nsIn K mainGlobals x = some (some (.ref f))) (l : K.lookup f = some ⟨oc, od, .func (PySem.W.fnOf x x (defArgs st) (defBody st) (defScope st) (.ref T) kV doc pm an cdv ct), osl⟩)
    (c : PySem.W.codeIn K cdv x = true) (k : PySem.W.keepIn K (.ref f) = true) (hu : RelV dv u) (lT : K.lookup T = some ⟨tc, td, .seq #[u] n, tsl⟩) : DefV K mg x st ps dv := by
  have F : FunD K x x (defArgs st) (defBody st) (defScope st) [dv] [] f (PySem.W.fnOf x x (defArgs st) (defBody st) (defScope st) (.ref T) kV doc pm an cdv ct) :=
    ⟨⟨oc, od, .ref T, kV, doc, pm, an, cdv, ct, osl, rfl, l, c, .inr ⟨List.cons_ne_nil _ _, T, _, [u], n, rfl, lT, rfl, .cons hu .nil⟩, .inl rfl⟩, k⟩
  obtain ⟨d2, v2, b2⟩ := F.binds1 (m + 1) 1 (List.cons_ne_nil _ _) (by rw [hn]; rfl) (fun T kV doc pm an cdv ct us its h1 h2 => hb2 T kV doc pm an cdv ct us its h1 h2)
  obtain ⟨d1, v1, b1⟩ := F.binds1 m 0 (List.cons_ne_nil _ _) (by rw [hn]; rfl) (fun T kV doc pm an cdv ct us its h1 h2 => hb1 T kV doc pm an cdv ct us its h1 h2)
  have e2 : d2 = [] := by
    cases v2
    rfl
  subst e2
  exact ⟨f, _, F, PySem.W.mg_of X G a, b2, d1, v1, b1⟩
end Hr
/-! ### the text of this law -/
namespace Hr
open PySem PySem.Spec PyProof.Rows L2
def topS (i : Nat) : Stmt := PySem.Challenge.pw_hillrows_k06_ranks_refused.main.body.getD i (.Pass ⟨0, 0, 0, 0⟩)
abbrev sCounted : Stmt := topS 14
abbrev sWays : Stmt := topS 15
abbrev sHill : Stmt := topS 16
abbrev sTable : Stmt := topS 17
abbrev sStep : Stmt := topS 18
abbrev sLow : Stmt := topS 19
abbrev sIsNum : Stmt := topS 20
abbrev sChNum : Stmt := topS 21
abbrev sChCei : Stmt := topS 22
abbrev sHeights : Stmt := topS 26
abbrev sIsHill : Stmt := topS 27
abbrev sIsRow : Stmt := topS 28
abbrev sChHill : Stmt := topS 29
abbrev sRank : Stmt := topS 31
abbrev sRowAt : Stmt := topS 32
abbrev sSignAt : Stmt := topS 33
abbrev sNext : Stmt := topS 34
abbrev sAhead : Stmt := topS 35
abbrev sBeside : Stmt := topS 36
abbrev sNumOf : Stmt := topS 37
abbrev sOfNum : Stmt := topS 38
abbrev sDown : Stmt := topS 39
abbrev sCount : Stmt := topS 40
abbrev sMixed : Stmt := topS 42
abbrev sNumber : Stmt := topS 43
abbrev sLRow : Stmt := topS 44
abbrev sWord : Stmt := topS 45
abbrev sAsked : Stmt := topS 46
abbrev sIs : Stmt := topS 47
abbrev sLaw : Stmt := topS 48
end Hr
/-! ### errors that are caught and kept -/
namespace Hr
open PySem PySem.Spec PyProof.Rows L2
/-- an exception's object at a: its class, its own dict -/
def ExT (cls : Value) (d : Option Addr) (a : Addr) : HO := .ext fun h => ∃ (oe : Obj) (vs : Array Value), h.get? a = some oe ∧ Zc cls d oe ∧ oe.data = .fields vs
theorem exT_ok {P : Program} {w : World} {H : Hp} {h : Heap} {a : Addr} {cls : Value} {d : Option Addr} {oe : Obj} {vs : Array Value} (e : h.get? a = some oe) (z : Zc cls d oe) (dd : oe.data = .fields vs) : ObjOk P w H h a (ExT cls d a) :=
  ⟨⟨oe, vs, e, z, dd⟩, ⟨oe, e⟩, fun _ _ ⟨o, v, q, r⟩ k => ⟨o, v, k o q, r⟩⟩
/-- the wish of a try whose clause takes every error of its body and keeps it -/
def wKept (K : PySem.W.Frag) (c : Value) (i : Nat) (ts : Addr → TS) (D : Ends) : WX := fun cls d σ H =>
  PySem.W.exmOne K cls c = some true ∧ ∀ a, H a = none →
    ts a ⟨fun σ1 H1 => D.nx (σ1.set i none) (upd H1 a (ExT cls d a)), fun _ _ => False, fun _ _ => False, fun _ _ => False⟩ (σ.set i (some (.ref a))) H
section
variable {X : Cx} {x n : Str} {c : Value} {i : Nat} {body suite : List Stmt} {b₀ : Stmt} {np pos pos' : Pos} {tb : WX → TS} {ts : Addr → TS}
theorem unsuite2 {pins : List (Addr × Obj)} {σ : L2.St} {H : Hp} {s : Shared} {a : Addr} {oe : Obj} (I : Inv (X.suite a ((a, oe) :: (X.pn ++ pins))) [] σ H s) (ok : X.Ok) : Inv X ((a, oe) :: pins) σ H s :=
  ⟨ok, I.os, I.bare, I.base, I.loc, I.cell, I.free, I.freeC, fun p hp => I.pin p (List.mem_append_left _ (by
    rcases List.mem_append.mp hp with z | z
    · exact List.mem_cons_of_mem _ (List.mem_append_left _ z)
    · rcases List.mem_cons.mp z with z | z
      · rw [z]
        exact List.mem_cons_self
      · exact List.mem_cons_of_mem _ (List.mem_append_right _ z))), I.hok, I.len⟩
theorem track {pins : List (Addr × Obj)} {σ : L2.St} {H : Hp} {s : Shared} {a : Addr} {oe : Obj} {vs : Array Value} {cls : Value} {d : Option Addr} (I : Inv X ((a, oe) :: pins) σ H s) (hz : Zc cls d oe) (hd : oe.data = .fields vs) (n0 : X.s_0.heap.get? a = none)
    (np : ∀ p ∈ X.pn ++ pins, p.1 ≠ a) : Inv X pins σ (upd H a (ExT cls d a)) s := by
  obtain ⟨ha, na, nL, nF, _⟩ := I.pin (a, oe) (List.mem_append_right _ List.mem_cons_self)
  have ha : s.heap.get? a = some oe := ha
  have na : H a = none := na
  have nb0 : ∀ b o, X.s_0.heap.get? b = some o → b ≠ a := fun b o e z => by
    rw [z, n0] at e
    cases e
  refine ⟨I.ok, I.os, I.bare, ⟨I.base.keep, I.base.slot, fun b o e n hx => ?_, I.base.there, fun b xs e => ?_, fun b o u e => ?_, fun b ps e => ?_⟩, I.loc, I.cell, ?_, fun y cc e => ?_, fun p hp => ?_, ?_, I.len⟩
  · rw [upd_ne (nb0 b o e)]
    exact I.base.free b o e n hx
  · have q := I.base.tups b xs e
    rw [upd_ne (ne_of_none q na)]
    exact q
  · have q := I.base.frzs b o u e
    rw [upd_ne (ne_of_none q na)]
    exact q
  · obtain ⟨m, q⟩ := I.base.tbls b ps e
    exact ⟨m, by rw [upd_ne (ne_of_none q na)]; exact q⟩
  · rw [upd_ne (Ne.symm nL)]
    exact I.free
  · obtain ⟨v, o, q1, q2⟩ := I.cell y cc e
    have nc : cc ≠ a := fun z => by
      rw [z, ha] at q1
      cases q1
      rw [hd] at q2
      cases q2
    rw [upd_ne nc]
    exact I.freeC y cc e
  · obtain ⟨q1, q2, q3, q4, q5⟩ := I.pin p (by
      rcases List.mem_append.mp hp with z | z
      · exact List.mem_append_left _ z
      · exact List.mem_append_right _ (List.mem_cons_of_mem _ z))
    exact ⟨q1, by rw [upd_ne (np p hp)]; exact q2, q3, q4, q5⟩
  · exact I.hok.laidN (fun _ _ z => z) na (exT_ok ha hz hd)
/-- what is caught is new since the def began -/
theorem caught_new {pins : List (Addr × Obj)} {σ : L2.St} {H : Hp} {g : Shared} {G : Heap} {a : Addr} (J : Inv X pins σ H g)
    (kp : ∀ b o, g.heap.get? b = some o → b ∉ frs X.stack → G.get? b = some o) (out : G.get? a = none) (nf : a ∉ frs X.stack) (hex : X.ex = []) :
    X.s_0.heap.get? a = none ∧ ∀ p ∈ X.pn ++ pins, p.1 ≠ a := by
  have g0 : g.heap.get? a = none := by
    cases e : g.heap.get? a with
    | none => rfl
    | some o => exact absurd ((kp a o e nf).symm.trans out) (fun z => nomatch z)
  refine ⟨?_, fun p hp z => ?_⟩
  · cases e : X.s_0.heap.get? a with
    | none => rfl
    | some o =>
      obtain ⟨u, hu⟩ := J.base.there a o e (hex ▸ fun z => nomatch z)
      exact absurd (hu.symm.trans g0) (fun z => nomatch z)
  · have hp1 := (J.pin p hp).1
    rw [z, g0] at hp1
    exact nomatch hp1
theorem kept_try (hs : X.stack = X.env :: X.outer) (hf : X.env.frame = some X.env.locals)
    (hex : X.ex = []) (hN : X.N.Nodup) (hi : X.N[i]? = some n)
    (hln : X.env.kindOf n = some .local) (hc : Names X x c)
    (inner : ∀ W pn xe, Takes (X.tr pn xe) W → PassesOwn (model X.prog X.w) X.A X.env xe → PSs (X.tr pn xe) body (tb W))
    (clause : ∀ a q, PSs (X.suite a q) (b₀ :: suite) (ts a)) :
    PS X (.Try body [.ExceptHandler (some (.Name x np)) (some n) (b₀ :: suite) pos'] [] [] pos)
      (fun D σ H => tb (wKept X.K c i ts D) D σ H) := by
  constructor
  intro pins s σ H D I h
  have frames : X.A.frames = some (X.env :: X.outer) := by
    rw [← hs]
    exact I.ok.frames
  apply wpAny_Try_except
  refine wpAny_mono ((inner (wKept X.K c i ts D) (X.pn ++ pins) _ ?later PassesOwn.looking).run
    [] s σ H D (I.toTry _) h) ?done fun _ _ z => z
  case later =>
    rintro u t ⟨a, G, g, pq, σ1, H1, cls, d, rfl, J0, kp, up, sky, na, os, ag, hb, go⟩
    have J := J0.ofTry I.ok
    rw [hs] at sky
    refine Sky.land Zc.steady frames hf sky fun h3 f3 u3 => ?_
    obtain ⟨e3, v3, at3, z3, d3⟩ := f3.there
    -- it is none of the frames
    have away : a ∉ frs (X.env :: X.outer) := by
      intro z
      obtain ⟨_, o, ho, no⟩ := f3.2.2.1.mem z
      rw [at3] at ho
      injection ho with ho
      subst ho
      exact no _ d3
    have a1 : a ≠ X.env.locals := fun z =>
      away (List.mem_filterMap.mpr ⟨X.env, .head _, z ▸ hf⟩)
    have a2 : a ∉ X.fs := by
      intro z
      obtain ⟨e, he, q⟩ := List.mem_filterMap.mp z
      exact away (List.mem_filterMap.mpr ⟨e, .tail _ he, q⟩)
    obtain ⟨n0, apart⟩ := caught_new J kp f3.2.1 (hs ▸ away) hex
    have J3 := J.landed (s' := { t with heap := h3 }) kp f3.1 (up.trans u3) os ag
    have S3 := J3.suite at3 d3 na a1 a2
    refine wpAny_handleBy_cons (codeAny_handlers_test ?_) (fun z => nomatch z)
    have ty : PySem.W.Looks (model X.prog X.w) h3 (typeOf (.ref a)) cls := fun _ _ _ _ k q =>
      wpAny_typeOf_ref (k _ _ at3) (z3.1 ▸ q)
    have hit := PySem.W.exm_one J3.kIn ty hb
    have named : ∀ {Q E : Value → Shared → Prop}, Q c { t with heap := h3 } →
        wpAny (model X.prog X.w) (X.A.mark (some (.ref a))) (eval (.Name x np) X.env) Q E { t with heap := h3 } := by
      intro Q E q
      obtain ⟨gl, dbg, mine | ⟨none', boot, other⟩⟩ := hc
      · exact ld_glob S3 gl mine q dbg
      · exact ld_blt S3 gl none' boot q other dbg
    refine named (hit.here (codeAny_handlers_suite_as ?_))
    refine HandSPX.lands_againZ f3 fun h4 f4 u4 => ?_
    obtain ⟨e4, v4, at4, z4, d4⟩ := f4.there
    have J4 := J.landed (s' := { t with heap := h4 }) kp f4.1 ((up.trans u3).trans u4) os ag
    refine store_ok (X := X.suite a ((a, e4) :: (X.pn ++ pins)))
      (J4.suite at4 d4 na a1 a2) (v := .ref a) hN hi (.inl hln) rfl (fun s5 S5 => ?_) (.inr hln)
    have fin := (clause a ((a, e4) :: (X.pn ++ pins))).run [] s5 _ H1 _ S5 (go a na)
    refine wpAny_mono fin (fun fl s6 done => ?_) fun _ _ z => z.elim
    cases fl with
    | next =>
      obtain ⟨σ6, H6, S6, q6⟩ := done
      refine gone_ok (unsuite2 S6 I.ok) hN hi hln fun s7 J7 => ?_
      exact ⟨_, _, track J7 z4 d4 n0 apart, q6⟩
    | brk => exact (let ⟨_, _, _, z⟩ := done; z.elim)
    | cont => exact (let ⟨_, _, _, z⟩ := done; z.elim)
    | ret u => exact (let ⟨_, _, _, _, _, z⟩ := done; z.elim)
  intro fl s1 done
  cases fl with
  | next => exact (let ⟨_, _, J, z⟩ := done; wpAny_execs_nil ⟨_, _, J.ofTry I.ok, z⟩)
  | brk => exact (let ⟨_, _, J, z⟩ := done; ⟨_, _, J.ofTry I.ok, z⟩)
  | cont => exact (let ⟨_, _, J, z⟩ := done; ⟨_, _, J.ofTry I.ok, z⟩)
  | ret u => exact (let ⟨_, _, _, J, r, z⟩ := done; ⟨_, _, _, J.ofTry I.ok, r, z⟩)
/-- isinstance(e, c), e an error that was kept -/
def rIsT (K : PySem.W.Frag) : List V → Hp → VK → Prop := fun xs H Q => ∃ (a D : Addr) (cc : V) (cv : Value) (b : Bool), xs = [.ref a, cc] ∧ H a = some (ExT (.ref D) none a) ∧ ExcC K D ∧ (∀ u, RelV cc u → u = cv) ∧ PySem.W.kitOne K (.ref D) cv = some b ∧ Q (.bl b) H
theorem call_isT : CallR X (.builtin "isinstance") (rIsT X.K) := by
  intro pins s σ H xs us Q I r h
  obtain ⟨a, D, cc, cv, b, rfl, ea, C, hcv, e, q⟩ := h
  cases r with
  | cons rx rr =>
    cases rr with
    | cons rt rr =>
      cases rr
      cases rx
      have ec := hcv _ rt
      subst ec
      obtain ⟨⟨oe, vs, hget, hz, hv⟩, _⟩ := I.hok a _ ea
      have J : PySem.W.InstAt s.heap a oe D none := by
        obtain ⟨oc, od, oda, osl⟩ := oe
        obtain ⟨h1, h2⟩ := hz
        dsimp only at h1 h2 hv
        subst h1 h2 hv
        exact ⟨hget, rfl, rfl, trivial⟩
      exact PySem.W.kia_one (PySem.W.handS_kitx_exc C.hg C.hk C.hs C.hd C.ha C.hn C.ht C.hm) I.kIn J e (fun z => nomatch z) fun tk => ⟨.bl b, H, I.kept (t' := tk) fun _ _ z => z, rfl, q⟩
end
section
variable {X : Cx}
/-- a def that may raise, called where it does not -/
theorem pe_cL {k j : Nat} {x : Str} {dvs : List V} {sp : Sp} {e : Expr} {es : List Expr} {t : TA} {p pos : Pos} (c : Cal X.K X.mg (L2.CX X.prog X.w) X.prog X.w X.base k x dvs sp) (hr : Room j X.A) (ha : PA X (e :: es) t) (hk : k ≤ j := by decide) (hg : Gl X x := by rfl)
    (hdb : (x == ("__debug__" : Str)) = false := by decide) (he : starEach (e :: es) X.env = (false, eval e X.env) :: starEach es X.env := by rfl) (hpl : (backTo pos (starEach es X.env)).any (·.1) = false := by rfl) :
    PE X (.Call (.Name x p) (e :: es) [] pos) (tCall sp dvs E0 t) := by
  obtain ⟨f, fd, ps, ds, F, hm, kp, b, d⟩ := c.ex
  exact pe_call F (hr.mono hk) hg hm kp b d passL ha hdb he hpl
/-- .. in a def that lets it out -/
theorem pe_cX {k j : Nat} {x : Str} {dvs : List V} {sp : Sp} {E : XK} {e : Expr} {es : List Expr} {t : TA} {p pos : Pos} (c : Cal X.K X.mg (L2.CX X.prog X.w) X.prog X.w X.base k x dvs sp) (hr : Room j X.A) (tk : Takes X fun cls d _ H => E cls d H) (ha : PA X (e :: es) t) (hk : k ≤ j := by decide) (hg : Gl X x := by rfl)
    (hdb : (x == ("__debug__" : Str)) = false := by decide) (he : starEach (e :: es) X.env = (false, eval e X.env) :: starEach es X.env := by rfl) (hpl : (backTo pos (starEach es X.env)).any (·.1) = false := by rfl) :
    PE X (.Call (.Name x p) (e :: es) [] pos) (tCall sp dvs E t) := by
  obtain ⟨f, fd, ps, ds, F, hm, kp, b, d⟩ := c.ex
  exact pe_call F (hr.mono hk) hg hm kp b d (passes_call tk fun _ _ _ _ h => h) ha hdb he hpl
/-- .. in a try's body, at the slots -/
def tCallT (sp : Sp) (dvs : List V) (E : L2.St → XK) (t : TA) : TE := fun σ H Q => t σ H fun vs H1 => sp (vs ++ dvs) H1 Q (E σ)
end
end Hr
/-! ### errors of the text, defs that raise them -/
namespace Hr
open PySem PySem.Spec PyProof.Rows L2
/-- the class x of errors at C -/
structure Err (K : PySem.W.Frag) (mg : Str → Option Value) (x : Str) (C : Addr) : Prop where
  g : mg x = some (.ref C)
  x : PySem.W.excIn K C [.type "ValueError", .type "Exception", .type "BaseException", .type "object"] "ValueError.__new__" = true
  k : PySem.W.keepIn K (.ref C) = true
  b : PySem.W.subIn K (.ref C) (.type "BaseException") = some true
  t : PySem.W.typeIn K (.ref C) = some (.type "type")
section
variable {P : Program} {w : World} {K : PySem.W.Frag} {mg : Str → Option Value} {base : Heap}
theorem Def.calX {x : Str} {st : Stmt} {N ps : List Str} {k : Nat} {sp : Sp} (D : Def K mg x st ps) (S : FnScope N ps (defScope st)) (len : ∀ vs H Q E, sp vs H Q E → vs.length = ps.length)
    (hbody : ∀ (f : Addr) (cdv : Value) (A : Around) (outer : List Env) (s : Shared) (H : Hp) (vs : List V) (Q : VK) (E : XK), Room k (A.deeper (envOfC x (defScope st) s.heap.objs.size f cdv)) → sp vs H Q E →
      ∃ t, PSs (cxOf (L2.CX P w) P w K mg base N x (defScope st) f cdv A outer s H E) (defBody st) t ∧ t { nx := fun _ H' => Q .non H', rt := Q } (start N vs) H) : Cal K mg (L2.CX P w) P w base (k + 1) x [] sp := by
  obtain ⟨f, fd, F, hm, b⟩ := D.ex
  exact ⟨f, fd, ps, [], F.okX S len (hbody f), hm, F.kp, b, .nil⟩
theorem DefD.okX {x : Str} {st : Stmt} {N ps : List Str} {k : Nat} {sp : Sp} (D : DefD K mg x st ps) (S : FnScope N ps (defScope st)) (len : ∀ vs H Q E, sp vs H Q E → vs.length = ps.length)
    (hbody : ∀ (f : Addr) (cdv : Value) (A : Around) (outer : List Env) (s : Shared) (H : Hp) (vs : List V) (Q : VK) (E : XK), Room k (A.deeper (envOfC x (defScope st) s.heap.objs.size f cdv)) → sp vs H Q E →
      ∃ t, PSs (cxOf (L2.CX P w) P w K mg base N x (defScope st) f cdv A outer s H E) (defBody st) t ∧ t { nx := fun _ H' => Q .non H', rt := Q } (start N vs) H) :
    Cal K mg (L2.CX P w) P w base (k + 1) x [] sp ∧ Cal K mg (L2.CX P w) P w base (k + 1) x [.non] sp := by
  obtain ⟨f, fd, F, hm, b, ds, vd, b2⟩ := D.ex
  have G : FnOk P w K mg base (L2.CX P w) (k + 1) f fd ps sp := F.ok S len (hbody f)
  exact ⟨⟨f, fd, ps, [], G, hm, F.kp, b, .nil⟩, ⟨f, fd, ps, ds, G, hm, F.kp, b2, vd⟩⟩
theorem DefV.okX {x : Str} {st : Stmt} {N ps : List Str} {k : Nat} {sp : Sp} {dv : V} (D : DefV K mg x st ps dv) (S : FnScope N ps (defScope st)) (len : ∀ vs H Q E, sp vs H Q E → vs.length = ps.length)
    (hbody : ∀ (f : Addr) (cdv : Value) (A : Around) (outer : List Env) (s : Shared) (H : Hp) (vs : List V) (Q : VK) (E : XK), Room k (A.deeper (envOfC x (defScope st) s.heap.objs.size f cdv)) → sp vs H Q E →
      ∃ t, PSs (cxOf (L2.CX P w) P w K mg base N x (defScope st) f cdv A outer s H E) (defBody st) t ∧ t { nx := fun _ H' => Q .non H', rt := Q } (start N vs) H) :
    Cal K mg (L2.CX P w) P w base (k + 1) x [] sp ∧ Cal K mg (L2.CX P w) P w base (k + 1) x [dv] sp := by
  obtain ⟨f, fd, F, hm, b, ds, vd, b2⟩ := D.ex
  have G : FnOk P w K mg base (L2.CX P w) (k + 1) f fd ps sp := F.ok S len (hbody f)
  exact ⟨⟨f, fd, ps, [], G, hm, F.kp, b, .nil⟩, ⟨f, fd, ps, ds, G, hm, F.kp, b2, vd⟩⟩
end
end Hr
/-! ### the law's own numbers -/
namespace Hr
open PySem PySem.Spec PyProof.Rows L2
/-- what _law_mixed makes of a cell at its place -/
def mixed (z k : Int) : Int :=
  let m := (z % 2147483629 + 104729 * (k + 1)) * 16807 % 2147483647
  m * m % 2147483629 * 48271 % 2147483647
theorem mixed_nonneg (z k : Int) : 0 ≤ mixed z k := Int.emod_nonneg _ (by decide)
theorem mixed_lt (z k : Int) : mixed z k < 2147483647 := Int.emod_lt_of_pos _ (by decide)
theorem scMixed : FnScope ["_law_cell", "_law_k", "_law_mark"] ["_law_cell", "_law_k"] (defScope sMixed) := ⟨rfl, rfl, rfl, by decide +kernel, rfl, by decide +kernel, by decide +kernel⟩
section
variable {P : Program} {w : World} {K : PySem.W.Frag} {mg : Str → Option Value} {base : Heap}
def spMixed : Sp := fun vs H Q _ => ∃ (z k : Int), vs = [.int z, .int k] ∧ Q (.int (mixed z k)) H
theorem cal_mixed (D : Def K mg "_law_mixed" sMixed ["_law_cell", "_law_k"]) : Cal K mg CX0 P w base 1 "_law_mixed" [] spMixed := by
  refine D.cal scMixed (fun vs H Q E h => ?_) (fun f cdv A outer s H vs Q E hr h => ?_)
  · obtain ⟨z, k, rfl, _⟩ := h
    rfl
  · obtain ⟨z, k, rfl, q⟩ := h
    refine ⟨_, pss_cons (ps_set (i := 2) scMixed.nd rfl (.inl rfl) (pe_op op_mod (pe_op op_mul (pe_op op_add (pe_op op_mod (pv 0) pe_int) (pe_op op_mul pe_int (pe_op op_add (pv 1) pe_int))) pe_int) pe_int))
      (pss_one (ps_ret (pe_op op_mod (pe_op op_mul (pe_op op_mod (pe_op op_mul (pv 2) (pv 2)) pe_int) pe_int) pe_int))), ?_⟩
    refine ⟨.int z, rfl, z, 2147483629, rfl, rfl, (by show (0 : Int) < 2147483629; decide), .int k, rfl, k, 1, rfl, rfl, 104729, k + 1, rfl, rfl, .inl ⟨by decide, by decide⟩, z % 2147483629, 104729 * (k + 1), rfl, rfl, _, 16807, rfl, rfl, .inr ⟨by decide, by decide⟩,
      _, 2147483647, rfl, rfl, (by show (0 : Int) < 2147483647; decide), ?_⟩
    have h0 : 0 ≤ (z % 2147483629 + 104729 * (k + 1)) * 16807 % 2147483647 := Int.emod_nonneg _ (by decide)
    have h1 : (z % 2147483629 + 104729 * (k + 1)) * 16807 % 2147483647 < 2147483647 := Int.emod_lt_of_pos _ (by decide)
    refine ⟨_, rfl, _, rfl, _, _, rfl, rfl, .inl ⟨by omega, by omega⟩, _, 2147483629, rfl, rfl, (by show (0 : Int) < 2147483629; decide), _, 48271, rfl, rfl, .inr ⟨by decide, by decide⟩, _, 2147483647, rfl, rfl, (by show (0 : Int) < 2147483647; decide), ?_⟩
    exact q
end
end Hr
/-! ### the table of ways -/
namespace Hr
open PySem PySem.Spec PyProof.Rows L2
theorem scLow : FnScope ["height", "ceiling"] ["height", "ceiling"] (defScope sLow) := ⟨rfl, rfl, rfl, by decide +kernel, rfl, by decide +kernel, by decide +kernel⟩
theorem scIsNum : FnScope ["value", "most", "least"] ["value", "most", "least"] (defScope sIsNum) := ⟨rfl, rfl, rfl, by decide +kernel, rfl, by decide +kernel, by decide +kernel⟩
theorem scChNum : FnScope ["value", "most", "least"] ["value", "most", "least"] (defScope sChNum) := ⟨rfl, rfl, rfl, by decide +kernel, rfl, by decide +kernel, by decide +kernel⟩
theorem scChCei : FnScope ["ceiling"] ["ceiling"] (defScope sChCei) := ⟨rfl, rfl, rfl, by decide +kernel, rfl, by decide +kernel, by decide +kernel⟩
theorem scStep : FnScope ["found", "padded", "height"] ["found"] (defScope sStep) := ⟨rfl, rfl, rfl, by decide +kernel, rfl, by decide +kernel, by decide +kernel⟩
theorem scTable : FnScope ["left", "top", "table", "_"] ["left", "top"] (defScope sTable) := ⟨rfl, rfl, rfl, by decide +kernel, rfl, by decide +kernel, by decide +kernel⟩
theorem scHill : FnScope ["n", "ceiling"] ["n", "ceiling"] (defScope sHill) := ⟨rfl, rfl, rfl, by decide +kernel, rfl, by decide +kernel, by decide +kernel⟩
theorem scCounted : FnScope ["n", "ceiling"] ["n", "ceiling"] (defScope sCounted) := ⟨rfl, rfl, rfl, by decide +kernel, rfl, by decide +kernel, by decide +kernel⟩
/-- a ceiling as a value -/
def cV : Option Nat → V
  | none => .non
  | some k => .int (k : Int)
/-- a ceiling in its bounds -/
def cOk (m : Nat) : Option Nat → Prop
  | none => True
  | some k => k ≤ m
section
variable {P : Program} {w : World} {K : PySem.W.Frag} {mg : Str → Option Value} {base : Heap}
def spLow : Sp := fun vs H Q _ => ∃ (h : Nat) (c : Option Nat), vs = [.int (h : Int), cV c] ∧ Q (.int ((low h c : Nat) : Int)) H
theorem cal_low (D : Def K mg "lower_of" sLow ["height", "ceiling"]) (mmin : mg "min" = none) : Cal K mg CX0 P w base 1 "lower_of" [] spLow := by
  refine D.cal scLow (fun vs H Q E h => ?_) (fun f cdv A outer s H vs Q E hr h => ?_)
  · obtain ⟨h, c, rfl, _⟩ := h
    rfl
  · obtain ⟨h, c, rfl, q⟩ := h
    refine ⟨_, pss_one (ps_ret (pe_ifExp (pt_cmp (pc_isN (pv 1))) (pv 0) (pe_callB (call_min2 rfl) (by rfl) mmin boot_min (pa_cons (pv 0) (pa_cons (pv 1) pa_nil))))), ?_⟩
    cases c with
    | none => exact ⟨.non, rfl, true, rfl, iteT ⟨_, rfl, q⟩⟩
    | some k =>
      refine ⟨.int (k : Int), rfl, false, rfl, iteF ⟨_, rfl, _, rfl, _, _, rfl, ?_⟩⟩
      have e : (if (k : Int) < (h : Int) then (k : Int) else (h : Int)) = ((low h (some k) : Nat) : Int) := by
        show _ = ((min h k : Nat) : Int)
        split <;> omega
      rw [e]
      exact q
/-- one sign more -/
def spStep : Sp := fun vs H Q _ => ∃ (a : Addr) (T k : Nat), vs = [.ref a] ∧ H a = some (.lst ((rowW T k).map V.int)) ∧ T ≤ 1000 ∧
  ∀ H' p, Same H H' → H p = none → H' p = some (.lst ((rowW T (k + 1)).map V.int)) → Q (.ref p) H'
theorem cal_step (D : Def K mg "with_one_more_sign" sStep ["found"]) (mlen : mg "len" = none) (mrange : mg "range" = none) : Cal K mg CX0 P w base 1 "with_one_more_sign" [] spStep := by
  refine D.cal scStep (fun vs H Q E h => ?_) (fun f cdv A outer s H vs Q E hr h => ?_)
  · obtain ⟨a, T, k, rfl, _⟩ := h
    rfl
  · obtain ⟨a, T, k, rfl, ha, hT, q⟩ := h
    refine ⟨_, pss_cons (ps_set (i := 1) scStep.nd rfl (.inr rfl) (pe_op op_cat (pe_op op_cat (pe_lst (pa_cons pe_int pa_nil)) (pv 0)) (pe_lst (pa_cons pe_int pa_nil))))
      (pss_one (ps_ret (pe_lc (own := [("height", 2)]) (g := gName 2) (tt := tYes) rfl scStep.nd (pi_range1 (by rfl) mrange (pa_cons (pe_callB call_len_seq (by rfl) mlen PySem.boot_len (pa_cons (pv 0) pa_nil)) pa_nil))
        (blkOk_by (N := ["found", "padded", "height"]) (sc := defScope sStep) (by decide +kernel)) (fun _ _ _ _ _ => pg_name (i := 2) scStep.nd rfl (Or.inl rfl)) (fun _ _ _ _ _ => pts_nil)
        (fun _ _ _ _ _ => pe_op op_add (pe_ix (r := rIxL K) ix_list (pv 1) (pv 2) (fun _ _ => rfl)) (pe_ix (r := rIxL K) ix_list (pv 1) (pe_op op_add (pv 2) pe_int) (fun _ _ => rfl)))))), ?_⟩
    have hl : ((rowW T k).map V.int).length = T + 1 := by rw [List.length_map, rowW_len]
    refine ⟨sz (by decide), fun p1 n1 => ?_⟩
    have s1 := same_upd (o := .lst [.int 0]) n1
    refine ⟨.ref a, rfl, p1, a, _, _, rfl, rfl, upd_same, s1 _ _ ha, sz (by rw [hl]; show 1 + (T + 1) ≤ _; omega), fun p2 n2 => ?_⟩
    have s2 := s1.trans (same_upd (o := .lst ([.int 0] ++ (rowW T k).map V.int)) n2)
    refine ⟨sz (by decide), fun p3 n3 => ?_⟩
    have n23 : p2 ≠ p3 := ne_of_none upd_same n3
    have s3 := s2.trans (same_upd (o := .lst [.int 0]) n3)
    refine ⟨p2, p3, _, _, rfl, rfl, by rw [upd_ne n23]; exact upd_same, upd_same, sz (by rw [List.length_append, hl]; show 1 + (T + 1) + 1 ≤ _; omega), fun p4 n4 => ?_⟩
    have s4 := s3.trans (same_upd (o := .lst ([.int 0] ++ (rowW T k).map V.int ++ [.int 0])) n4)
    have ep : ([V.int 0] ++ (rowW T k).map V.int ++ [V.int 0]) = (padW (rowW T k)).map V.int := by
      unfold padW
      rw [List.map_cons, List.map_append]
      rfl
    -- the comprehension
    refine ⟨.ref a, rfl, a, _, rfl, .inl (.inl (.inl (s4 _ _ ha))), ((T + 1 : Nat) : Int), by rw [hl], by omega, by omega, fun D nD => ?_⟩
    have hp4 := s4
    have np4 : p4 ≠ D := ne_of_none (upd_same : (upd _ p4 (.lst ([.int 0] ++ (rowW T k).map V.int ++ [.int 0]))) p4 = some _) nD
    refine lc_range (lo := 0) (n := T + 1) (fun i H' => Same H H' ∧ H' p4 = some (.lst ((padW (rowW T k)).map V.int)) ∧ H' D = some (.lst (((rowW T (k + 1)).take i).map V.int))) ?_ ?_ ?_
    · refine ⟨same_updN s4 (s4.free nD), ?_, upd_same⟩
      rw [upd_ne np4, upd_same, ep]
    · intro i H' hi ⟨sm, e4, eD⟩
      obtain ⟨x, y, e1, e2, e3⟩ := row_step (T := T) (k := k) (h := i) (by omega)
      have g1 : ((padW (rowW T k)).map V.int)[i]? = some (.int x) := by rw [List.getElem?_map, e1]; rfl
      have g2 : ((padW (rowW T k)).map V.int)[i + 2]? = some (.int y) := by rw [List.getElem?_map, e2]; rfl
      refine ⟨rfl, ?_⟩
      unfold tYes
      refine iteT ?_
      refine ⟨.ref p4, rfl, .int (0 + (i : Int)), rfl, p4, _, _, .int x, rfl, rfl, .inl (.inl e4), at_of (by omega) g1, ?_⟩
      refine ⟨.ref p4, rfl, .int (0 + (i : Int)), rfl, _, _, rfl, rfl, p4, _, _, .int y, rfl, rfl, .inl (.inl e4), at_of (j := i + 2) (by omega) g2, ?_⟩
      refine ⟨x, y, rfl, rfl, _, eD, szl ?_, same_updN sm (s4.free nD), ?_, ?_⟩
      · rw [List.length_map, List.length_take]
        omega
      · rw [upd_ne np4]
        exact e4
      · rw [upd_same, List.take_add_one, e3, List.map_append]
        rfl
    · intro H' ⟨sm, e4, eD⟩
      rw [List.take_of_length_le (by rw [rowW_len]; omega)] at eD
      exact q H' D sm (s4.free nD) eD
end
end Hr
namespace Hr
open PySem PySem.Spec PyProof.Rows L2
/-- the table of ways at p: for each number of signs to n a list by heights to T -/
def Tbl (H : Hp) (p : Addr) (n T : Nat) : Prop := ∃ q : Nat → Addr, H p = some (.lst ((List.range (n + 1)).map fun k => V.ref (q k))) ∧ ∀ k, k ≤ n → H (q k) = some (.lst ((rowW T k).map V.int))
theorem Tbl.same {H H' : Hp} {p : Addr} {n T : Nat} (s : Same H H') (t : Tbl H p n T) : Tbl H' p n T := by
  obtain ⟨q, h1, h2⟩ := t
  exact ⟨q, s _ _ h1, fun k hk => s _ _ (h2 k hk)⟩
theorem range_get {n k : Nat} (q : Nat → Addr) (h : k ≤ n) : ((List.range (n + 1)).map fun k => V.ref (q k))[k]? = some (V.ref (q k)) := by
  rw [List.getElem?_map, List.getElem?_range (by omega)]
  rfl
theorem row0_lst (T : Nat) : [V.int 1] ++ (List.replicate T [V.int 0]).flatten = (rowW T 0).map V.int := by
  rw [rowW_zero, List.map_cons, List.map_replicate]
  have e : ∀ n : Nat, (List.replicate n [V.int 0]).flatten = List.replicate n (V.int 0) := by
    intro n
    induction n with
    | zero => rfl
    | succ n ih => rw [List.replicate_succ, List.replicate_succ, List.flatten_cons, ih]; rfl
  rw [e]
  rfl
section
variable {P : Program} {w : World} {K : PySem.W.Frag} {mg : Str → Option Value} {base : Heap}
def spTable : Sp := fun vs H Q _ => ∃ (n T : Nat), vs = [.int (n : Int), .int (T : Int)] ∧ n ≤ 1000 ∧ T ≤ 1000 ∧ ∀ H' p, Same H H' → H p = none → Tbl H' p n T → Q (.ref p) H'
theorem cal_table (D : Def K mg "ways_table" sTable ["left", "top"]) (C : Cal K mg CX0 P w base 1 "with_one_more_sign" [] spStep) (mrange : mg "range" = none) : Cal K mg CX0 P w base 2 "ways_table" [] spTable := by
  refine D.cal scTable (fun vs H Q E h => ?_) (fun f cdv A outer s H vs Q E hr h => ?_)
  · obtain ⟨n, T, rfl, _⟩ := h
    rfl
  · obtain ⟨n, T, rfl, hn, hT, q⟩ := h
    refine ⟨_, pss_cons (ps_set (i := 2) scTable.nd rfl (.inl rfl) (pe_lst (pa_cons (pe_op op_cat (pe_lst (pa_cons pe_int pa_nil)) (pe_op op_rep (pe_lst (pa_cons pe_int pa_nil)) (pv 1))) pa_nil)))
      (pss_cons (ps_for PassesOwn.never rfl (pi_range1 (by rfl) mrange (pa_cons (pv 0) pa_nil)) (pg_name (i := 3) scTable.nd rfl (.inl rfl))
        (pss_one (ps_expr (pe_bm PySem.F.plainAttrs_list PySem.F.slot_list_append PySem.F.type_list_append mt_append (pv 2) (pa_cons (pe_c C hr (pa_cons (pe_ix ix_list (pv 2) (pe_un un_neg pe_int) (fun _ _ => rfl)) pa_nil)) pa_nil)))))
      (pss_one (ps_ret (pv 2)))), ?_⟩
    refine ⟨sz (by decide), fun p1 n1 => ⟨sz (by decide), fun p2 n2 => ?_⟩⟩
    have s1 := same_upd (o := .lst [.int 1]) n1
    have s2 := s1.trans (same_upd (o := .lst [.int 0]) n2)
    refine ⟨.int (T : Int), rfl, p2, (T : Int), _, rfl, rfl, upd_same, by omega, by omega, sz (by show 1 * T ≤ _; omega), fun p3 n3 => ?_⟩
    have s3 := s2.trans (same_upd (o := .lst (List.replicate (T : Int).toNat [V.int 0]).flatten) n3)
    have n13 : p1 ≠ p3 := ne_of_none (by rw [upd_ne (ne_of_none upd_same n2)]; exact upd_same) n3
    have n12 : p1 ≠ p2 := ne_of_none upd_same n2
    have lz : (List.replicate (T : Int).toNat [V.int 0]).flatten.length = T := by
      have := congrArg List.length (row0_lst T)
      rw [List.length_append, List.length_map, rowW_len] at this
      have e : ([V.int 1] : List V).length = 1 := rfl
      rw [Int.toNat_natCast]
      omega
    refine ⟨p1, p3, _, _, rfl, rfl, by rw [upd_ne n13, upd_ne n12]; exact upd_same, upd_same, sz (by rw [lz]; show 1 + T ≤ _; omega), fun p4 n4 => ?_⟩
    rw [Int.toNat_natCast, row0_lst]
    rw [Int.toNat_natCast] at n4 s3
    have s4 := s3.trans (same_upd (o := .lst ((rowW T 0).map V.int)) n4)
    refine ⟨sz (show 1 ≤ 1000000 by decide), fun o no => ?_⟩
    have n4o : p4 ≠ o := ne_of_none upd_same no
    have s5 := same_updN (o := .lst [V.ref p4]) s4 (s4.free no)
    refine ⟨.int (n : Int), rfl, (n : Int), rfl, by omega, by omega, ?_⟩
    refine for_range (lo := 0) (n := n) (fun i σ H' => ∃ (y : Option V) (q : Nat → Addr), σ = [some (.int (n : Int)), some (.int (T : Int)), some (.ref o), y] ∧ Same H H' ∧
      H' o = some (.lst ((List.range (i + 1)).map fun k => V.ref (q k))) ∧ ∀ k, k ≤ i → H' (q k) = some (.lst ((rowW T k).map V.int)) ∧ q k ≠ o) ?_ ?_ ?_
    · refine ⟨none, fun _ => p4, rfl, s5, upd_same, fun k hk => ?_⟩
      have : k = 0 := by omega
      subst this
      refine ⟨?_, n4o⟩
      rw [upd_ne n4o]
      exact upd_same
    · rintro i σ H1 hi ⟨y, qa, rfl, sm, eo, er⟩
      have eL : ((List.range (i + 1)).map fun k => V.ref (qa k)) = ((List.range i).map fun k => V.ref (qa k)) ++ [V.ref (qa i)] := by
        rw [List.range_succ, List.map_append]
        rfl
      refine ⟨.ref o, rfl, .inl ⟨rfl, _, .inl (.inl eo)⟩, .ref o, rfl, 1, rfl, o, _, -1, .ref (qa i), rfl, rfl, .inl (.inl eo), by rw [eL]; exact atI_last _ _, ?_⟩
      refine ⟨qa i, T, i, rfl, (er i (Nat.le_refl _)).1, hT, fun H2 p sm2 np ep => ?_⟩
      have eo2 : H2 o = some (.lst ((List.range (i + 1)).map fun k => V.ref (qa k))) := sm2 _ _ eo
      have npo : p ≠ o := fun z => by
        rw [z, eo] at np
        cases np
      refine ⟨o, _, .ref p, rfl, rfl, eo2, szl (by rw [List.length_map, List.length_range]; omega), ?_⟩
      refine ⟨_, fun k => if k = i + 1 then p else qa k, rfl, same_updN (sm.trans sm2) (s4.free no), ?_, fun k hk => ?_⟩
      · rw [upd_same, List.range_succ (n := i + 1), List.map_append]
        congr 2
        congr 1
        · refine List.map_congr_left fun k hk => ?_
          have := List.mem_range.mp hk
          dsimp only
          rw [if_neg (by omega)]
        · show [V.ref p] = [V.ref (if i + 1 = i + 1 then p else qa (i + 1))]
          rw [if_pos rfl]
      · dsimp only
        by_cases e : k = i + 1
        · rw [if_pos e]
          refine ⟨?_, npo⟩
          rw [upd_ne npo, e]
          exact ep
        · rw [if_neg e]
          obtain ⟨h1, h2⟩ := er k (by omega)
          refine ⟨?_, h2⟩
          rw [upd_ne h2]
          exact sm2 _ _ h1
    · rintro σ H1 ⟨y, qa, rfl, sm, eo, er⟩
      exact ⟨.ref o, rfl, q H1 o sm (s4.free no) ⟨qa, eo, fun k hk => (er k hk).1⟩⟩
def spHill : Sp := fun vs H Q _ => ∃ (n : Nat) (c : Option Nat), vs = [.int (n : Int), cV c] ∧ n ≤ 400 ∧ ∀ H' p, Same H H' → H p = none → Tbl H' p (2 * n) (low n c) → Q (.ref p) H'
theorem low_le (n : Nat) (c : Option Nat) : low n c ≤ n := by
  cases c with
  | none => exact Nat.le_refl _
  | some k => exact Nat.min_le_left _ _
theorem cal_hill (D : Def K mg "hill_table" sHill ["n", "ceiling"]) (C : Cal K mg CX0 P w base 2 "ways_table" [] spTable) (C2 : Cal K mg CX0 P w base 1 "lower_of" [] spLow) : Cal K mg CX0 P w base 3 "hill_table" [] spHill := by
  refine D.cal scHill (fun vs H Q E h => ?_) (fun f cdv A outer s H vs Q E hr h => ?_)
  · obtain ⟨n, c, rfl, _⟩ := h
    rfl
  · obtain ⟨n, c, rfl, hn, q⟩ := h
    refine ⟨_, pss_one (ps_ret (pe_c C hr (pa_cons (pe_op op_mul pe_int (pv 0)) (pa_cons (pe_c C2 hr (pa_cons (pv 0) (pa_cons (pv 1) pa_nil))) pa_nil)))), ?_⟩
    have hl := low_le n c
    refine ⟨.int (n : Int), rfl, 2, _, rfl, rfl, .inl ⟨by decide, by decide⟩, .int (n : Int), rfl, cV c, rfl, n, c, rfl, 2 * n, low n c, ?_, by omega, by omega, q⟩
    rw [Int.natCast_mul]
    rfl
/-- as many as the hill rows of n under the ceiling -/
def spCounted : Sp := fun vs H Q _ => ∃ (n : Nat) (c : Option Nat), vs = [.int (n : Int), cV c] ∧ n ≤ 200 ∧ cOk 200 c ∧ ∀ H', Same H H' → Q (.int ((W (low n c) (2 * n) 0 : Nat) : Int)) H'
end
end Hr
/-! ### counts and ranks, with what they refuse -/
namespace Hr
open PySem PySem.Spec PyProof.Rows L2
/-- a whole number from 0 to m -/
def numL : V → Int → Int → Bool
  | .int i, l, m => decide (l ≤ i ∧ i ≤ m)
  | _, _, _ => false
def numB (v : V) (m : Int) : Bool := numL v 0 m
def ceilB : V → Bool
  | .non => true
  | v => numB v 200
theorem numB_of {v : V} {m : Int} (h : numB v m = true) : ∃ n : Nat, v = .int (n : Int) ∧ (n : Int) ≤ m := by
  cases v with
  | int i =>
    have := of_decide_eq_true h
    exact ⟨i.toNat, by rw [Int.toNat_of_nonneg this.1], by omega⟩
  | _ => cases h
theorem numB_nat {n : Nat} {m : Int} (h : (n : Int) ≤ m) : numB (.int (n : Int)) m = true := decide_eq_true ⟨by omega, h⟩
theorem ceilB_of {v : V} (h : ceilB v = true) : ∃ c : Option Nat, v = cV c ∧ cOk 200 c := by
  cases v with
  | non => exact ⟨none, rfl, trivial⟩
  | int i =>
    obtain ⟨n, e, hn⟩ := numB_of (v := .int i) (m := 200) h
    exact ⟨some n, e, by show n ≤ 200; omega⟩
  | _ => cases h
theorem ceilB_cV {c : Option Nat} (h : cOk 200 c) : ceilB (cV c) = true := by
  cases c with
  | none => rfl
  | some k =>
    have h : k ≤ 200 := h
    exact numB_nat (by omega)
theorem flat_cV (c : Option Nat) : flatV (cV c) = true := by cases c <;> rfl
section
variable {P : Program} {w : World} {K : PySem.W.Frag} {mg : Str → Option Value} {base : Heap} {CC CN CR CP : Addr}
def spIsNumV : Sp := fun vs H Q _ => ∃ (v : V) (m : Int), vs = [v, .int m, .int 0] ∧ flatV v = true ∧ Q (.bl (numB v m)) H
def spIsNumL : Sp := fun vs H Q _ => ∃ (v : V) (m l : Int), vs = [v, .int m, .int l] ∧ flatV v = true ∧ Q (.bl (numL v l m)) H
theorem cal_isNumL (D : DefV K mg "is_number" sIsNum ["value", "most", "least"] (.int 0)) (misi : mg "isinstance" = none) (mint : mg "int" = none) (mbool : mg "bool" = none) : Cal K mg CX0 P w base 1 "is_number" [] spIsNumL ∧ Cal K mg CX0 P w base 1 "is_number" [.int 0] spIsNumL := by
  refine D.ok scIsNum (fun vs H Q E h => ?_) (fun f cdv A outer s H vs Q E hr h => ?_)
  · obtain ⟨i, m, l, rfl, _⟩ := h
    rfl
  · obtain ⟨v, m, l, rfl, hv, q⟩ := h
    refine ⟨_, pss_one (ps_ret (pe_and (pe_callB call_isi (by rfl) misi (by decide +kernel) (pa_cons (pv 0) (pa_cons (pe_bltn (v := .ty "int") (u := .type "int") (by rfl) mint (by decide +kernel) rfl) pa_nil)))
      (pe_and (pe_not (pe_callB call_isi (by rfl) misi (by decide +kernel) (pa_cons (pv 0) (pa_cons (pe_bltn (v := .ty "bool") (u := .type "bool") (by rfl) mbool (by decide +kernel) rfl) pa_nil))))
      (pe_one (pe_chain op_le op_le (pv 2) (pv 0) (pv 1)))))), ?_⟩
    cases v with
    | int i =>
      refine ⟨.int i, rfl, .int i, .ty "int", _, _, true, rfl, .ty "int", .base (.int i), kit_ty (by decide +kernel), true, rfl, iteT ?_⟩
      refine ⟨.int i, rfl, .int i, .ty "bool", _, _, false, rfl, .ty "bool", .base (.int i), kit_ty (by decide +kernel), false, rfl, true, rfl, iteT ?_⟩
      refine ⟨.int l, rfl, .int i, rfl, l, i, rfl, rfl, decide (l ≤ i), rfl, ite2 (fun e => ?_) (fun e => ?_)⟩
      · refine ⟨.int m, rfl, i, m, rfl, rfl, ?_⟩
        have e0 : l ≤ i := of_decide_eq_true e
        show Q (.bl (decide (i ≤ m))) H
        rw [show decide (i ≤ m) = decide (l ≤ i ∧ i ≤ m) from decide_eq_decide.mpr ⟨fun z => ⟨e0, z⟩, fun z => z.2⟩]
        exact q
      · have e0 : ¬ l ≤ i := fun z => e (decide_eq_true z)
        have en : numL (.int i) l m = false := decide_eq_false (fun z => e0 z.1)
        rw [en] at q
        exact q
    | bl b =>
      refine ⟨.bl b, rfl, .bl b, .ty "int", _, _, true, rfl, .ty "int", .base (.bl b), kit_ty (by decide +kernel), true, rfl, iteT ?_⟩
      refine ⟨.bl b, rfl, .bl b, .ty "bool", _, _, true, rfl, .ty "bool", .base (.bl b), kit_ty (by decide +kernel), true, rfl, false, rfl, iteF ?_⟩
      exact q
    | non =>
      refine ⟨.non, rfl, .non, .ty "int", _, _, false, rfl, .ty "int", .base .non, kit_ty (by decide +kernel), false, rfl, iteF ?_⟩
      exact q
    | str z =>
      refine ⟨.str z, rfl, .str z, .ty "int", _, _, false, rfl, .ty "int", .base (.str z), kit_ty (by decide +kernel), false, rfl, iteF ?_⟩
      exact q
    | byt _ => cases hv
    | flt _ => cases hv
    | ref _ => cases hv
    | ty _ => cases hv
theorem cal_isNumV (D : DefV K mg "is_number" sIsNum ["value", "most", "least"] (.int 0)) (misi : mg "isinstance" = none) (mint : mg "int" = none) (mbool : mg "bool" = none) : Cal K mg CX0 P w base 1 "is_number" [] spIsNumL ∧ Cal K mg CX0 P w base 1 "is_number" [.int 0] spIsNumV := by
  obtain ⟨C1, C2⟩ := cal_isNumL (P := P) (w := w) (base := base) D misi mint mbool
  exact ⟨C1, C2.imp fun vs H Q E ⟨v, m, e, hv, q⟩ => ⟨v, m, 0, e, hv, q⟩⟩
def spChNumX (CC : Addr) : Sp := fun vs H Q E => ∃ (v : V) (m : Int), vs = [v, .int m, .int 0] ∧ flatV v = true ∧ (m = 200 ∨ m = 400) ∧ (numB v m = true → Q .non H) ∧ (numB v m = false → E (.ref CC) none H)
def spChNumL (CC : Addr) : Sp := fun vs H Q E => ∃ (v : V) (m l : Int), vs = [v, .int m, .int l] ∧ flatV v = true ∧ (0 ≤ m ∧ m ≤ 400) ∧ (0 ≤ l ∧ l ≤ 400) ∧ (numL v l m = true → Q .non H) ∧ (numL v l m = false → E (.ref CC) none H)
theorem num_fits : ∀ k : Fin 401, (Str.ofString (toString ((k.val : Nat) : Int))).length ≤ 1000 ∧ ((k.val : Nat) : Int).natAbs.log2 < 1920 := by decide +kernel
theorem num_fit {m : Int} (h : 0 ≤ m ∧ m ≤ 400) : (Str.ofString (toString m)).length ≤ 1000 ∧ m.natAbs.log2 < 1920 := by
  have := num_fits ⟨m.toNat, by omega⟩
  have e : ((m.toNat : Nat) : Int) = m := Int.toNat_of_nonneg h.1
  dsimp only at this
  rw [e] at this
  exact this
theorem cal_chNumL (er : Err K mg "NoCount" CC) (D : DefV K mg "check_number" sChNum ["value", "most", "least"] (.int 0)) (C : Cal K mg CX0 P w base 1 "is_number" [] spIsNumL) : Cal K mg (L2.CX P w) P w base 2 "check_number" [] (spChNumL CC) ∧ Cal K mg (L2.CX P w) P w base 2 "check_number" [.int 0] (spChNumL CC) := by
  refine D.okX scChNum (fun vs H Q E h => ?_) (fun f cdv A outer s H vs Q E hr h => ?_)
  · obtain ⟨i, m, l, rfl, _⟩ := h
    rfl
  · obtain ⟨v, m, l, rfl, hv, hm, hl, q, qe⟩ := h
    refine ⟨_, pss_one (ps_if (pt_not (pt_val (pe_c C hr (pa_cons (pv 0) (pa_cons (pv 1) (pa_cons (pv 2) pa_nil)))))) (pss_one (ps_raise rfl (takes_of rfl rfl rfl rfl) (SkE.pmk_own1 PySem.F.excBase_ValueError er.x er.g er.k (raises_own er.b er.t) rfl (pe_joined (.cons pe_str (.cons (pe_fmt (pv 2)) (.cons pe_str (.cons (pe_fmt (pv 1)) .nil)))))))) pss_nil), ?_⟩
    refine ⟨v, rfl, .int m, rfl, .int l, rfl, v, m, l, rfl, hv, numL v l m, rfl, ?_⟩
    cases hn : numL v l m with
    | true =>
      refine iteF ?_
      exact q hn
    | false =>
      refine iteT ?_
      have f1 := num_fit hm
      have f2 := num_fit hl
      have h1 : (Str.empty ++ ("no whole number from " : Str)).length ≤ 100 := by decide +kernel
      have h2 : ((" to " : Str)).length ≤ 100 := by decide +kernel
      refine ⟨_, rfl, by decide +kernel, _, rfl, .inr ⟨l, rfl, f2.2, _, rfl, ?_, _, rfl, ?_, _, rfl, .inr ⟨m, rfl, f1.2, _, rfl, ?_, qe hn⟩⟩⟩
      · rw [PySem.Str.length_append]
        refine sz ?_
        have := f2.1
        omega
      · rw [PySem.Str.length_append, PySem.Str.length_append]
        refine sz ?_
        have := f2.1
        omega
      · rw [PySem.Str.length_append, PySem.Str.length_append, PySem.Str.length_append]
        refine sz ?_
        have := f2.1
        have := f1.1
        omega
theorem cal_chNumX (er : Err K mg "NoCount" CC) (D : DefV K mg "check_number" sChNum ["value", "most", "least"] (.int 0)) (C : Cal K mg CX0 P w base 1 "is_number" [] spIsNumL) : Cal K mg (L2.CX P w) P w base 2 "check_number" [] (spChNumL CC) ∧ Cal K mg (L2.CX P w) P w base 2 "check_number" [.int 0] (spChNumX CC) := by
  obtain ⟨C1, C2⟩ := cal_chNumL (P := P) (w := w) (base := base) er D C
  refine ⟨C1, C2.imp fun vs H Q E ⟨v, m, e, hv, hm, q, qe⟩ => ⟨v, m, 0, e, hv, ?_, by omega, q, qe⟩⟩
  omega
def spChCeiX (CC : Addr) : Sp := fun vs H Q E => ∃ (v : V), vs = [v] ∧ flatV v = true ∧ (ceilB v = true → Q .non H) ∧ (ceilB v = false → E (.ref CC) none H)
theorem cal_chCeiX (D : Def K mg "check_ceiling" sChCei ["ceiling"]) (C : Cal K mg (L2.CX P w) P w base 2 "check_number" [.int 0] (spChNumX CC)) {tk : Tok} (gM : mg "MOST_HEIGHT" = some (.int 200 tk)) : Cal K mg (L2.CX P w) P w base 3 "check_ceiling" [] (spChCeiX CC) := by
  refine D.calX scChCei (fun vs H Q E h => ?_) (fun f cdv A outer s H vs Q E hr h => ?_)
  · obtain ⟨c, rfl, _⟩ := h
    rfl
  · obtain ⟨v, rfl, hv, q, qe⟩ := h
    refine ⟨_, pss_one (ps_if (pt_cmp (pc_notN (pv 0))) (pss_one (ps_expr (pe_cX C hr (takes_of rfl rfl rfl rfl) (pa_cons (pv 0) (pa_cons (pe_glob (v := .int 200) (by rfl) gM ⟨_, rfl⟩) pa_nil))))) pss_nil), ?_⟩
    cases v with
    | non => exact ⟨.non, rfl, false, rfl, iteF (q rfl)⟩
    | int i => exact ⟨_, rfl, true, rfl, iteT ⟨_, rfl, _, 200, rfl, hv, .inl rfl, q, qe⟩⟩
    | bl b => exact ⟨_, rfl, true, rfl, iteT ⟨_, rfl, _, 200, rfl, hv, .inl rfl, q, qe⟩⟩
    | str z => exact ⟨_, rfl, true, rfl, iteT ⟨_, rfl, _, 200, rfl, hv, .inl rfl, q, qe⟩⟩
    | byt _ => cases hv
    | flt _ => cases hv
    | ref _ => cases hv
    | ty _ => cases hv
end
end Hr
namespace Hr
open PySem PySem.Spec PyProof.Rows L2
theorem scWaysX : FnScope ["height", "left", "ceiling", "top"] ["height", "left", "ceiling"] (defScope sWays) := ⟨rfl, rfl, rfl, by decide +kernel, rfl, by decide +kernel, by decide +kernel⟩
section
variable {P : Program} {w : World} {K : PySem.W.Frag} {mg : Str → Option Value} {base : Heap} {CC CN CR CP : Addr}
def spCountedX (CC : Addr) : Sp := fun vs H Q E => ∃ (v cv : V), vs = [v, cv] ∧ flatV v = true ∧ flatV cv = true ∧ (numB v 200 = true → ceilB cv = true → spCounted [v, cv] H Q E0) ∧ (numB v 200 = false ∨ ceilB cv = false → E (.ref CC) none H)
theorem cal_countedX (D : DefD K mg "counted" sCounted ["n", "ceiling"]) (C : Cal K mg CX0 P w base 3 "hill_table" [] spHill) (C2 : Cal K mg (L2.CX P w) P w base 2 "check_number" [.int 0] (spChNumX CC)) (C3 : Cal K mg (L2.CX P w) P w base 3 "check_ceiling" [] (spChCeiX CC))
    {tk : Tok} (gM : mg "MOST_UPS" = some (.int 200 tk)) : Cal K mg (L2.CX P w) P w base 4 "counted" [] (spCountedX CC) ∧ Cal K mg (L2.CX P w) P w base 4 "counted" [.non] (spCountedX CC) := by
  refine D.okX scCounted (fun vs H Q E h => ?_) (fun f cdv A outer s H vs Q E hr h => ?_)
  · obtain ⟨v, cv, rfl, _⟩ := h
    rfl
  · obtain ⟨v, cv, rfl, hv, hcv, q, qe⟩ := h
    refine ⟨_, pss_cons (ps_expr (pe_cX C2 hr (takes_of rfl rfl rfl rfl) (pa_cons (pv 0) (pa_cons (pe_glob (v := .int 200) (by rfl) gM ⟨_, rfl⟩) pa_nil))))
      (pss_cons (ps_expr (pe_cX C3 hr (takes_of rfl rfl rfl rfl) (pa_cons (pv 1) pa_nil)))
      (pss_one (ps_ret (pe_ix ix_list (pe_ix ix_list (pe_c C hr (pa_cons (pv 0) (pa_cons (pv 1) pa_nil))) (pe_op op_mul pe_int (pv 0)) (fun _ _ => rfl)) pe_int (fun _ _ => rfl))))), ?_⟩
    refine ⟨v, rfl, v, 200, rfl, hv, .inl rfl, fun hn => ?_, fun hn => qe (.inl hn)⟩
    refine ⟨cv, rfl, cv, rfl, hcv, fun hk => ?_, fun hk => qe (.inr hk)⟩
    obtain ⟨n, c, e, hn, hc, q2⟩ := q hn hk
    obtain ⟨rfl, rfl⟩ : v = .int (n : Int) ∧ cv = cV c := by simpa using e
    refine ⟨.int (n : Int), rfl, cV c, rfl, n, c, rfl, by omega, fun H' p sm np ⟨qa, e1, e2⟩ => ?_⟩
    have e3 := e2 (2 * n) (Nat.le_refl _)
    refine ⟨.int (n : Int), rfl, 2, _, rfl, rfl, .inl ⟨by decide, by decide⟩, p, _, _, .ref (qa (2 * n)), rfl, rfl, .inl (.inl e1), at_of (j := 2 * n) (by rw [Int.natCast_mul]; rfl) (range_get qa (Nat.le_refl _)), ?_⟩
    refine ⟨qa (2 * n), _, 0, .int ((W (low n c) (2 * n) 0 : Nat) : Int), rfl, rfl, .inl (.inl e3), at_of (j := 0) rfl ?_, q2 H' sm⟩
    rw [List.getElem?_map, rowW_get (Nat.zero_le _)]
    rfl
/-- ways, where it is refused -/
def spWaysX (CC : Addr) : Sp := fun vs H Q E => ∃ (h l cv : V), vs = [h, l, cv] ∧ flatV h = true ∧ flatV l = true ∧ flatV cv = true ∧ (numB h 200 = false ∨ numB l 400 = false ∨ ceilB cv = false) ∧ E (.ref CC) none H
theorem cal_waysX (D : DefD K mg "ways" sWays ["height", "left", "ceiling"]) (C : Cal K mg CX0 P w base 2 "ways_table" [] spTable) (C1 : Cal K mg CX0 P w base 1 "lower_of" [] spLow) (C2 : Cal K mg (L2.CX P w) P w base 2 "check_number" [.int 0] (spChNumX CC)) (C3 : Cal K mg (L2.CX P w) P w base 3 "check_ceiling" [] (spChCeiX CC))
    {t1 t2 : Tok} (g1 : mg "MOST_HEIGHT" = some (.int 200 t1)) (g2 : mg "MOST_SIGNS" = some (.int 400 t2)) : Cal K mg (L2.CX P w) P w base 4 "ways" [] (spWaysX CC) := by
  refine (D.okX scWaysX (fun vs H Q E h => ?_) (fun f cdv A outer s H vs Q E hr h => ?_)).1
  · obtain ⟨n, l, c, rfl, _⟩ := h
    rfl
  · obtain ⟨h, l, cv, rfl, hh, hl, hc, bad, qe⟩ := h
    refine ⟨_, pss_cons (ps_expr (pe_cX C2 hr (takes_of rfl rfl rfl rfl) (pa_cons (pv 0) (pa_cons (pe_glob (v := .int 200) (by rfl) g1 ⟨_, rfl⟩) pa_nil))))
      (pss_cons (ps_expr (pe_cX C2 hr (takes_of rfl rfl rfl rfl) (pa_cons (pv 1) (pa_cons (pe_glob (v := .int 400) (by rfl) g2 ⟨_, rfl⟩) pa_nil))))
      (pss_cons (ps_expr (pe_cX C3 hr (takes_of rfl rfl rfl rfl) (pa_cons (pv 2) pa_nil))) pss_never)), ?_⟩
    refine ⟨h, rfl, h, 200, rfl, hh, .inl rfl, fun hn => ?_, fun _ => qe⟩
    refine ⟨l, rfl, l, 400, rfl, hl, .inr rfl, fun hn2 => ?_, fun _ => qe⟩
    refine ⟨cv, rfl, cv, rfl, hc, fun hk => ?_, fun _ => qe⟩
    rcases bad with z | z | z
    · exact absurd (hn.symm.trans z) (by decide)
    · exact absurd (hn2.symm.trans z) (by decide)
    · exact absurd (hk.symm.trans z) (by decide)
end
end Hr
/-! ### rows as texts -/
namespace Hr
open PySem PySem.Spec PyProof.Rows L2
def code (b : Bool) : Nat := if b = true then 117 else 100
def txt (l : List Bool) : Str := ⟨(l.map code).toArray⟩
def sgn (b : Bool) : Str := ⟨#[code b]⟩
theorem txt_len (l : List Bool) : (txt l).length = l.length := by
  show ((l.map code).toArray).size = _
  rw [List.size_toArray, List.length_map]
theorem txt_size (l : List Bool) : (txt l).cps.size = l.length := txt_len l
theorem txt_at (l : List Bool) (i : Nat) : (txt l).cps[i]? = (l[i]?).map code := by
  show ((l.map code).toArray)[i]? = _
  rw [List.getElem?_toArray, List.getElem?_map]
theorem code_inj {a b : Bool} (h : code a = code b) : a = b := by
  cases a <;> cases b <;> first | rfl | (exact absurd h (by decide))
theorem map_code_inj : ∀ {a b : List Bool}, a.map code = b.map code → a = b
  | [], [], _ => rfl
  | [], _ :: _, e => by cases e
  | _ :: _, [], e => by cases e
  | x :: a, y :: b, e => by
    rw [List.map_cons, List.map_cons] at e
    injection e with e1 e2
    rw [code_inj e1, map_code_inj e2]
theorem txt_inj {a b : List Bool} (h : txt a = txt b) : a = b := by
  have := congrArg (fun z : Str => z.cps.toList) h
  exact map_code_inj (by simpa [txt] using this)
theorem txt_append (a b : List Bool) : txt a ++ txt b = txt (a ++ b) := by
  have := SX.S_cat (a.map code) (b.map code)
  rw [← List.map_append] at this
  exact this
theorem eU : ("u" : Str) = ⟨#[117]⟩ := by decide +kernel
theorem eD : ("d" : Str) = ⟨#[100]⟩ := by decide +kernel
theorem eE : ("" : Str) = ⟨#[]⟩ := by decide +kernel
theorem sgn_u : sgn true = ("u" : Str) := eU.symm
theorem sgn_d : sgn false = ("d" : Str) := eD.symm
theorem one_inj {a b : Nat} : ((⟨#[a]⟩ : Str) = ⟨#[b]⟩) ↔ a = b := by
  constructor
  · intro h
    have := congrArg (fun z : Str => z.cps.toList) h
    simpa using this
  · intro h
    rw [h]
theorem is_u (c : Nat) : decide (V.str ⟨#[c]⟩ = V.str ("u" : Str)) = decide (c = 117) := by
  refine decide_eq_decide.mpr ?_
  rw [eU]
  exact ⟨fun z => one_inj.mp (V.str.inj z), fun z => by rw [z]⟩
theorem code_u (b : Bool) : decide (code b = 117) = b := by cases b <;> rfl
/-- a text of ups and downs alone -/
def isS (c : Nat) : Bool := decide (c = 117) || decide (c = 100)
def isRowB (z : Str) : Bool := z.cps.toList.all isS
theorem isRowB_txt (l : List Bool) : isRowB (txt l) = true := by
  show (l.map code).toArray.toList.all isS = true
  rw [List.all_eq_true]
  intro c hc
  have hc : c ∈ l.map code := hc
  obtain ⟨b, _, rfl⟩ := List.mem_map.mp hc
  cases b <;> rfl
/-- the signs of a text -/
def signs (z : Str) : List Bool := z.cps.toList.map fun c => decide (c = 117)
theorem signs_txt (l : List Bool) : signs (txt l) = l := by
  show (l.map code).map _ = l
  rw [List.map_map]
  refine (List.map_congr_left fun b _ => ?_).trans (List.map_id l)
  exact code_u b
theorem txt_signs {z : Str} (h : isRowB z = true) : txt (signs z) = z := by
  obtain ⟨⟨l⟩⟩ := z
  have h : l.all isS = true := h
  show (⟨((l.map fun c => decide (c = 117)).map code).toArray⟩ : Str) = ⟨l.toArray⟩
  congr 2
  rw [List.map_map]
  refine (List.map_congr_left fun c hc => ?_).trans (List.map_id l)
  have := List.all_eq_true.mp h c hc
  unfold isS at this
  show code (decide (c = 117)) = c
  by_cases e : c = 117
  · rw [e]
    rfl
  · have e2 : c = 100 := by simpa [e] using this
    rw [e2]
    rfl
theorem signs_len (z : Str) : (signs z).length = z.length := by
  unfold signs
  rw [List.length_map, Array.length_toList]
  rfl
/-- whether a text is a hill row under a ceiling -/
def hillB (c : Option Nat) (z : Str) : Bool := isRowB z && okb c 0 (signs z)
theorem hillB_txt (c : Option Nat) (l : List Bool) : hillB c (txt l) = okb c 0 l := by
  unfold hillB
  rw [isRowB_txt, signs_txt, Bool.true_and]
theorem in_signs (c : Nat) : inV (.str ⟨#[c]⟩) [.str "u", .str "d"] = isS c := by
  have e : ∀ (k : Nat), ((⟨#[k]⟩ : Str) == ⟨#[c]⟩) = decide (c = k) := fun k => by
    by_cases h : c = k
    · rw [h]
      simp
    · rw [decide_eq_false h]
      refine beq_eq_false_iff_ne.mpr fun z => h (one_inj.mp z).symm
  show (("u" : Str) == ⟨#[c]⟩ || (("d" : Str) == ⟨#[c]⟩ || false)) = _
  rw [eU, eD, e, e, Bool.or_false]
  rfl
theorem take_snoc {α : Type} {l : List α} {i : Nat} {x : α} (h : l[i]? = some x) : l.take (i + 1) = l.take i ++ [x] := by
  rw [List.take_add_one, h]
  rfl
theorem scIsRow : FnScope ["text", "sign"] ["text"] (defScope sIsRow) := ⟨rfl, rfl, rfl, by decide +kernel, rfl, by decide +kernel, by decide +kernel⟩
theorem scHeights : FnScope ["row", "height", "found", "sign"] ["row"] (defScope sHeights) := ⟨rfl, rfl, rfl, by decide +kernel, rfl, by decide +kernel, by decide +kernel⟩
theorem scIsHill : FnScope ["row", "ceiling", "found"] ["row", "ceiling"] (defScope sIsHill) := ⟨rfl, rfl, rfl, by decide +kernel, rfl, by decide +kernel, by decide +kernel⟩
section
variable {P : Program} {w : World} {K : PySem.W.Frag} {mg : Str → Option Value} {base : Heap}
def spIsRow : Sp := fun vs H Q _ => ∃ (z : Str), vs = [.str z] ∧ z.length ≤ 1000 ∧ ∀ H', Same H H' → Q (.bl (isRowB z)) H'
theorem cal_isRow (D : Def K mg "is_row" sIsRow ["text"]) (misi : mg "isinstance" = none) (mstr : mg "str" = none) (mall : mg "all" = none) {t1 t2 : Tok} (gU : mg "UP" = some (.str "u" t1)) (gD : mg "DOWN" = some (.str "d" t2)) : Cal K mg CX0 P w base 1 "is_row" [] spIsRow := by
  refine D.cal scIsRow (fun vs H Q E h => ?_) (fun f cdv A outer s H vs Q E hr h => ?_)
  · obtain ⟨z, rfl, _⟩ := h
    rfl
  · obtain ⟨z, rfl, hz, q⟩ := h
    refine ⟨_, pss_one (ps_ret (pe_and (pe_callB call_isi (by rfl) misi (by decide +kernel) (pa_cons (pv 0) (pa_cons (pe_bltn (v := .ty "str") (u := .type "str") (by rfl) mstr (by decide +kernel) rfl) pa_nil)))
      (pe_one (pe_callB (cr_all rfl) (by rfl) mall (by decide +kernel) (pa_cons (pe_lc (own := [("sign", 1)]) (g := gName 1) (tt := tYes) rfl scIsRow.nd (pi_str (pv 0))
        (blkOk_by (N := ["text", "sign"]) (sc := defScope sIsRow) (by decide +kernel)) (fun _ _ _ _ _ => pg_name (i := 1) scIsRow.nd rfl (Or.inl rfl)) (fun _ _ _ _ _ => pts_nil)
        (fun _ _ _ _ _ => pe_cmpR (r := rIn K false) op_in_seq (pv 1) (pe_tup (pa_cons (pe_glob (v := .str "u") (by rfl) gU ⟨_, rfl⟩) (pa_cons (pe_glob (v := .str "d") (by rfl) gD ⟨_, rfl⟩) pa_nil))) (by rfl))) pa_nil))))), ?_⟩
    refine ⟨.str z, rfl, .str z, .ty "str", _, _, true, rfl, .ty "str", .base (.str z), kit_ty (by decide +kernel), true, rfl, iteT ?_⟩
    refine ⟨.str z, rfl, z, rfl, fun D nD => ?_⟩
    refine lc_it walk_str (fun i H' => Same H H' ∧ H' D = some (.lst (((z.cps.toList.take i).map isS).map V.bl))) ⟨same_upd nD, upd_same⟩ (fun _ _ _ _ => trivial) ?_ ?_
    · rintro i x H1 H2 hi ⟨sm, eD⟩ ⟨rfl, c, hc, rfl⟩
      have hc' : z.cps.toList[i]? = some c := by rw [Array.getElem?_toList]; exact hc
      refine ⟨rfl, ?_⟩
      unfold tYes
      refine iteT ?_
      refine ⟨_, rfl, sz (show 2 ≤ 1000000 by decide), fun t nt => ?_⟩
      have nDt : D ≠ t := ne_of_none eD nt
      refine ⟨t, _, rfl, .inr (.inl (.inl upd_same)), rfl, rfl, _, by rw [upd_ne nDt]; exact eD, szl ?_, same_updN (sm.trans (same_upd nt)) nD, ?_⟩
      · rw [List.length_map, List.length_map, List.length_take]
        have : z.cps.toList.length = z.length := rfl
        omega
      · rw [upd_same, take_snoc hc', List.map_append, List.map_append]
        show some (HO.lst (_ ++ [V.bl (inV (.str ⟨#[c]⟩) [.str "u", .str "d"])])) = _
        rw [in_signs]
        rfl
    · rintro H1 ⟨sm, eD⟩
      refine ⟨D, _, rfl, .inl (.inl eD), ?_⟩
      have e : (((z.cps.toList.take z.cps.size).map isS).all id) = isRowB z := by
        rw [List.take_of_length_le (by rw [Array.length_toList]; exact Nat.le_refl _), List.all_map]
        rfl
      rw [e]
      exact q H1 sm
end
end Hr
namespace Hr
open PySem PySem.Spec PyProof.Rows L2
section
variable {P : Program} {w : World} {K : PySem.W.Frag} {mg : Str → Option Value} {base : Heap}
def spHeightsX (CN : Addr) : Sp := fun vs H Q E => ∃ (z : Str), vs = [.str z] ∧ z.length ≤ 1000 ∧ (isRowB z = true → ∀ H' p, Same H H' → H p = none → H' p = some (.lst ((hts 0 (signs z)).map V.int)) → Q (.ref p) H') ∧ (isRowB z = false → ∀ H', Same H H' → E (.ref CN) none H')
theorem cal_heightsX {CN : Addr} (er : Err K mg "NoRow" CN) (D : Def K mg "heights" sHeights ["row"]) (C : Cal K mg CX0 P w base 1 "is_row" [] spIsRow) {t1 : Tok} (gU : mg "UP" = some (.str "u" t1)) : Cal K mg (L2.CX P w) P w base 2 "heights" [] (spHeightsX CN) := by
  refine D.calX scHeights (fun vs H Q E h => ?_) (fun f cdv A outer s H vs Q E hr h => ?_)
  · obtain ⟨z, rfl, _⟩ := h
    rfl
  · obtain ⟨z, rfl, hz, q, qe⟩ := h
    have nd := scHeights.nd
    refine ⟨_, pss_cons (ps_if (pt_not (pt_val (pe_c C hr (pa_cons (pv 0) pa_nil)))) (pss_one (ps_raise rfl (takes_of rfl rfl rfl rfl) (pmk_own PySem.F.excBase_ValueError er.x er.g er.k (raises_own er.b er.t) rfl))) pss_nil)
      (pss_cons (ps_set (i := 1) nd rfl (.inl rfl) pe_int)
      (pss_cons (ps_set (i := 2) nd rfl (.inl rfl) (pe_lst (pa_cons (pv 1) pa_nil)))
      (pss_cons (ps_for PassesOwn.leaving rfl (pi_str (pv 0)) (pg_name (i := 3) nd rfl (.inl rfl))
        (pss_cons (ps_aug (i := 1) nd rfl (.inl rfl) (pe_ifExp (pt_cmpR op_eq (pv 3) (pe_glob (v := .str "u") (by rfl) gU ⟨_, rfl⟩) (nomark _)) pe_int (pe_un un_neg pe_int)) ip_add)
        (pss_one (ps_expr (pe_bm PySem.F.plainAttrs_list PySem.F.slot_list_append PySem.F.type_list_append mt_append (pv 2) (pa_cons (pv 1) pa_nil))))))
      (pss_one (ps_ret (pv 2)))))), ?_⟩
    refine ⟨.str z, rfl, z, rfl, hz, fun H1 s1 => ⟨isRowB z, rfl, ?_⟩⟩
    by_cases hrow : isRowB z = true
    rotate_left
    · have hrow : isRowB z = false := by simpa using hrow
      rw [hrow]
      refine iteT ?_
      exact qe hrow H1 s1
    rw [hrow]
    refine iteF ?_
    obtain ⟨l, rfl⟩ : ∃ l, z = txt l := ⟨signs z, (txt_signs hrow).symm⟩
    rw [txt_len] at hz
    have hl := hz
    have q := q hrow
    rw [signs_txt] at q
    refine ⟨.int 0, rfl, sz (show 1 ≤ 1000000 by decide), fun o no => ?_⟩
    have n0 : H o = none := s1.free no
    refine ⟨.str (txt l), rfl, txt l, rfl, ?_⟩
    refine for_it walk_str (fun i σ H' => ∃ y, σ = [some (.str (txt l)), some (.int ((l.take i).map sg).sum), some (.ref o), y] ∧ Same H H' ∧ H' o = some (.lst ((hts 0 (l.take i)).map V.int))) ?_ (fun _ _ _ _ _ => trivial) ?_ ?_
    · exact ⟨none, rfl, same_updN s1 n0, upd_same⟩
    · rintro i x σ H2 H3 hi ⟨y, rfl, sm, eo⟩ ⟨rfl, c, hc, rfl⟩
      rw [txt_at] at hc
      obtain ⟨b, hb, rfl⟩ := Option.map_eq_some_iff.mp hc
      have e1 : ((l.take (i + 1)).map sg).sum = ((l.take i).map sg).sum + sg b := by
        rw [take_snoc hb, List.map_append, List.sum_append]
        show _ + (sg b + 0) = _
        omega
      have e2 : hts 0 (l.take (i + 1)) = hts 0 (l.take i) ++ [((l.take (i + 1)).map sg).sum] := by
        rw [e1, take_snoc hb, hts_snoc, Int.zero_add]
      have hlen : ((hts 0 (l.take i)).map V.int).length < sizeLine := szl (by rw [List.length_map, hts_len, List.length_take]; omega)
      refine ⟨_, rfl, .str ⟨#[code b]⟩, rfl, rfl, decide (code b = 117), congrArg V.bl (is_u _), ?_⟩
      rw [code_u]
      cases b with
      | true =>
        refine iteT ?_
        refine ⟨_, 1, rfl, rfl, .ref o, rfl, .inl ⟨rfl, _, .inl (.inl eo)⟩, _, rfl, o, _, _, rfl, rfl, eo, hlen, some (.str ⟨#[code true]⟩), ?_, same_updN sm n0, ?_⟩
        · rw [e1]
          rfl
        · rw [upd_same, e2, e1, List.map_append]
          rfl
      | false =>
        refine iteF ?_
        refine ⟨1, rfl, _, -1, rfl, rfl, .ref o, rfl, .inl ⟨rfl, _, .inl (.inl eo)⟩, _, rfl, o, _, _, rfl, rfl, eo, hlen, some (.str ⟨#[code false]⟩), ?_, same_updN sm n0, ?_⟩
        · rw [e1]
          rfl
        · rw [upd_same, e2, e1, List.map_append]
          rfl
    · rintro σ H2 ⟨y, rfl, sm, eo⟩
      rw [txt_size, List.take_length] at eo
      exact ⟨.ref o, rfl, q H2 o sm n0 eo⟩
def spIsHill : Sp := fun vs H Q _ => ∃ (z : Str) (c : Option Nat), vs = [.str z, cV c] ∧ z.length ≤ 1000 ∧ ∀ H', Same H H' → Q (.bl (hillB c z)) H'
theorem cal_isHill {CN : Addr} (D : DefD K mg "is_hill" sIsHill ["row", "ceiling"]) (C : Cal K mg CX0 P w base 1 "is_row" [] spIsRow) (C2 : Cal K mg (L2.CX P w) P w base 2 "heights" [] (spHeightsX CN)) (mmin : mg "min" = none) (mmax : mg "max" = none) :
    Cal K mg CX0 P w base 3 "is_hill" [] spIsHill ∧ Cal K mg CX0 P w base 3 "is_hill" [.non] spIsHill := by
  refine D.ok scIsHill (fun vs H Q E h => ?_) (fun f cdv A outer s H vs Q E hr h => ?_)
  · obtain ⟨z, c, rfl, _⟩ := h
    rfl
  · obtain ⟨z, c, rfl, hz, q⟩ := h
    have nd := scIsHill.nd
    refine ⟨_, pss_cons (ps_if (pt_not (pt_val (pe_c C hr (pa_cons (pv 0) pa_nil)))) (pss_one (ps_ret pe_bl)) pss_nil)
      (pss_cons (ps_set (i := 2) nd rfl (.inl rfl) (pe_cL C2 hr (pa_cons (pv 0) pa_nil)))
      (pss_cons (ps_if (PW.pt (pw_or (pt_cmpR op_ne (pe_ix ix_list (pv 2) (pe_un un_neg pe_int) (fun _ _ => rfl)) pe_int (nomark _)) (pw_or1 (pt_cmpR op_lt (pe_callB (cr_min rfl) (by rfl) mmin boot_min (pa_cons (pv 2) pa_nil)) pe_int (nomark _))))) (pss_one (ps_ret pe_bl)) pss_nil)
      (pss_one (ps_ret (pe_or (pe_cmp (pc_isN (pv 1))) (pe_one (pe_cmpR op_le (pe_callB (cr_max rfl) (by rfl) mmax boot_max (pa_cons (pv 2) pa_nil)) (pv 1) (nomark _)))))))), ?_⟩
    refine ⟨.str z, rfl, z, rfl, hz, fun H1 s1 => ⟨isRowB z, rfl, ?_⟩⟩
    by_cases hrow : isRowB z = true
    · rw [hrow]
      refine iteF ?_
      obtain ⟨l, rfl⟩ : ∃ l, z = txt l := ⟨signs z, (txt_signs hrow).symm⟩
      rw [txt_len] at hz
      refine ⟨.str (txt l), rfl, txt l, rfl, by rw [txt_len]; exact hz, fun _ H2 p s2 np ep => ?_, fun z => absurd (z.symm.trans (isRowB_txt l)) (by decide)⟩
      rw [signs_txt] at ep
      have hS : SqL K H2 p ((hts 0 l).map V.int) := .inl (.inl ep)
      have hne : 0 < (hts 0 l).length := by rw [hts_len]; omega
      have hlast : (hts 0 l).map V.int = ((hts 0 l).dropLast).map V.int ++ [.int (l.map sg).sum] := by
        conv => lhs; rw [hts_last l 0]
        rw [List.map_append, Int.zero_add]
        rfl
      have iff := okb_iff c l 0 (fun k _ => Nat.zero_le _)
      have qq : ∀ b : Bool, (b = true ↔ okb c 0 l = true) → ∀ H', Same H H' → Q (.bl b) H' := fun b hb H' sm => by
        have := q H' sm
        rw [hillB_txt] at this
        have e : b = okb c 0 l := Bool.eq_iff_iff.mpr hb
        rw [e]
        exact this
      have sm := s1.trans s2
      refine ⟨.ref p, rfl, 1, rfl, p, _, -1, .int (l.map sg).sum, rfl, rfl, hS, by rw [hlast]; exact atI_last _ _, rfl, _, rfl, ite2 (fun e => ?_) (fun e => ?_)⟩
      · refine iteT ?_
        refine qq false ⟨fun z => (nomatch z), fun z => ?_⟩ H2 sm
        have := (iff.mp z).1
        have e' : ¬ (V.int (l.map sg).sum = V.int 0) := by simpa using e
        exact absurd (congrArg V.int (by have : ((0 : Nat) : Int) + (l.map sg).sum = 0 := this; omega)) e'
      · have e0 : (l.map sg).sum = 0 := by
          have : V.int (l.map sg).sum = V.int 0 := by simpa using e
          exact V.int.inj this
        refine ⟨.ref p, rfl, p, hts 0 l, rfl, hS, hne, fun m hm hmin => ⟨_, _, rfl, rfl, _, rfl, ite2 (fun g => ?_) (fun g => ?_)⟩⟩
        · have g0 : m < 0 := of_decide_eq_true g
          refine qq false ⟨fun z => (nomatch z), fun z => ?_⟩ H2 sm
          have := (iff.mp z).2.1 m hm
          omega
        · have g0 : ¬ m < 0 := fun z => g (decide_eq_true z)
          have hpos : ∀ x ∈ hts 0 l, 0 ≤ x := fun x hx => by
            have := hmin x hx
            omega
          cases c with
          | none =>
            refine ⟨.non, rfl, true, rfl, iteT ?_⟩
            refine qq true ⟨fun _ => iff.mpr ⟨by show ((0 : Nat) : Int) + _ = 0; omega, hpos, fun k z => by cases z⟩, fun _ => rfl⟩ H2 sm
          | some k =>
            refine ⟨.int (k : Int), rfl, false, rfl, iteF ?_⟩
            refine ⟨.ref p, rfl, p, hts 0 l, rfl, hS, hne, fun M hM hmax => ⟨.int (k : Int), rfl, M, (k : Int), rfl, rfl, ?_⟩⟩
            refine qq (decide (M ≤ (k : Int))) ⟨fun z => ?_, fun z => ?_⟩ H2 sm
            · have hk := of_decide_eq_true z
              refine iff.mpr ⟨by show ((0 : Nat) : Int) + _ = 0; omega, hpos, fun k' z' x hx => ?_⟩
              cases z'
              have := hmax x hx
              omega
            · exact decide_eq_true ((iff.mp z).2.2 k rfl M hM)
    · have hrow' : isRowB z = false := by simpa using hrow
      rw [hrow']
      refine iteT ?_
      have e : hillB c z = false := by
        unfold hillB
        rw [hrow', Bool.false_and]
      have := q H1 s1
      rw [e] at this
      exact this
end
end Hr
namespace Hr
open PySem PySem.Spec PyProof.Rows L2
theorem sgn_sum : ∀ l : List Bool, ((l.map sgn).map (·.length)).sum = l.length
  | [] => rfl
  | b :: r => by
    rw [List.map_cons, List.map_cons, List.sum_cons, sgn_sum r, List.length_cons]
    show 1 + _ = _
    omega
theorem join_signs (l : List Bool) : Txt.join ("" : Str) (l.map sgn) = txt l := by
  have h := SX.join_S [] (l.map fun b => [code b])
  have e1 : (l.map fun b => [code b]).map SX.S = l.map sgn := by
    rw [List.map_map]
    rfl
  rw [e1] at h
  have e2 : ∀ l : List Bool, TL.joinL [] (l.map fun b => [code b]) = l.map code := by
    intro l
    induction l with
    | nil => rfl
    | cons b l ih =>
      cases l with
      | nil => rfl
      | cons b2 l =>
        show [code b] ++ ([] ++ TL.joinL [] ((b2 :: l).map fun b => [code b])) = _
        rw [ih]
        rfl
  rw [e2] at h
  rw [eE]
  exact h
end Hr
/-! ### ranks -/
namespace Hr
open PySem PySem.Spec PyProof.Rows L2
theorem scChHill : FnScope ["row", "ceiling"] ["row", "ceiling"] (defScope sChHill) := ⟨rfl, rfl, rfl, by decide +kernel, rfl, by decide +kernel, by decide +kernel⟩
theorem scRank : FnScope ["row", "ceiling"] ["row", "ceiling"] (defScope sRank) := ⟨rfl, rfl, rfl, by decide +kernel, rfl, by decide +kernel, by decide +kernel⟩
theorem scRowAt : FnScope ["n", "r", "ceiling", "table"] ["n", "r", "ceiling"] (defScope sRowAt) := ⟨rfl, rfl, rfl, by decide +kernel, rfl, by decide +kernel, by decide +kernel⟩
theorem scSignAt : FnScope ["n", "r", "place", "ceiling", "row"] ["n", "r", "place", "ceiling"] (defScope sSignAt) := ⟨rfl, rfl, rfl, by decide +kernel, rfl, by decide +kernel, by decide +kernel⟩
theorem scNext : FnScope ["row", "ceiling"] ["row", "ceiling"] (defScope sNext) := ⟨rfl, rfl, rfl, by decide +kernel, rfl, by decide +kernel, by decide +kernel⟩
theorem scAhead : FnScope ["row", "ceiling"] ["row", "ceiling"] (defScope sAhead) := ⟨rfl, rfl, rfl, by decide +kernel, rfl, by decide +kernel, by decide +kernel⟩
theorem scBeside : FnScope ["row", "ceiling", "step", "table", "r"] ["row", "ceiling", "step"] (defScope sBeside) := ⟨rfl, rfl, rfl, by decide +kernel, rfl, by decide +kernel, by decide +kernel⟩
theorem scNumOf : FnScope ["row", "table", "r", "height", "left", "sign"] ["row", "table"] (defScope sNumOf) := ⟨rfl, rfl, rfl, by decide +kernel, rfl, by decide +kernel, by decide +kernel⟩
theorem scOfNum : FnScope ["r", "table", "signs", "height", "ahead", "left", "down"] ["r", "table"] (defScope sOfNum) := ⟨rfl, rfl, rfl, by decide +kernel, rfl, by decide +kernel, by decide +kernel⟩
theorem scDown : FnScope ["table", "height", "left"] ["table", "height", "left"] (defScope sDown) := ⟨rfl, rfl, rfl, by decide +kernel, rfl, by decide +kernel, by decide +kernel⟩
theorem scCount : FnScope ["table"] ["table"] (defScope sCount) := ⟨rfl, rfl, rfl, by decide +kernel, rfl, by decide +kernel, by decide +kernel⟩
theorem args_pik {p : Addr} {x y : Int} {h k : Nat} (hx : x = (h : Int)) (hy : y = (k : Int)) : [V.ref p, V.int x, V.int y] = [V.ref p, V.int (h : Int), V.int (k : Int)] := by
  rw [hx, hy]
section
variable {P : Program} {w : World} {K : PySem.W.Frag} {mg : Str → Option Value} {base : Heap}
def spDown : Sp := fun vs H Q _ => ∃ (p : Addr) (n T h k : Nat), vs = [.ref p, .int (h : Int), .int (k : Int)] ∧ Tbl H p n T ∧ k ≤ n ∧ h ≤ T + 1 ∧ Q (.int ((dn T k h : Nat) : Int)) H
theorem cal_down (D : Def K mg "ways_down" sDown ["table", "height", "left"]) : Cal K mg CX0 P w base 1 "ways_down" [] spDown := by
  refine D.cal scDown (fun vs H Q E h => ?_) (fun f cdv A outer s H vs Q E hr h => ?_)
  · obtain ⟨p, n, T, h, k, rfl, _⟩ := h
    rfl
  · obtain ⟨p, n, T, h, k, rfl, ⟨qa, e1, e2⟩, hk, hh, q⟩ := h
    refine ⟨_, pss_one (ps_ret (pe_ifExp (pt_cmpR op_gt (pv 1) pe_int (nomark _)) (pe_ix ix_list (pe_ix ix_list (pv 0) (pv 2) (fun _ _ => rfl)) (pe_op op_sub (pv 1) pe_int) (fun _ _ => rfl)) pe_int)), ?_⟩
    refine ⟨.int (h : Int), rfl, (h : Int), 0, rfl, rfl, _, rfl, ite2 (fun e => ?_) (fun e => ?_)⟩
    · have e0 : 0 < h := by
        have := of_decide_eq_true e
        omega
      refine ⟨.ref p, rfl, .int (k : Int), rfl, p, _, _, .ref (qa k), rfl, rfl, .inl (.inl e1), at_of rfl (range_get qa hk), ?_⟩
      refine ⟨.int (h : Int), rfl, (h : Int), 1, rfl, rfl, qa k, _, _, .int ((W T k (h - 1) : Nat) : Int), rfl, rfl, .inl (.inl (e2 k hk)), at_of (j := h - 1) (by omega) ?_, ?_⟩
      · rw [List.getElem?_map, rowW_get (by omega)]
        rfl
      · unfold dn at q
        rw [if_neg (by omega)] at q
        exact q
    · have e0 : h = 0 := by
        have : ¬ (0 : Int) < (h : Int) := fun z => e (decide_eq_true z)
        omega
      unfold dn at q
      rw [if_pos e0] at q
      exact q
def spCount : Sp := fun vs H Q _ => ∃ (p : Addr) (n T : Nat), vs = [.ref p] ∧ Tbl H p n T ∧ Q (.int ((W T n 0 : Nat) : Int)) H
theorem cal_count (D : Def K mg "row_count" sCount ["table"]) : Cal K mg CX0 P w base 1 "row_count" [] spCount := by
  refine D.cal scCount (fun vs H Q E h => ?_) (fun f cdv A outer s H vs Q E hr h => ?_)
  · obtain ⟨p, n, T, rfl, _⟩ := h
    rfl
  · obtain ⟨p, n, T, rfl, ⟨qa, e1, e2⟩, q⟩ := h
    refine ⟨_, pss_one (ps_ret (pe_ix ix_list (pe_ix ix_list (pv 0) (pe_un un_neg pe_int) (fun _ _ => rfl)) pe_int (fun _ _ => rfl))), ?_⟩
    have eL : ((List.range (n + 1)).map fun k => V.ref (qa k)) = ((List.range n).map fun k => V.ref (qa k)) ++ [V.ref (qa n)] := by
      rw [List.range_succ, List.map_append]
      rfl
    refine ⟨.ref p, rfl, 1, rfl, p, _, -1, .ref (qa n), rfl, rfl, .inl (.inl e1), by rw [eL]; exact atI_last _ _, ?_⟩
    refine ⟨qa n, _, 0, .int ((W T n 0 : Nat) : Int), rfl, rfl, .inl (.inl (e2 n (Nat.le_refl _))), at_of (j := 0) rfl ?_, q⟩
    rw [List.getElem?_map, rowW_get (Nat.zero_le _)]
    rfl
def spNumOf : Sp := fun vs H Q _ => ∃ (l : List Bool) (p : Addr) (T : Nat), vs = [.str (txt l), .ref p] ∧ Tbl H p l.length T ∧ okb (some T) 0 l = true ∧ l.length ≤ 1000 ∧ Q (.int ((rankOf T 0 l : Nat) : Int)) H
theorem cal_numOf (D : Def K mg "number_of" sNumOf ["row", "table"]) (C : Cal K mg CX0 P w base 1 "ways_down" [] spDown) (mlen : mg "len" = none) {t1 : Tok} (gU : mg "UP" = some (.str "u" t1)) : Cal K mg CX0 P w base 2 "number_of" [] spNumOf := by
  refine D.cal scNumOf (fun vs H Q E h => ?_) (fun f cdv A outer s H vs Q E hr h => ?_)
  · obtain ⟨l, p, T, rfl, _⟩ := h
    rfl
  · obtain ⟨l, p, T, rfl, tb, ok, hl, q⟩ := h
    have nd := scNumOf.nd
    refine ⟨_, pss_cons (ps_set (i := 2) nd rfl (.inl rfl) pe_int) (pss_cons (ps_set (i := 3) nd rfl (.inl rfl) pe_int)
      (pss_cons (ps_set (i := 4) nd rfl (.inl rfl) (pe_callB call_len_str (by rfl) mlen PySem.boot_len (pa_cons (pv 0) pa_nil)))
      (pss_cons (ps_for PassesOwn.never rfl (pi_str (pv 0)) (pg_name (i := 5) nd rfl (.inl rfl))
        (pss_cons (ps_aug (i := 4) nd rfl (.inl rfl) pe_int ip_sub)
        (pss_one (ps_if (pt_cmpR op_eq (pv 5) (pe_glob (v := .str "u") (by rfl) gU ⟨_, rfl⟩) (nomark _))
          (pss_cons (ps_aug (i := 2) nd rfl (.inl rfl) (pe_c C hr (pa_cons (pv 1) (pa_cons (pv 3) (pa_cons (pv 4) pa_nil)))) ip_add)
            (pss_one (ps_aug (i := 3) nd rfl (.inl rfl) pe_int ip_add)))
          (pss_one (ps_aug (i := 3) nd rfl (.inl rfl) pe_int ip_sub))))))
      (pss_one (ps_ret (pv 2)))))), ?_⟩
    refine ⟨.str (txt l), rfl, txt l, rfl, sz (by rw [txt_len]; omega), ?_⟩
    refine ⟨.str (txt l), rfl, txt l, rfl, ?_⟩
    refine for_it walk_str (fun i σ H' => ∃ (ri hi li : Int) (r h : Nat) (y : Option V), σ = [some (.str (txt l)), some (.ref p), some (.int ri), some (.int hi), some (.int li), y] ∧ H' = H ∧
      r + rankOf T h (l.drop i) = rankOf T 0 l ∧ okb (some T) h (l.drop i) = true ∧ h ≤ T ∧ ri = (r : Int) ∧ hi = (h : Int) ∧ li = ((l.drop i).length : Int)) ?_ (fun _ _ _ _ _ => trivial) ?_ ?_
    · refine ⟨_, _, _, 0, 0, none, rfl, rfl, Nat.zero_add _, ok, Nat.zero_le _, rfl, rfl, ?_⟩
      rw [txt_len]
      rfl
    · rintro i x σ H2 H3 hi ⟨ri, hh, li, r, h, y, rfl, rfl, e1, e2, hT, er, eh, el⟩ ⟨rfl, c, hc, rfl⟩
      rw [txt_at] at hc
      obtain ⟨b, hb, rfl⟩ := Option.map_eq_some_iff.mp hc
      have hil : i < l.length := (List.getElem?_eq_some_iff.mp hb).1
      have ed : l.drop i = b :: l.drop (i + 1) := by
        rw [List.drop_eq_getElem_cons hil]
        congr 1
        exact (List.getElem?_eq_some_iff.mp hb).2
      rw [ed] at e1 e2 el
      rw [List.length_cons] at el
      refine ⟨_, rfl, _, 1, rfl, rfl, ?_⟩
      refine ⟨_, rfl, rfl, decide (code b = 117), congrArg V.bl (is_u _), ?_⟩
      rw [code_u]
      have hlen : (l.drop (i + 1)).length ≤ l.length := by rw [List.length_drop]; omega
      cases b with
      | true =>
        obtain ⟨a1, a2⟩ := okb_up e2
        have a1 : h < T := of_decide_eq_true a1
        refine iteT ?_
        refine ⟨_, rfl, .ref p, rfl, _, rfl, _, rfl, p, l.length, T, h, (l.drop (i + 1)).length, args_pik eh (by show li - 1 = _; omega), tb, hlen, by omega, _, _, rfl, rfl, _, rfl, _, 1, rfl, rfl, _, _, _, r + dn T (l.drop (i + 1)).length h, h + 1, _, rfl, rfl, ?_, a2, a1, ?_, ?_, ?_⟩
        · rw [← e1]
          show _ = r + (dn T (l.drop (i + 1)).length h + rankOf T (h + 1) (l.drop (i + 1)))
          omega
        · show ri + ((dn T (l.drop (i + 1)).length h : Nat) : Int) = _
          omega
        · show hh + 1 = _
          omega
        · show li - 1 = _
          omega
      | false =>
        obtain ⟨a1, a2⟩ := okb_down e2
        refine iteF ?_
        refine ⟨_, rfl, _, 1, rfl, rfl, _, _, _, r, h - 1, _, rfl, rfl, e1, a2, by omega, er, ?_, ?_⟩
        · show hh - 1 = _
          omega
        · show li - 1 = _
          omega
    · rintro σ H2 ⟨ri, hh, li, r, h, y, rfl, rfl, e1, e2, hT, er, eh, el⟩
      refine ⟨_, rfl, ?_⟩
      have e : l.drop (txt l).cps.size = [] := List.drop_eq_nil_of_le (by rw [txt_size]; exact Nat.le_refl _)
      rw [e] at e1
      have e1 : r = rankOf T 0 l := e1
      rw [er, e1]
      exact q
def spOfNum : Sp := fun vs H Q _ => ∃ (r n T : Nat) (p : Addr), vs = [.int (r : Int), .ref p] ∧ Tbl H p n T ∧ r < W T n 0 ∧ n ≤ 1000 ∧ ∀ H', Same H H' → Q (.str (txt (unrank T n 0 r))) H'
theorem cal_ofNum (D : Def K mg "row_of_number" sOfNum ["r", "table"]) (C : Cal K mg CX0 P w base 1 "ways_down" [] spDown) (mlen : mg "len" = none) (mrange : mg "range" = none) (mrev : mg "reversed" = none) {t1 t2 : Tok} (gU : mg "UP" = some (.str "u" t1)) (gD : mg "DOWN" = some (.str "d" t2)) :
    Cal K mg CX0 P w base 2 "row_of_number" [] spOfNum := by
  refine D.cal scOfNum (fun vs H Q E h => ?_) (fun f cdv A outer s H vs Q E hr h => ?_)
  · obtain ⟨r, n, T, p, rfl, _⟩ := h
    rfl
  · obtain ⟨r, n, T, p, rfl, tb, hr0, hn, q⟩ := h
    have nd := scOfNum.nd
    refine ⟨_, pss_cons (ps_set (i := 2) nd rfl (.inl rfl) (pe_lst pa_nil)) (pss_cons (ps_set (i := 3) nd rfl (.inl rfl) pe_int) (pss_cons (ps_set (i := 4) nd rfl (.inl rfl) (pv 0))
      (pss_cons (ps_for PassesOwn.never rfl (pi_revR (by rfl) mrev (prg_1 (by rfl) mrange (pe_op op_sub (pe_callB call_len_seq (by rfl) mlen PySem.boot_len (pa_cons (pv 1) pa_nil)) pe_int))) (pg_name (i := 5) nd rfl (.inl rfl))
        (pss_cons (ps_set (i := 6) nd rfl (.inl rfl) (pe_c C hr (pa_cons (pv 1) (pa_cons (pv 3) (pa_cons (pv 5) pa_nil)))))
        (pss_one (ps_if (pt_cmpR op_lt (pv 4) (pv 6) (nomark _))
          (pss_cons (ps_expr (pe_bm PySem.F.plainAttrs_list PySem.F.slot_list_append PySem.F.type_list_append mt_append (pv 2) (pa_cons (pe_glob (v := .str "d") (by rfl) gD ⟨_, rfl⟩) pa_nil)))
            (pss_one (ps_aug (i := 3) nd rfl (.inl rfl) pe_int ip_sub)))
          (pss_cons (ps_aug (i := 4) nd rfl (.inl rfl) (pv 6) ip_sub)
            (pss_cons (ps_expr (pe_bm PySem.F.plainAttrs_list PySem.F.slot_list_append PySem.F.type_list_append mt_append (pv 2) (pa_cons (pe_glob (v := .str "u") (by rfl) gU ⟨_, rfl⟩) pa_nil)))
            (pss_one (ps_aug (i := 3) nd rfl (.inl rfl) pe_int ip_add))))))))
      (pss_one (ps_ret (pe_join pe_str (pv 2))))))), ?_⟩
    refine ⟨Nat.zero_le _, fun o no => ?_⟩
    have s1 := same_upd (o := .lst []) no
    refine ⟨_, rfl, ?_⟩
    have tb1 := tb.same s1
    obtain ⟨qa, e1, e2⟩ := tb1
    have hlen : ((List.range (n + 1)).map fun k => V.ref (qa k)).length = n + 1 := by rw [List.length_map, List.length_range]
    refine ⟨.ref p, rfl, p, _, rfl, .inl (.inl (.inl e1)), _, 1, rfl, rfl, _, rfl, ?_⟩
    rw [hlen]
    have e0 : ((((n + 1 : Nat) : Int) - 1 - 0).toNat) = n := by omega
    refine ⟨by decide, by decide, by omega, by omega, ?_⟩
    rw [e0]
    refine for_it walk_rangeC (fun i σ H' => ∃ (hh ai : Int) (pre : List Bool) (h a : Nat) (y5 y6 : Option V), σ = [some (.int (r : Int)), some (.ref p), some (.ref o), some (.int hh), some (.int ai), y5, y6] ∧ Same H H' ∧
      H' o = some (.lst (pre.map fun b => V.str (sgn b))) ∧ pre.length = i ∧ pre ++ unrank T (n - i) h a = unrank T n 0 r ∧ a < W T (n - i) h ∧ h ≤ T ∧ hh = (h : Int) ∧ ai = (a : Int)) ?_ (fun _ _ _ _ _ => trivial) ?_ ?_
    · exact ⟨0, _, [], 0, r, none, none, rfl, s1, upd_same, rfl, rfl, hr0, Nat.zero_le _, rfl, rfl⟩
    · rintro i x σ H2 H3 hi ⟨hh, ai, pre, h, a, y5, y6, rfl, sm, eo, el, eu, ha, hT, eh, ea⟩ ⟨rfl, rfl⟩
      have en : n - i = (n - (i + 1)) + 1 := by omega
      rw [en] at eu ha
      rw [unrank_succ] at eu
      rw [W_succ] at ha
      have hpl : (pre.map fun b => V.str (sgn b)).length < sizeLine := szl (by rw [List.length_map]; omega)
      refine ⟨.ref p, rfl, .int hh, rfl, _, rfl, p, n, T, h, n - (i + 1), args_pik eh (by omega), tb.same sm, by omega, by omega, ?_⟩
      refine ⟨.int ai, rfl, _, rfl, _, _, rfl, rfl, _, rfl, ite2 (fun e => ?_) (fun e => ?_)⟩
      · have e0 : a < dn T (n - (i + 1)) h := by
          have := of_decide_eq_true e
          omega
        have h0 : h ≠ 0 := fun z => by
          unfold dn at e0
          rw [if_pos z] at e0
          omega
        rw [if_pos e0] at eu
        have ha' : a < W T (n - (i + 1)) (h - 1) := by
          unfold dn at e0
          rw [if_neg h0] at e0
          exact e0
        refine ⟨.ref o, rfl, .inl ⟨rfl, _, .inl (.inl eo)⟩, o, _, _, rfl, rfl, eo, hpl, ?_⟩
        refine ⟨_, rfl, _, 1, rfl, rfl, _, _, pre ++ [false], h - 1, a, _, _, rfl, same_updN sm no, ?_, ?_, ?_, ha', by omega, ?_, ea⟩
        · rw [upd_same, List.map_append, ← sgn_d]
          rfl
        · rw [List.length_append, el]
          rfl
        · rw [List.append_assoc]
          exact eu
        · show hh - 1 = _
          omega
      · have e0 : ¬ a < dn T (n - (i + 1)) h := fun z => e (decide_eq_true (by omega))
        rw [if_neg e0] at eu
        have hT' : h < T := by
          by_cases z : h < T
          · exact z
          · rw [if_neg z] at ha
            omega
        rw [if_pos hT'] at ha
        refine ⟨_, rfl, _, rfl, _, _, rfl, rfl, ?_⟩
        refine ⟨.ref o, rfl, .inl ⟨rfl, _, .inl (.inl eo)⟩, o, _, _, rfl, rfl, eo, hpl, ?_⟩
        refine ⟨_, rfl, _, 1, rfl, rfl, _, _, pre ++ [true], h + 1, a - dn T (n - (i + 1)) h, _, _, rfl, same_updN sm no, ?_, ?_, ?_, by omega, by omega, ?_, ?_⟩
        · rw [upd_same, List.map_append, ← sgn_u]
          rfl
        · rw [List.length_append, el]
          rfl
        · rw [List.append_assoc]
          exact eu
        · show hh + 1 = _
          omega
        · show ai - ((dn T (n - (i + 1)) h : Nat) : Int) = _
          omega
    · rintro σ H2 ⟨hh, ai, pre, h, a, y5, y6, rfl, sm, eo, el, eu, ha, hT, eh, ea⟩
      rw [Nat.sub_self] at eu
      have eu : pre = unrank T n 0 r := by
        rw [← eu]
        show pre = pre ++ []
        rw [List.append_nil]
      have em : (pre.map fun b => V.str (sgn b)) = (pre.map sgn).map V.str := by rw [List.map_map]; rfl
      rw [em] at eo
      refine ⟨⟨_, rfl⟩, .ref o, rfl, _, o, pre.map sgn, rfl, rfl, .inl (.inl (.inl eo)), ?_, ?_⟩
      · have := sgn_sum pre
        rw [this]
        show pre.length + _ * 0 ≤ 16777216
        omega
      · rw [join_signs, eu]
        exact q H2 sm
end
end Hr
namespace Hr
open PySem PySem.Spec PyProof.Rows L2
/-- a row's rank, how many there are, the row of a rank: of n ups under the ceiling c -/
def rk (c : Option Nat) (n : Nat) (l : List Bool) : Nat := rankOf (low n c) 0 l
def cntc (c : Option Nat) (n : Nat) : Nat := W (low n c) (2 * n) 0
def rowOf (c : Option Nat) (n r : Nat) : List Bool := unrank (low n c) (2 * n) 0 r
theorem Hill.low {c : Option Nat} {n : Nat} {l : List Bool} (h : Hill c n l) : okb (some (low n c)) 0 l = true := okb_low (by rw [h.2]; omega) h.1
theorem Hill.rk_lt {c : Option Nat} {n : Nat} {l : List Bool} (h : Hill c n l) : rk c n l < cntc c n := by
  have := rank_lt h.low
  rw [h.2] at this
  exact this
theorem Hill.back {c : Option Nat} {n : Nat} {l : List Bool} (h : Hill c n l) : rowOf c n (rk c n l) = l := by
  have := unrank_rank h.low
  rw [h.2] at this
  exact this
theorem rowOf_hill {c : Option Nat} {n r : Nat} (h : r < cntc c n) : Hill c n (rowOf c n r) := by
  obtain ⟨a, b, _⟩ := unrank_ok h
  exact ⟨okb_up_of a, b⟩
theorem rowOf_rk {c : Option Nat} {n r : Nat} (h : r < cntc c n) : rk c n (rowOf c n r) = r := (unrank_ok h).2.2
theorem rowOf_len {c : Option Nat} {n r : Nat} (h : r < cntc c n) : (rowOf c n r).length = 2 * n := (rowOf_hill h).2
def nextV (c : Option Nat) (n : Nat) (l : List Bool) : V := if rk c n l + 1 < cntc c n then .str (txt (rowOf c n (rk c n l + 1))) else .non
def aheadV (c : Option Nat) (n : Nat) (l : List Bool) : V := if 0 < rk c n l then .str (txt (rowOf c n (rk c n l - 1))) else .non
theorem half_len (n : Nat) {z : Str} (h : z.length = 2 * n) : (z.length : Int) / 2 = (n : Int) := by
  rw [h]
  omega
def spRank : Sp := fun vs H Q _ => ∃ (l : List Bool) (c : Option Nat) (n : Nat), vs = [.str (txt l), cV c] ∧ cOk 200 c ∧ Hill c n l ∧ n ≤ 200 ∧ ∀ H', Same H H' → Q (.int ((rk c n l : Nat) : Int)) H'
theorem args_ic {x : Int} {c : Option Nat} {n : Nat} (h : x = (n : Int)) : [V.int x, cV c] = [V.int (n : Int), cV c] := by rw [h]
end Hr
namespace Hr
open PySem PySem.Spec PyProof.Rows L2
section
variable {P : Program} {w : World} {K : PySem.W.Frag} {mg : Str → Option Value} {base : Heap} {CC CN CR CP : Addr}
def spChHillX (CN : Addr) : Sp := fun vs H Q E => ∃ (z : Str) (c : Option Nat), vs = [.str z, cV c] ∧ z.length ≤ 1000 ∧ (hillB c z = true → ∀ H', Same H H' → Q .non H') ∧ (hillB c z = false → ∀ H', Same H H' → E (.ref CN) none H')
theorem cal_chHillX (er : Err K mg "NoRow" CN) (D : DefD K mg "check_hill" sChHill ["row", "ceiling"]) (C : Cal K mg CX0 P w base 3 "is_hill" [] spIsHill) : Cal K mg (L2.CX P w) P w base 4 "check_hill" [] (spChHillX CN) ∧ Cal K mg (L2.CX P w) P w base 4 "check_hill" [.non] (spChHillX CN) := by
  refine D.okX scChHill (fun vs H Q E h => ?_) (fun f cdv A outer s H vs Q E hr h => ?_)
  · obtain ⟨l, c, rfl, _⟩ := h
    rfl
  · obtain ⟨z, c, rfl, hz, q, qe⟩ := h
    refine ⟨_, pss_one (ps_if (pt_not (pt_val (pe_c C hr (pa_cons (pv 0) (pa_cons (pv 1) pa_nil))))) (pss_one (ps_raise rfl (takes_of rfl rfl rfl rfl) (pmk_own PySem.F.excBase_ValueError er.x er.g er.k (raises_own er.b er.t) rfl))) pss_nil), ?_⟩
    refine ⟨.str z, rfl, cV c, rfl, z, c, rfl, hz, fun H' sm => ⟨hillB c z, rfl, ?_⟩⟩
    cases hh : hillB c z with
    | true =>
      refine iteF ?_
      exact q hh H' sm
    | false =>
      refine iteT ?_
      exact qe hh H' sm
/-- what rank, next_row and ahead_row refuse -/
def Refuse (CC CN : Addr) (z : Str) (cv : V) (H : Hp) (E : XK) : Prop := (ceilB cv = false → E (.ref CC) none H) ∧ ∀ c, cv = cV c → cOk 200 c → hillB c z = false → ∀ H', Same H H' → E (.ref CN) none H'
def spRankX (CC CN : Addr) : Sp := fun vs H Q E => ∃ (z : Str) (cv : V), vs = [.str z, cv] ∧ flatV cv = true ∧ z.length ≤ 1000 ∧ Refuse CC CN z cv H E ∧ (∀ c, cv = cV c → cOk 200 c → hillB c z = true → spRank [.str z, cv] H Q E0)
theorem cal_rankX (D : DefD K mg "rank" sRank ["row", "ceiling"]) (C1 : Cal K mg (L2.CX P w) P w base 3 "check_ceiling" [] (spChCeiX CC)) (C2 : Cal K mg (L2.CX P w) P w base 4 "check_hill" [] (spChHillX CN)) (C3 : Cal K mg CX0 P w base 3 "hill_table" [] spHill) (C4 : Cal K mg CX0 P w base 2 "number_of" [] spNumOf) (mlen : mg "len" = none) :
    Cal K mg (L2.CX P w) P w base 5 "rank" [] (spRankX CC CN) := by
  refine (D.okX scRank (fun vs H Q E h => ?_) (fun f cdv A outer s H vs Q E hr h => ?_)).1
  · obtain ⟨z, cv, rfl, _⟩ := h
    rfl
  · obtain ⟨z, cv, rfl, hcv, hz, ⟨re, rn⟩, q⟩ := h
    refine ⟨_, pss_cons (ps_expr (pe_cX C1 hr (takes_of rfl rfl rfl rfl) (pa_cons (pv 1) pa_nil))) (pss_cons (ps_expr (pe_cX C2 hr (takes_of rfl rfl rfl rfl) (pa_cons (pv 0) (pa_cons (pv 1) pa_nil))))
      (pss_one (ps_ret (pe_c C4 hr (pa_cons (pv 0) (pa_cons (pe_c C3 hr (pa_cons (pe_op op_fdiv (pe_callB call_len_str (by rfl) mlen PySem.boot_len (pa_cons (pv 0) pa_nil)) pe_int) (pa_cons (pv 1) pa_nil))) pa_nil)))))), ?_⟩
    refine ⟨cv, rfl, cv, rfl, hcv, fun hk => ?_, re⟩
    obtain ⟨c, rfl, hc⟩ := ceilB_of hk
    refine ⟨.str z, rfl, cV c, rfl, z, c, rfl, hz, fun hh H1 s1 => ?_, fun hh => rn c rfl hc hh⟩
    obtain ⟨l, c', n, e, hc', hh', hn, q2⟩ := q c rfl hc hh
    obtain ⟨rfl, e2⟩ : z = txt l ∧ cV c = cV c' := by simpa using e
    have hz : (txt l).length = 2 * n := by rw [txt_len, hh'.2]
    refine ⟨.str (txt l), rfl, .str (txt l), rfl, txt l, rfl, sz (by rw [hz]; omega), _, 2, rfl, rfl, ⟨by decide, by decide⟩, cV c, rfl, n, c', by rw [e2]; exact args_ic (half_len n hz), by omega, fun H2 p s2 np tb => ?_⟩
    rw [← hh'.2] at tb
    exact ⟨l, p, low n c', rfl, tb, hh'.low, by rw [hh'.2]; omega, q2 H2 (s1.trans s2)⟩
def spBesideX (CC CN : Addr) : Sp := fun vs H Q E => ∃ (z : Str) (cv : V) (st : Int), vs = [.str z, cv, .int st] ∧ flatV cv = true ∧ z.length ≤ 1000 ∧ Refuse CC CN z cv H E ∧ (∀ c, cv = cV c → cOk 200 c → hillB c z = true → ∃ (l : List Bool) (n : Nat), z = txt l ∧ Hill c n l ∧ n ≤ 200 ∧ ∀ H' v, Same H H' → Q v H')
theorem cal_besideX (D : Def K mg "row_beside" sBeside ["row", "ceiling", "step"]) (C1 : Cal K mg (L2.CX P w) P w base 3 "check_ceiling" [] (spChCeiX CC)) (C2 : Cal K mg (L2.CX P w) P w base 4 "check_hill" [] (spChHillX CN)) (C3 : Cal K mg CX0 P w base 3 "hill_table" [] spHill) (C4 : Cal K mg CX0 P w base 2 "number_of" [] spNumOf)
    (C5 : Cal K mg CX0 P w base 1 "is_number" [.int 0] spIsNumV) (C6 : Cal K mg CX0 P w base 2 "row_of_number" [] spOfNum) (C7 : Cal K mg CX0 P w base 1 "row_count" [] spCount) (mlen : mg "len" = none) : Cal K mg (L2.CX P w) P w base 5 "row_beside" [] (spBesideX CC CN) := by
  refine D.calX scBeside (fun vs H Q E h => ?_) (fun f cdv A outer s H vs Q E hr h => ?_)
  · obtain ⟨z, cv, st, rfl, _⟩ := h
    rfl
  · obtain ⟨z, cv, st, rfl, hcv, hz, ⟨re, rn⟩, q⟩ := h
    have nd := scBeside.nd
    refine ⟨_, pss_cons (ps_expr (pe_cX C1 hr (takes_of rfl rfl rfl rfl) (pa_cons (pv 1) pa_nil))) (pss_cons (ps_expr (pe_cX C2 hr (takes_of rfl rfl rfl rfl) (pa_cons (pv 0) (pa_cons (pv 1) pa_nil))))
      (pss_cons (ps_set (i := 3) nd rfl (.inl rfl) (pe_c C3 hr (pa_cons (pe_op op_fdiv (pe_callB call_len_str (by rfl) mlen PySem.boot_len (pa_cons (pv 0) pa_nil)) pe_int) (pa_cons (pv 1) pa_nil))))
      (pss_cons (ps_set (i := 4) nd rfl (.inl rfl) (pe_op op_add (pe_c C4 hr (pa_cons (pv 0) (pa_cons (pv 3) pa_nil))) (pv 2)))
      (pss_cons (ps_if (pt_not (pt_val (pe_c C5 hr (pa_cons (pv 4) (pa_cons (pe_op op_sub (pe_c C7 hr (pa_cons (pv 3) pa_nil)) pe_int) pa_nil))))) (pss_one (ps_ret pe_non)) pss_nil)
      (pss_one (ps_ret (pe_c C6 hr (pa_cons (pv 4) (pa_cons (pv 3) pa_nil))))))))), ?_⟩
    refine ⟨cv, rfl, cv, rfl, hcv, fun hk => ?_, re⟩
    obtain ⟨c, rfl, hc⟩ := ceilB_of hk
    refine ⟨.str z, rfl, cV c, rfl, z, c, rfl, hz, fun hh H1 s1 => ?_, fun hh => rn c rfl hc hh⟩
    obtain ⟨l, n, rfl, hh', hn, q⟩ := q c rfl hc hh
    have hz : (txt l).length = 2 * n := by rw [txt_len, hh'.2]
    refine ⟨.str (txt l), rfl, txt l, rfl, sz (by rw [hz]; omega), _, 2, rfl, rfl, ⟨by decide, by decide⟩, cV c, rfl, n, c, args_ic (half_len n hz), by omega, fun H2 p s2 np tb => ?_⟩
    have tb' := tb
    rw [← hh'.2] at tb'
    refine ⟨.str (txt l), rfl, .ref p, rfl, l, p, low n c, rfl, tb', hh'.low, by rw [hh'.2]; omega, .int st, rfl, _, st, rfl, rfl, ?_⟩
    have sm := s1.trans s2
    refine ⟨_, rfl, .ref p, rfl, p, 2 * n, low n c, rfl, tb, _, 1, rfl, rfl, _, _, rfl, rfl, _, rfl, ?_⟩
    cases hb : numB (.int (((rankOf (low n c) 0 l : Nat) : Int) + st)) (((W (low n c) (2 * n) 0 : Nat) : Int) - 1) with
    | true =>
      refine iteF ?_
      obtain ⟨x, ex, hx⟩ := numB_of hb
      have ex := V.int.inj ex
      refine ⟨_, rfl, .ref p, rfl, x, 2 * n, low n c, p, ?_, tb, by omega, by omega, fun H3 s3 => q H3 _ (sm.trans s3)⟩
      show [V.int (((rankOf (low n c) 0 l : Nat) : Int) + st), V.ref p] = _
      rw [ex]
    | false =>
      refine iteT ?_
      exact q H2 _ sm
/-- next_row, ahead_row: refused, or some value -/
def spNextX (CC CN : Addr) : Sp := fun vs H Q E => ∃ (z : Str) (cv : V), vs = [.str z, cv] ∧ flatV cv = true ∧ z.length ≤ 1000 ∧ Refuse CC CN z cv H E ∧ (∀ c, cv = cV c → cOk 200 c → hillB c z = true → ∃ (l : List Bool) (n : Nat), z = txt l ∧ Hill c n l ∧ n ≤ 200 ∧ ∀ H' v, Same H H' → Q v H')
theorem cal_nextX (D : DefD K mg "next_row" sNext ["row", "ceiling"]) (C : Cal K mg (L2.CX P w) P w base 5 "row_beside" [] (spBesideX CC CN)) : Cal K mg (L2.CX P w) P w base 6 "next_row" [] (spNextX CC CN) := by
  refine (D.okX scNext (fun vs H Q E h => ?_) (fun f cdv A outer s H vs Q E hr h => ?_)).1
  · obtain ⟨z, cv, rfl, _⟩ := h
    rfl
  · obtain ⟨z, cv, rfl, hcv, hz, re, q⟩ := h
    refine ⟨_, pss_one (ps_ret (pe_cX C hr (takes_of rfl rfl rfl rfl) (pa_cons (pv 0) (pa_cons (pv 1) (pa_cons pe_int pa_nil))))), ?_⟩
    exact ⟨.str z, rfl, cv, rfl, z, cv, 1, rfl, hcv, hz, re, q⟩
theorem cal_aheadX (D : DefD K mg "ahead_row" sAhead ["row", "ceiling"]) (C : Cal K mg (L2.CX P w) P w base 5 "row_beside" [] (spBesideX CC CN)) : Cal K mg (L2.CX P w) P w base 6 "ahead_row" [] (spNextX CC CN) := by
  refine (D.okX scAhead (fun vs H Q E h => ?_) (fun f cdv A outer s H vs Q E hr h => ?_)).1
  · obtain ⟨z, cv, rfl, _⟩ := h
    rfl
  · obtain ⟨z, cv, rfl, hcv, hz, re, q⟩ := h
    refine ⟨_, pss_one (ps_ret (pe_cX C hr (takes_of rfl rfl rfl rfl) (pa_cons (pv 0) (pa_cons (pv 1) (pa_cons (pe_un un_neg pe_int) pa_nil))))), ?_⟩
    exact ⟨.str z, rfl, cv, rfl, 1, rfl, z, cv, -1, rfl, hcv, hz, re, q⟩
/-- row_at: refused for its numbers, for its rank; else the row -/
def RefuseAt (CC CR : Addr) (v r cv : V) (H : Hp) (E : XK) : Prop := (numB v 200 = false ∨ ceilB cv = false → E (.ref CC) none H) ∧
  ∀ (n : Nat) c, v = .int (n : Int) → cv = cV c → n ≤ 200 → cOk 200 c → numB r (((cntc c n : Nat) : Int) - 1) = false → ∀ H', Same H H' → E (.ref CR) none H'
def spRowAtX (CC CR : Addr) : Sp := fun vs H Q E => ∃ (v r cv : V), vs = [v, r, cv] ∧ flatV v = true ∧ flatV r = true ∧ flatV cv = true ∧ RefuseAt CC CR v r cv H E ∧
  ∀ (n k : Nat) c, v = .int (n : Int) → r = .int (k : Int) → cv = cV c → n ≤ 200 → cOk 200 c → k < cntc c n → ∀ H', Same H H' → Q (.str (txt (rowOf c n k))) H'
theorem cal_rowAtX (er : Err K mg "NoRank" CR) (D : DefD K mg "row_at" sRowAt ["n", "r", "ceiling"]) (C0 : Cal K mg (L2.CX P w) P w base 2 "check_number" [.int 0] (spChNumX CC)) (C1 : Cal K mg (L2.CX P w) P w base 3 "check_ceiling" [] (spChCeiX CC)) (C2 : Cal K mg CX0 P w base 1 "is_number" [.int 0] spIsNumV) (C3 : Cal K mg CX0 P w base 3 "hill_table" [] spHill)
    (C4 : Cal K mg CX0 P w base 2 "row_of_number" [] spOfNum) (C5 : Cal K mg CX0 P w base 1 "row_count" [] spCount) {t1 : Tok} (gM : mg "MOST_UPS" = some (.int 200 t1)) : Cal K mg (L2.CX P w) P w base 4 "row_at" [] (spRowAtX CC CR) := by
  refine (D.okX scRowAt (fun vs H Q E h => ?_) (fun f cdv A outer s H vs Q E hr h => ?_)).1
  · obtain ⟨v, r, cv, rfl, _⟩ := h
    rfl
  · obtain ⟨v, r, cv, rfl, hv, hrv, hcv, ⟨re, rr⟩, q⟩ := h
    have nd := scRowAt.nd
    refine ⟨_, pss_cons (ps_expr (pe_cX C0 hr (takes_of rfl rfl rfl rfl) (pa_cons (pv 0) (pa_cons (pe_glob (v := .int 200) (by rfl) gM ⟨_, rfl⟩) pa_nil)))) (pss_cons (ps_expr (pe_cX C1 hr (takes_of rfl rfl rfl rfl) (pa_cons (pv 2) pa_nil)))
      (pss_cons (ps_set (i := 3) nd rfl (.inl rfl) (pe_c C3 hr (pa_cons (pv 0) (pa_cons (pv 2) pa_nil))))
      (pss_cons (ps_if (pt_not (pt_val (pe_c C2 hr (pa_cons (pv 1) (pa_cons (pe_op op_sub (pe_c C5 hr (pa_cons (pv 3) pa_nil)) pe_int) pa_nil))))) (pss_one (ps_raise rfl (takes_of rfl rfl rfl rfl) (pmk_own PySem.F.excBase_ValueError er.x er.g er.k (raises_own er.b er.t) rfl))) pss_nil)
      (pss_one (ps_ret (pe_c C4 hr (pa_cons (pv 1) (pa_cons (pv 3) pa_nil)))))))), ?_⟩
    refine ⟨v, rfl, v, 200, rfl, hv, .inl rfl, fun hn => ?_, fun hn => re (.inl hn)⟩
    refine ⟨cv, rfl, cv, rfl, hcv, fun hk => ?_, fun hk => re (.inr hk)⟩
    obtain ⟨n, rfl, hn⟩ := numB_of hn
    obtain ⟨c, rfl, hc⟩ := ceilB_of hk
    refine ⟨.int (n : Int), rfl, cV c, rfl, n, c, rfl, by omega, fun H1 p s1 np tb => ?_⟩
    refine ⟨r, rfl, .ref p, rfl, p, 2 * n, low n c, rfl, tb, _, 1, rfl, rfl, r, _, rfl, hrv, _, rfl, ?_⟩
    cases hb : numB r (((W (low n c) (2 * n) 0 : Nat) : Int) - 1) with
    | true =>
      refine iteF ?_
      obtain ⟨x, rfl, hx⟩ := numB_of hb
      have hx' : x < cntc c n := by
        show x < W (low n c) (2 * n) 0
        omega
      exact ⟨_, rfl, .ref p, rfl, x, 2 * n, low n c, p, rfl, tb, hx', by omega, fun H2 s2 => q n x c rfl rfl rfl (by omega) hc hx' H2 (s1.trans s2)⟩
    | false =>
      refine iteT ?_
      exact rr n c rfl rfl (by omega) hc hb H1 s1
def spSignAtX (CC CR CP : Addr) : Sp := fun vs H Q E => ∃ (v r pl cv : V), vs = [v, r, pl, cv] ∧ flatV v = true ∧ flatV r = true ∧ flatV pl = true ∧ flatV cv = true ∧ RefuseAt CC CR v r cv H E ∧
  ∀ (n k : Nat) c, v = .int (n : Int) → r = .int (k : Int) → cv = cV c → n ≤ 200 → cOk 200 c → k < cntc c n → numB pl (((2 * n : Nat) : Int) - 1) = false ∧ ∀ H', Same H H' → E (.ref CP) none H'
theorem cal_signAtX (er : Err K mg "NoPlace" CP) (D : DefD K mg "sign_at" sSignAt ["n", "r", "place", "ceiling"]) (C1 : Cal K mg (L2.CX P w) P w base 4 "row_at" [] (spRowAtX CC CR)) (C2 : Cal K mg CX0 P w base 1 "is_number" [.int 0] spIsNumV) (mlen : mg "len" = none) : Cal K mg (L2.CX P w) P w base 5 "sign_at" [] (spSignAtX CC CR CP) := by
  refine (D.okX scSignAt (fun vs H Q E h => ?_) (fun f cdv A outer s H vs Q E hr h => ?_)).1
  · obtain ⟨v, r, pl, cv, rfl, _⟩ := h
    rfl
  · obtain ⟨v, r, pl, cv, rfl, hv, hrv, hpl, hcv, re, q⟩ := h
    have nd := scSignAt.nd
    refine ⟨_, pss_cons (ps_set (i := 4) nd rfl (.inl rfl) (pe_cX C1 hr (takes_of rfl rfl rfl rfl) (pa_cons (pv 0) (pa_cons (pv 1) (pa_cons (pv 3) pa_nil)))))
      (pss_cons (ps_if (pt_not (pt_val (pe_c C2 hr (pa_cons (pv 2) (pa_cons (pe_op op_sub (pe_callB call_len_str (by rfl) mlen PySem.boot_len (pa_cons (pv 4) pa_nil)) pe_int) pa_nil))))) (pss_one (ps_raise rfl (takes_of rfl rfl rfl rfl) (pmk_own PySem.F.excBase_ValueError er.x er.g er.k (raises_own er.b er.t) rfl))) pss_nil)
      pss_never), ?_⟩
    refine ⟨v, rfl, r, rfl, cv, rfl, v, r, cv, rfl, hv, hrv, hcv, re, fun n k c e1 e2 e3 hn hc hk H1 s1 => ?_⟩
    obtain ⟨hb, qe⟩ := q n k c e1 e2 e3 hn hc hk
    have hlen := rowOf_len hk
    refine ⟨pl, rfl, _, rfl, txt (rowOf c n k), rfl, sz (by rw [txt_len, hlen]; omega), _, 1, rfl, rfl, pl, _, rfl, hpl, _, rfl, ?_⟩
    have hb' : numB pl (((txt (rowOf c n k)).length : Int) - 1) = false := by
      rw [txt_len, hlen]
      exact hb
    rw [hb']
    refine iteT ?_
    exact qe H1 s1
end
end Hr
/-! ### which error it is -/
namespace Hr
open PySem PySem.Spec PyProof.Rows L2
section
variable {X : Cx}
/-- a call in a try's body -/
theorem pe_cT {k j : Nat} {x : Str} {sp : Sp} {W : WX} {e : Expr} {es : List Expr} {t : TA} {p pos : Pos} (c : Cal X.K X.mg (L2.CX X.prog X.w) X.prog X.w X.base k x [] sp) (hr : Room j X.A) (tk : Takes X W) (ha : PA X (e :: es) t) (hk : k ≤ j := by decide) (hg : Gl X x := by rfl)
    (hdb : (x == ("__debug__" : Str)) = false := by decide) (he : starEach (e :: es) X.env = (false, eval e X.env) :: starEach es X.env := by rfl) (hpl : (backTo pos (starEach es X.env)).any (·.1) = false := by rfl) :
    PE X (.Call (.Name x p) (e :: es) [] pos) (tCallS sp (WE W) t) := by
  obtain ⟨f, fd, ps, ds, F, hm, kp, b, d⟩ := c.ex
  cases d
  exact pe_callS F (hr.mono hk) hg hm kp b (fun σ => passAt tk σ) ha hdb he hpl
end
def errWords : List Str := ["row", "count", "rank", "place", "tree", "pairs", "turn", "text"]
def wordAt (k : Nat) : Str := errWords.getD k ""
theorem errWords_at {i : Nat} (h : i < 8) : (errWords.map V.str)[i]? = some (.str (wordAt i)) := by
  have h' : i < errWords.length := h
  unfold wordAt
  rw [List.getElem?_map, List.getElem?_eq_getElem h', List.getD_eq_getElem?_getD, List.getElem?_eq_getElem h']
  rfl
def flagsOf (k : Nat) : List V := (List.range 8).map fun j => V.bl (decide (j = k))
theorem flags_at {i k : Nat} (h : i < 8) : (flagsOf k)[i]? = some (.bl (decide (i = k))) := by
  unfold flagsOf
  rw [List.getElem?_map, List.getElem?_range h]
  rfl
theorem join_one (y w : Str) : Txt.join y [w] = w := by
  rw [TL.join_eq]
  rfl
/-- an error of the k-th class among the eight at cs -/
structure IsErr (K : PySem.W.Frag) (cs : Nat → Addr) (k : Nat) : Prop where
  lt : k < 8
  c : ExcC K (cs k)
  kit : ∀ j, j < 8 → PySem.W.kitOne K (.ref (cs k)) (.ref (cs j)) = some (decide (j = k))
  ve : PySem.W.kitOne K (.ref (cs k)) (.type "ValueError") = some true
theorem ref_only {C : Addr} : ∀ u, RelV (.ref C) u → u = Value.ref C := fun _ h => h
theorem scWord : FnScope ["_law_error", "_law_words", "_law_one", "_law_other", "_law_flags", "_law_word_here", "_law_flag"] ["_law_error"] (defScope sWord) := ⟨rfl, rfl, rfl, by decide +kernel, rfl, by decide +kernel, by decide +kernel⟩
section
variable {P : Program} {w : World} {K : PySem.W.Frag} {mg : Str → Option Value} {base : Heap} {cs : Nat → Addr}
def spWord (K : PySem.W.Frag) (cs : Nat → Addr) : Sp := fun vs H Q _ => ∃ (a : Addr) (k : Nat), vs = [.ref a] ∧ H a = some (ExT (.ref (cs k)) none a) ∧ IsErr K cs k ∧ ∀ H', Same H H' → Q (.str (wordAt k)) H'
theorem cal_word (D : Def K mg "_law_word" sWord ["_law_error"]) (g0 : mg "NoRow" = some (.ref (cs 0))) (g1 : mg "NoCount" = some (.ref (cs 1))) (g2 : mg "NoRank" = some (.ref (cs 2))) (g3 : mg "NoPlace" = some (.ref (cs 3)))
    (g4 : mg "NoTree" = some (.ref (cs 4))) (g5 : mg "NoPairs" = some (.ref (cs 5))) (g6 : mg "NoTurn" = some (.ref (cs 6))) (g7 : mg "NoText" = some (.ref (cs 7))) (misi : mg "isinstance" = none) (mzip : mg "zip" = none) : Cal K mg CX0 P w base 1 "_law_word" [] (spWord K cs) := by
  refine D.cal scWord (fun vs H Q E h => ?_) (fun f cdv A outer s H vs Q E hr h => ?_)
  · obtain ⟨a, k, rfl, _⟩ := h
    rfl
  · obtain ⟨a, k, rfl, ea, er, q⟩ := h
    have nd := scWord.nd
    refine ⟨_, (pss_cons (ps_set (i := 1) nd rfl (.inl rfl) (pe_lst (pa_cons pe_str (pa_cons pe_str (pa_cons pe_str (pa_cons pe_str (pa_cons pe_str (pa_cons pe_str (pa_cons pe_str (pa_cons pe_str pa_nil))))))))))
    (pss_cons (ps_set (i := 2) nd rfl (.inl rfl) (pe_lst (pa_cons (pe_callB call_isT (by rfl) misi (by decide +kernel) (pa_cons (pv 0) (pa_cons (pe_glob (v := .ref (cs 0)) (by rfl) g0 rfl) pa_nil)))
      (pa_cons (pe_callB call_isT (by rfl) misi (by decide +kernel) (pa_cons (pv 0) (pa_cons (pe_glob (v := .ref (cs 1)) (by rfl) g1 rfl) pa_nil)))
      (pa_cons (pe_callB call_isT (by rfl) misi (by decide +kernel) (pa_cons (pv 0) (pa_cons (pe_glob (v := .ref (cs 2)) (by rfl) g2 rfl) pa_nil)))
      (pa_cons (pe_callB call_isT (by rfl) misi (by decide +kernel) (pa_cons (pv 0) (pa_cons (pe_glob (v := .ref (cs 3)) (by rfl) g3 rfl) pa_nil))) pa_nil))))))
    (pss_cons (ps_set (i := 3) nd rfl (.inl rfl) (pe_lst (pa_cons (pe_callB call_isT (by rfl) misi (by decide +kernel) (pa_cons (pv 0) (pa_cons (pe_glob (v := .ref (cs 4)) (by rfl) g4 rfl) pa_nil)))
      (pa_cons (pe_callB call_isT (by rfl) misi (by decide +kernel) (pa_cons (pv 0) (pa_cons (pe_glob (v := .ref (cs 5)) (by rfl) g5 rfl) pa_nil)))
      (pa_cons (pe_callB call_isT (by rfl) misi (by decide +kernel) (pa_cons (pv 0) (pa_cons (pe_glob (v := .ref (cs 6)) (by rfl) g6 rfl) pa_nil))) pa_nil)))))
    (pss_cons (ps_set (i := 4) nd rfl (.inl rfl) (pe_op op_cat (pe_op op_cat (pv 2) (pv 3)) (pe_lst (pa_cons (pe_callB call_isT (by rfl) misi (by decide +kernel) (pa_cons (pv 0) (pa_cons (pe_glob (v := .ref (cs 7)) (by rfl) g7 rfl) pa_nil))) pa_nil))))
    (pss_one (ps_ret (pe_join pe_str (pe_lc (own := [("_law_word_here", 5), ("_law_flag", 6)]) (g := gTup K 2 (gCons (gName 5) (gCons (gName 6) gNil))) rfl nd (pi_zip (by rfl) mzip (pa_cons (pv 1) (pa_cons (pv 4) pa_nil)))
      (blkOk_by (N := ["_law_error", "_law_words", "_law_one", "_law_other", "_law_flags", "_law_word_here", "_law_flag"]) (sc := defScope sWord) (by decide +kernel))
      (fun _ _ _ _ _ => (pg_tup rfl (pgs_cons (pg_name (i := 5) nd rfl (Or.inl rfl) (Or.inr rfl)) (pgs_cons (pg_name (i := 6) nd rfl (Or.inl rfl) (Or.inr rfl)) pgs_nil)))) (fun _ _ _ _ _ => pts_one (pt_val (pv 6))) (fun _ _ _ _ _ => (pv 5)))))))))), ?_⟩
    have S8 : ∀ {n : Nat}, n ≤ 100 → n ≤ sizeLine := fun h => sz (by omega)
    refine ⟨S8 (show 8 ≤ 100 by decide), fun p1 n1 => ?_⟩
    have s1 := same_upd (o := .lst (errWords.map V.str)) n1
    refine ⟨.ref a, rfl, a, cs k, _, _, _, rfl, s1 _ _ ea, er.c, ref_only, er.kit 0 (by decide), .ref a, rfl, a, cs k, _, _, _, rfl, s1 _ _ ea, er.c, ref_only, er.kit 1 (by decide), .ref a, rfl, a, cs k, _, _, _, rfl, s1 _ _ ea, er.c, ref_only, er.kit 2 (by decide), .ref a, rfl, a, cs k, _, _, _, rfl, s1 _ _ ea, er.c, ref_only, er.kit 3 (by decide), S8 (show 4 ≤ 100 by decide), fun p2 n2 => ?_⟩
    have e12 : p1 ≠ p2 := ne_of_none upd_same n2
    have s2 := s1.trans (same_upd (o := .lst [.bl (decide (0 = k)), .bl (decide (1 = k)), .bl (decide (2 = k)), .bl (decide (3 = k))]) n2)
    refine ⟨.ref a, rfl, a, cs k, _, _, _, rfl, s2 _ _ ea, er.c, ref_only, er.kit 4 (by decide), .ref a, rfl, a, cs k, _, _, _, rfl, s2 _ _ ea, er.c, ref_only, er.kit 5 (by decide), .ref a, rfl, a, cs k, _, _, _, rfl, s2 _ _ ea, er.c, ref_only, er.kit 6 (by decide), S8 (show 3 ≤ 100 by decide), fun p3 n3 => ?_⟩
    have e23 : p2 ≠ p3 := ne_of_none upd_same n3
    have e13 : p1 ≠ p3 := ne_of_none (by rw [upd_ne e12]; exact upd_same) n3
    have s3 := s2.trans (same_upd (o := .lst [.bl (decide (4 = k)), .bl (decide (5 = k)), .bl (decide (6 = k))]) n3)
    refine ⟨.ref p2, rfl, .ref p3, rfl, p2, p3, _, _, rfl, rfl, (upd_ne e23).trans upd_same, upd_same, S8 (show 7 ≤ 100 by decide), fun p4 n4 => ?_⟩
    have e14 : p1 ≠ p4 := ne_of_none (by rw [upd_ne e13, upd_ne e12]; exact upd_same) n4
    have s4 := s3.trans (same_upd (o := .lst ([.bl (decide (0 = k)), .bl (decide (1 = k)), .bl (decide (2 = k)), .bl (decide (3 = k))] ++ [.bl (decide (4 = k)), .bl (decide (5 = k)), .bl (decide (6 = k))])) n4)
    refine ⟨.ref a, rfl, a, cs k, _, _, _, rfl, s4 _ _ ea, er.c, ref_only, er.kit 7 (by decide), S8 (show 1 ≤ 100 by decide), fun p5 n5 => ?_⟩
    have e15 : p1 ≠ p5 := ne_of_none (by rw [upd_ne e14, upd_ne e13, upd_ne e12]; exact upd_same) n5
    have e45 : p4 ≠ p5 := ne_of_none upd_same n5
    have s5 := s4.trans (same_upd (o := .lst [.bl (decide (7 = k))]) n5)
    refine ⟨p4, p5, _, _, rfl, rfl, (upd_ne e45).trans upd_same, upd_same, S8 (show 8 ≤ 100 by decide), fun p6 n6 => ?_⟩
    have s6 := s5.trans (same_upd (o := .lst (flagsOf k)) n6)
    have e16 : p1 ≠ p6 := ne_of_none (by rw [upd_ne e15, upd_ne e14, upd_ne e13, upd_ne e12]; exact upd_same) n6
    have w6 : ∀ o, upd (upd (upd (upd (upd (upd H p1 (.lst (errWords.map V.str))) p2 (.lst [.bl (decide (0 = k)), .bl (decide (1 = k)), .bl (decide (2 = k)), .bl (decide (3 = k))])) p3 (.lst [.bl (decide (4 = k)), .bl (decide (5 = k)), .bl (decide (6 = k))]))
        p4 (.lst ([.bl (decide (0 = k)), .bl (decide (1 = k)), .bl (decide (2 = k)), .bl (decide (3 = k))] ++ [.bl (decide (4 = k)), .bl (decide (5 = k)), .bl (decide (6 = k))]))) p5 (.lst [.bl (decide (7 = k))])) p6 o p1 = some (.lst (errWords.map V.str)) := fun o => by
      rw [upd_ne e16, upd_ne e15, upd_ne e14, upd_ne e13, upd_ne e12]
      exact upd_same
    refine ⟨⟨_, rfl⟩, .ref p1, rfl, .ref p6, rfl, p1, p6, errWords.map V.str, flagsOf k, rfl, .inl (.inl (w6 _)), .inl (.inl upd_same), fun D nD => ?_⟩
    have w6 := w6 (.lst (flagsOf k))
    have s6 : Same H (upd (upd (upd (upd (upd (upd H p1 (.lst (errWords.map V.str))) p2 (.lst [.bl (decide (0 = k)), .bl (decide (1 = k)), .bl (decide (2 = k)), .bl (decide (3 = k))])) p3 (.lst [.bl (decide (4 = k)), .bl (decide (5 = k)), .bl (decide (6 = k))]))
        p4 (.lst ([.bl (decide (0 = k)), .bl (decide (1 = k)), .bl (decide (2 = k)), .bl (decide (3 = k))] ++ [.bl (decide (4 = k)), .bl (decide (5 = k)), .bl (decide (6 = k))]))) p5 (.lst [.bl (decide (7 = k))])) p6 (.lst (flagsOf k))) := s6
    have f6 : upd (upd (upd (upd (upd (upd H p1 (.lst (errWords.map V.str))) p2 (.lst [.bl (decide (0 = k)), .bl (decide (1 = k)), .bl (decide (2 = k)), .bl (decide (3 = k))])) p3 (.lst [.bl (decide (4 = k)), .bl (decide (5 = k)), .bl (decide (6 = k))]))
        p4 (.lst ([.bl (decide (0 = k)), .bl (decide (1 = k)), .bl (decide (2 = k)), .bl (decide (3 = k))] ++ [.bl (decide (4 = k)), .bl (decide (5 = k)), .bl (decide (6 = k))]))) p5 (.lst [.bl (decide (7 = k))])) p6 (.lst (flagsOf k)) p6 = some (.lst (flagsOf k)) := upd_same
    refine lc_it (walk_zip (K := K) (a := p1) (b := p6) (xs := errWords.map V.str) (ys := flagsOf k) (n := 8) rfl) (fun i H' => Same H H' ∧ H' p1 = some (.lst (errWords.map V.str)) ∧ H' p6 = some (.lst (flagsOf k)) ∧ H' D = some (.lst (if k < i then [V.str (wordAt k)] else []))) ?_ ?_ ?_ ?_
    · have nD' := nD
      refine ⟨same_updN s6 (s6.free nD), ?_, ?_, ?_⟩
      · rw [upd_ne (ne_of_none w6 nD)]
        exact w6
      · rw [upd_ne (ne_of_none f6 nD)]
        exact f6
      · rw [upd_same, if_neg (Nat.not_lt_zero _)]
    · rintro i H' _ ⟨_, h1, h2, _⟩
      exact ⟨.inl (.inl h1), .inl (.inl h2)⟩
    · rintro i x H1 H2 hi ⟨sm, h1, h2, hD⟩ ⟨T, u, v, rfl, nT, rfl, eu, ev⟩
      have eu : u = .str (wordAt i) := by
        have : (errWords.map V.str)[i]? = some u := eu
        rw [errWords_at hi] at this
        exact (Option.some.inj this).symm
      have ev : v = .bl (decide (i = k)) := by
        have : (flagsOf k)[i]? = some v := ev
        rw [flags_at hi] at this
        exact (Option.some.inj this).symm
      subst eu ev
      have st := same_upd (o := .tup [.str (wordAt i), .bl (decide (i = k))]) nT
      refine ⟨T, _, rfl, .inl (.inl upd_same), rfl, _, _, rfl, _, _, rfl, rfl, rfl, ?_⟩
      refine ⟨_, rfl, decide (i = k), rfl, ?_⟩
      have g1 := st _ _ h1
      have g2 := st _ _ h2
      have gD := st _ _ hD
      have sT := sm.trans st
      generalize upd H1 T (.tup [.str (wordAt i), .bl (decide (i = k))]) = H3 at g1 g2 gD sT ⊢
      have nD0 : H D = none := s6.free nD
      have d1 : p1 ≠ D := ne_of_none w6 nD
      have d6 : p6 ≠ D := ne_of_none f6 nD
      by_cases hk : i = k
      · rw [decide_eq_true hk]
        refine iteT ?_
        rw [if_neg (by omega)] at gD
        refine ⟨_, rfl, [], gD, szl (show 0 < 1000000 by decide), same_updN sT nD0, by rw [upd_ne d1]; exact g1, by rw [upd_ne d6]; exact g2, ?_⟩
        rw [upd_same, if_pos (by omega), hk]
        rfl
      · rw [decide_eq_false hk]
        refine iteF ?_
        refine ⟨sT, g1, g2, ?_⟩
        rw [gD]
        by_cases h : k < i
        · rw [if_pos h, if_pos (by omega)]
        · rw [if_neg h, if_neg (by omega)]
    · rintro H1 ⟨sm, h1, h2, hD⟩
      rw [if_pos er.lt] at hD
      refine ⟨_, D, [wordAt k], rfl, rfl, .inl (.inl (.inl hD)), ?_, ?_⟩
      · show ((wordAt k).length + 0) + 1 * _ ≤ 16777216
        have : (wordAt k).length ≤ 5 := by
          have hk := er.lt
          have : ∀ k, k < 8 → (wordAt k).length ≤ 5 := by decide +kernel
          exact this k hk
        have e1 : (" " : Str).length = 1 := by decide +kernel
        rw [e1]
        omega
      · rw [join_one]
        exact q H1 sm
end
end Hr
/-! ### what is asked, and which refusal is due -/
namespace Hr
open PySem PySem.Spec PyProof.Rows L2
theorem scAsked : FnScope ["_law_way", "_law_one", "_law_two", "_law_three", "_law_four", "_law_found", "_law_error"] ["_law_way", "_law_one", "_law_two", "_law_three", "_law_four"] (defScope sAsked) := ⟨rfl, rfl, rfl, by decide +kernel, rfl, by decide +kernel, by decide +kernel⟩
theorem scIs : FnScope ["_law_way", "_law_handed", "_law_word_here", "_law_found"] ["_law_way", "_law_handed", "_law_word_here"] (defScope sIs) := ⟨rfl, rfl, rfl, by decide +kernel, rfl, by decide +kernel, by decide +kernel⟩
/-- the k-th kind of refusal is due -/
inductive Bad : Int → V → V → V → V → Nat → Prop where
  | counted {a b c d : V} : flatV a = true → flatV d = true → (numB a 200 = false ∨ ceilB d = false) → Bad 0 a b c d 1
  | ways {a b c d : V} : flatV a = true → flatV b = true → flatV d = true → (numB a 200 = false ∨ numB b 400 = false ∨ ceilB d = false) → Bad 1 a b c d 1
  | rowAt {a b c d : V} : flatV a = true → flatV b = true → flatV d = true → (numB a 200 = false ∨ ceilB d = false) → Bad 2 a b c d 1
  | rowAtR {n : Nat} {co : Option Nat} {b c : V} : flatV b = true → n ≤ 200 → cOk 200 co → numB b (((cntc co n : Nat) : Int) - 1) = false → Bad 2 (.int (n : Int)) b c (cV co) 2
  | signAt {a b c d : V} : flatV a = true → flatV b = true → flatV c = true → flatV d = true → (numB a 200 = false ∨ ceilB d = false) → Bad 3 a b c d 1
  | signAtR {n : Nat} {co : Option Nat} {b c : V} : flatV b = true → flatV c = true → n ≤ 200 → cOk 200 co → numB b (((cntc co n : Nat) : Int) - 1) = false → Bad 3 (.int (n : Int)) b c (cV co) 2
  | signAtP {n r : Nat} {co : Option Nat} {c : V} : flatV c = true → n ≤ 200 → cOk 200 co → r < cntc co n → numB c (((2 * n : Nat) : Int) - 1) = false → Bad 3 (.int (n : Int)) (.int (r : Int)) c (cV co) 3
  | rowC {way : Int} {z : Str} {b c d : V} : way = 4 ∨ way = 5 ∨ way = 6 → flatV d = true → z.length ≤ 1000 → ceilB d = false → Bad way (.str z) b c d 1
  | rowN {way : Int} {z : Str} {b c : V} {co : Option Nat} : way = 4 ∨ way = 5 ∨ way = 6 → z.length ≤ 1000 → cOk 200 co → hillB co z = false → Bad way (.str z) b c (cV co) 0
theorem cV_inj {c c' : Option Nat} (h : cV c = cV c') : c = c' := by
  cases c <;> cases c'
  · rfl
  · cases h
  · cases h
  · have := V.int.inj h
    congr 1
    omega
theorem nat_inj {n m : Nat} (h : V.int (n : Int) = V.int (m : Int)) : n = m := by
  have := V.int.inj h
  omega
section
variable {P : Program} {w : World} {K : PySem.W.Frag} {mg : Str → Option Value} {base : Heap} {cs : Nat → Addr} {CH : Addr}
def spAsked (cs : Nat → Addr) : Sp := fun vs H Q _ => ∃ (way : Int) (a b c d : V), vs = [.int way, a, b, c, d] ∧ ((∃ k, Bad way a b c d k ∧ ∀ H' e, Same H H' → H' e = some (ExT (.ref (cs k)) none e) → Q (.ref e) H') ∨
  ((way = 4 ∨ way = 5 ∨ way = 6) ∧ (∃ (l : List Bool) (n : Nat) (co : Option Nat), a = .str (txt l) ∧ d = cV co ∧ Hill co n l ∧ n ≤ 200 ∧ cOk 200 co) ∧ ∀ H', Same H H' → Q .non H'))
theorem cal_asked (D : Def K mg "_law_asked" sAsked ["_law_way", "_law_one", "_law_two", "_law_three", "_law_four"]) (gH : mg "HillError" = some (.ref CH)) (ex : ∀ k, k < 4 → PySem.W.exmOne K (.ref (cs k)) (.ref CH) = some true)
    (c0 : Cal K mg (L2.CX P w) P w base 4 "counted" [] (spCountedX (cs 1))) (c1 : Cal K mg (L2.CX P w) P w base 4 "ways" [] (spWaysX (cs 1))) (c2 : Cal K mg (L2.CX P w) P w base 4 "row_at" [] (spRowAtX (cs 1) (cs 2))) (c3 : Cal K mg (L2.CX P w) P w base 5 "sign_at" [] (spSignAtX (cs 1) (cs 2) (cs 3)))
    (c4 : Cal K mg (L2.CX P w) P w base 5 "rank" [] (spRankX (cs 1) (cs 0))) (c5 : Cal K mg (L2.CX P w) P w base 6 "next_row" [] (spNextX (cs 1) (cs 0))) (c6 : Cal K mg (L2.CX P w) P w base 6 "ahead_row" [] (spNextX (cs 1) (cs 0))) : Cal K mg CX0 P w base 7 "_law_asked" [] (spAsked cs) := by
  refine D.cal scAsked (fun vs H Q E h => ?_) (fun f cdv A outer s H vs Q E hr h => ?_)
  · obtain ⟨way, a, b, c, d, rfl, _⟩ := h
    rfl
  · obtain ⟨way, a, b, c, d, rfl, h⟩ := h
    have nd := scAsked.nd
    refine ⟨_, pss_cons (ps_set (i := 5) nd rfl (.inl rfl) pe_non)
      (pss_cons (kept_try (i := 6) (c := .ref CH) (tb := fun W => tIfS (tTest (tOp rEq (tVar 0) (tC (.int 0)))) (tDrop (tCallS (spCountedX (cs 1)) (WE W) (tCons (tVar 1) (tCons (tVar 4) tNil))))
          (tIfS (tTest (tOp rEq (tVar 0) (tC (.int 1)))) (tDrop (tCallS (spWaysX (cs 1)) (WE W) (tCons (tVar 1) (tCons (tVar 2) (tCons (tVar 4) tNil)))))
          (tIfS (tTest (tOp rEq (tVar 0) (tC (.int 2)))) (tDrop (tCallS (spRowAtX (cs 1) (cs 2)) (WE W) (tCons (tVar 1) (tCons (tVar 2) (tCons (tVar 4) tNil)))))
          (tIfS (tTest (tOp rEq (tVar 0) (tC (.int 3)))) (tDrop (tCallS (spSignAtX (cs 1) (cs 2) (cs 3)) (WE W) (tCons (tVar 1) (tCons (tVar 2) (tCons (tVar 3) (tCons (tVar 4) tNil))))))
          (tIfS (tTest (tOp rEq (tVar 0) (tC (.int 4)))) (tDrop (tCallS (spRankX (cs 1) (cs 0)) (WE W) (tCons (tVar 1) (tCons (tVar 4) tNil))))
          (tIfS (tTest (tOp rEq (tVar 0) (tC (.int 5)))) (tDrop (tCallS (spNextX (cs 1) (cs 0)) (WE W) (tCons (tVar 1) (tCons (tVar 4) tNil)))) (tDrop (tCallS (spNextX (cs 1) (cs 0)) (WE W) (tCons (tVar 1) (tCons (tVar 4) tNil)))))))))) (ts := fun _ => tAsg (tVar 6) (gName 5)) rfl rfl rfl nd rfl rfl ⟨rfl, by decide, .inl gH⟩
          (fun W pn xe tk po => pss_one (ps_if (pt_cmpR op_eq (pv 0) pe_int (nomark _)) (pss_one (ps_expr (by exact (pe_cT c0 hr tk (pa_cons (pv 1) (pa_cons (pv 4) pa_nil))))))
            (pss_one (ps_if (pt_cmpR op_eq (pv 0) pe_int (nomark _)) (pss_one (ps_expr (by exact (pe_cT c1 hr tk (pa_cons (pv 1) (pa_cons (pv 2) (pa_cons (pv 4) pa_nil)))))))
            (pss_one (ps_if (pt_cmpR op_eq (pv 0) pe_int (nomark _)) (pss_one (ps_expr (by exact (pe_cT c2 hr tk (pa_cons (pv 1) (pa_cons (pv 2) (pa_cons (pv 4) pa_nil)))))))
            (pss_one (ps_if (pt_cmpR op_eq (pv 0) pe_int (nomark _)) (pss_one (ps_expr (by exact (pe_cT c3 hr tk (pa_cons (pv 1) (pa_cons (pv 2) (pa_cons (pv 3) (pa_cons (pv 4) pa_nil))))))))
            (pss_one (ps_if (pt_cmpR op_eq (pv 0) pe_int (nomark _)) (pss_one (ps_expr (by exact (pe_cT c4 hr tk (pa_cons (pv 1) (pa_cons (pv 4) pa_nil))))))
            (pss_one (ps_if (pt_cmpR op_eq (pv 0) pe_int (nomark _)) (pss_one (ps_expr (by exact (pe_cT c5 hr tk (pa_cons (pv 1) (pa_cons (pv 4) pa_nil)))))) (pss_one (ps_expr (by exact (pe_cT c6 hr tk (pa_cons (pv 1) (pa_cons (pv 4) pa_nil))))))))))))))))))
          (fun a q => pss_one (ps_set (i := 5) nd rfl (.inl rfl) (pv 6))))
      (pss_one (ps_ret (pv 5)))), ?_⟩
    have no : ∀ {i j : Int} {A B : Prop}, i ≠ j → B → (if decide (V.int i = V.int j) = true then A else B) := fun hij hB => by
      rw [decide_eq_false (fun z => hij (V.int.inj z))]
      exact iteF hB
    have yes : ∀ {i : Int} {A B : Prop}, A → (if decide (V.int i = V.int i) = true then A else B) := fun hA => by
      rw [decide_eq_true rfl]
      exact iteT hA
    rcases h with ⟨k, bad, q⟩ | ⟨hw, ⟨l, n, co, rfl, rfl, hh, hn, hco⟩, q⟩
    · cases bad with
      | counted ha hd hb =>
        refine ⟨_, rfl, rfl, _, rfl, yes ?_⟩
        refine ⟨_, rfl, _, rfl, _, _, rfl, ha, hd, fun h1 h2 => ?_, fun _ => ⟨ex 1 (by decide), fun e ne => ⟨_, rfl, _, rfl, q _ e (same_upd ne) upd_same⟩⟩⟩
        rcases hb with z | z
        · exact absurd (h1.symm.trans z) (by decide)
        · exact absurd (h2.symm.trans z) (by decide)
      | ways ha hb hd hbad =>
        refine ⟨_, rfl, rfl, _, rfl, no (by decide) ?_⟩
        refine ⟨_, rfl, rfl, _, rfl, yes ?_⟩
        exact ⟨_, rfl, _, rfl, _, rfl, _, _, _, rfl, ha, hb, hd, hbad, ex 1 (by decide), fun e ne => ⟨_, rfl, _, rfl, q _ e (same_upd ne) upd_same⟩⟩
      | rowAt ha hb hd hbad =>
        refine ⟨_, rfl, rfl, _, rfl, no (by decide) ?_⟩
        refine ⟨_, rfl, rfl, _, rfl, no (by decide) ?_⟩
        refine ⟨_, rfl, rfl, _, rfl, yes ?_⟩
        have bad : ∀ {n : Nat} {co : Option Nat}, a = .int (n : Int) → d = cV co → n ≤ 200 → cOk 200 co → False := fun e1 e2 h1 h2 => by
          rcases hbad with z | z
          · rw [e1, numB_nat (by omega)] at z
            cases z
          · rw [e2, ceilB_cV h2] at z
            cases z
        exact ⟨_, rfl, _, rfl, _, rfl, _, _, _, rfl, ha, hb, hd, ⟨fun _ => ⟨ex 1 (by decide), fun e ne => ⟨_, rfl, _, rfl, q _ e (same_upd ne) upd_same⟩⟩, fun n co e1 e2 h1 h2 => (bad e1 e2 h1 h2).elim⟩, fun n x co e1 _ e2 h1 h2 => (bad e1 e2 h1 h2).elim⟩
      | @rowAtR n co _ _ hb hn hco hbad =>
        refine ⟨_, rfl, rfl, _, rfl, no (by decide) ?_⟩
        refine ⟨_, rfl, rfl, _, rfl, no (by decide) ?_⟩
        refine ⟨_, rfl, rfl, _, rfl, yes ?_⟩
        refine ⟨_, rfl, _, rfl, _, rfl, _, _, _, rfl, rfl, hb, flat_cV co, ⟨fun z => ?_, fun n' co' e1 e2 h1 h2 h3 H1 s1 => ⟨ex 2 (by decide), fun e ne => ⟨_, rfl, _, rfl, q _ e (s1.trans (same_upd ne)) upd_same⟩⟩⟩, fun n' x co' e1 e3 e2 h1 h2 h3 => ?_⟩
        · rcases z with z | z
          · rw [numB_nat (by omega)] at z
            cases z
          · rw [ceilB_cV hco] at z
            cases z
        · rw [← nat_inj e1, ← cV_inj e2] at h3
          rw [e3] at hbad
          rw [numB_nat (by omega)] at hbad
          cases hbad
      | signAt ha hb hc hd hbad =>
        refine ⟨_, rfl, rfl, _, rfl, no (by decide) ?_⟩
        refine ⟨_, rfl, rfl, _, rfl, no (by decide) ?_⟩
        refine ⟨_, rfl, rfl, _, rfl, no (by decide) ?_⟩
        refine ⟨_, rfl, rfl, _, rfl, yes ?_⟩
        have bad : ∀ {n : Nat} {co : Option Nat}, a = .int (n : Int) → d = cV co → n ≤ 200 → cOk 200 co → False := fun e1 e2 h1 h2 => by
          rcases hbad with z | z
          · rw [e1, numB_nat (by omega)] at z
            cases z
          · rw [e2, ceilB_cV h2] at z
            cases z
        exact ⟨_, rfl, _, rfl, _, rfl, _, rfl, _, _, _, _, rfl, ha, hb, hc, hd, ⟨fun _ => ⟨ex 1 (by decide), fun e ne => ⟨_, rfl, _, rfl, q _ e (same_upd ne) upd_same⟩⟩, fun n co e1 e2 h1 h2 => (bad e1 e2 h1 h2).elim⟩, fun n x co e1 _ e2 h1 h2 => (bad e1 e2 h1 h2).elim⟩
      | @signAtR n co _ _ hb hc hn hco hbad =>
        refine ⟨_, rfl, rfl, _, rfl, no (by decide) ?_⟩
        refine ⟨_, rfl, rfl, _, rfl, no (by decide) ?_⟩
        refine ⟨_, rfl, rfl, _, rfl, no (by decide) ?_⟩
        refine ⟨_, rfl, rfl, _, rfl, yes ?_⟩
        refine ⟨_, rfl, _, rfl, _, rfl, _, rfl, _, _, _, _, rfl, rfl, hb, hc, flat_cV co, ⟨fun z => ?_, fun n' co' e1 e2 h1 h2 h3 H1 s1 => ⟨ex 2 (by decide), fun e ne => ⟨_, rfl, _, rfl, q _ e (s1.trans (same_upd ne)) upd_same⟩⟩⟩, fun n' x co' e1 e3 e2 h1 h2 h3 => ?_⟩
        · rcases z with z | z
          · rw [numB_nat (by omega)] at z
            cases z
          · rw [ceilB_cV hco] at z
            cases z
        · rw [← nat_inj e1, ← cV_inj e2] at h3
          rw [e3] at hbad
          rw [numB_nat (by omega)] at hbad
          cases hbad
      | @signAtP n r co _ hc hn hco hr' hbad =>
        refine ⟨_, rfl, rfl, _, rfl, no (by decide) ?_⟩
        refine ⟨_, rfl, rfl, _, rfl, no (by decide) ?_⟩
        refine ⟨_, rfl, rfl, _, rfl, no (by decide) ?_⟩
        refine ⟨_, rfl, rfl, _, rfl, yes ?_⟩
        refine ⟨_, rfl, _, rfl, _, rfl, _, rfl, _, _, _, _, rfl, rfl, rfl, hc, flat_cV co, ⟨fun z => ?_, fun n' co' e1 e2 h1 h2 h3 H1 s1 => ?_⟩, fun n' x co' e1 e3 e2 h1 h2 h3 => ⟨?_, fun H1 s1 => ⟨ex 3 (by decide), fun e ne => ⟨_, rfl, _, rfl, q _ e (s1.trans (same_upd ne)) upd_same⟩⟩⟩⟩
        · rcases z with z | z
          · rw [numB_nat (by omega)] at z
            cases z
          · rw [ceilB_cV hco] at z
            cases z
        · rw [← nat_inj e1, ← cV_inj e2, numB_nat (by omega)] at h3
          cases h3
        · rw [← nat_inj e1]
          exact hbad
      | @rowC way z _ _ _ hw hd hz hbad =>
        have ref : ∀ {t : V → Hp → Prop}, True := fun {_} => trivial
        rcases hw with rfl | rfl | rfl
        · refine ⟨_, rfl, rfl, _, rfl, no (by decide) ?_⟩
          refine ⟨_, rfl, rfl, _, rfl, no (by decide) ?_⟩
          refine ⟨_, rfl, rfl, _, rfl, no (by decide) ?_⟩
          refine ⟨_, rfl, rfl, _, rfl, no (by decide) ?_⟩
          refine ⟨_, rfl, rfl, _, rfl, yes ?_⟩
          exact ⟨_, rfl, _, rfl, z, _, rfl, hd, hz, ⟨fun _ => ⟨ex 1 (by decide), fun e ne => ⟨_, rfl, _, rfl, q _ e (same_upd ne) upd_same⟩⟩, fun c e h1 _ => (by rw [e, ceilB_cV h1] at hbad; cases hbad)⟩, fun c e h1 _ => (by rw [e, ceilB_cV h1] at hbad; cases hbad)⟩
        · refine ⟨_, rfl, rfl, _, rfl, no (by decide) ?_⟩
          refine ⟨_, rfl, rfl, _, rfl, no (by decide) ?_⟩
          refine ⟨_, rfl, rfl, _, rfl, no (by decide) ?_⟩
          refine ⟨_, rfl, rfl, _, rfl, no (by decide) ?_⟩
          refine ⟨_, rfl, rfl, _, rfl, no (by decide) ?_⟩
          refine ⟨_, rfl, rfl, _, rfl, yes ?_⟩
          exact ⟨_, rfl, _, rfl, z, _, rfl, hd, hz, ⟨fun _ => ⟨ex 1 (by decide), fun e ne => ⟨_, rfl, _, rfl, q _ e (same_upd ne) upd_same⟩⟩, fun c e h1 _ => (by rw [e, ceilB_cV h1] at hbad; cases hbad)⟩, fun c e h1 _ => (by rw [e, ceilB_cV h1] at hbad; cases hbad)⟩
        · refine ⟨_, rfl, rfl, _, rfl, no (by decide) ?_⟩
          refine ⟨_, rfl, rfl, _, rfl, no (by decide) ?_⟩
          refine ⟨_, rfl, rfl, _, rfl, no (by decide) ?_⟩
          refine ⟨_, rfl, rfl, _, rfl, no (by decide) ?_⟩
          refine ⟨_, rfl, rfl, _, rfl, no (by decide) ?_⟩
          refine ⟨_, rfl, rfl, _, rfl, no (by decide) ?_⟩
          exact ⟨_, rfl, _, rfl, z, _, rfl, hd, hz, ⟨fun _ => ⟨ex 1 (by decide), fun e ne => ⟨_, rfl, _, rfl, q _ e (same_upd ne) upd_same⟩⟩, fun c e h1 _ => (by rw [e, ceilB_cV h1] at hbad; cases hbad)⟩, fun c e h1 _ => (by rw [e, ceilB_cV h1] at hbad; cases hbad)⟩
      | @rowN way z _ _ co hw hz hco hbad =>
        rcases hw with rfl | rfl | rfl
        · refine ⟨_, rfl, rfl, _, rfl, no (by decide) ?_⟩
          refine ⟨_, rfl, rfl, _, rfl, no (by decide) ?_⟩
          refine ⟨_, rfl, rfl, _, rfl, no (by decide) ?_⟩
          refine ⟨_, rfl, rfl, _, rfl, no (by decide) ?_⟩
          refine ⟨_, rfl, rfl, _, rfl, yes ?_⟩
          exact ⟨_, rfl, _, rfl, z, _, rfl, flat_cV co, hz, ⟨fun h => (by rw [ceilB_cV hco] at h; cases h), fun c e h1 h2 H1 s1 => ⟨ex 0 (by decide), fun e ne => ⟨_, rfl, _, rfl, q _ e (s1.trans (same_upd ne)) upd_same⟩⟩⟩, fun c e h1 h2 => (by rw [← cV_inj e, hbad] at h2; cases h2)⟩
        · refine ⟨_, rfl, rfl, _, rfl, no (by decide) ?_⟩
          refine ⟨_, rfl, rfl, _, rfl, no (by decide) ?_⟩
          refine ⟨_, rfl, rfl, _, rfl, no (by decide) ?_⟩
          refine ⟨_, rfl, rfl, _, rfl, no (by decide) ?_⟩
          refine ⟨_, rfl, rfl, _, rfl, no (by decide) ?_⟩
          refine ⟨_, rfl, rfl, _, rfl, yes ?_⟩
          exact ⟨_, rfl, _, rfl, z, _, rfl, flat_cV co, hz, ⟨fun h => (by rw [ceilB_cV hco] at h; cases h), fun c e h1 h2 H1 s1 => ⟨ex 0 (by decide), fun e ne => ⟨_, rfl, _, rfl, q _ e (s1.trans (same_upd ne)) upd_same⟩⟩⟩, fun c e h1 h2 => (by rw [← cV_inj e, hbad] at h2; cases h2)⟩
        · refine ⟨_, rfl, rfl, _, rfl, no (by decide) ?_⟩
          refine ⟨_, rfl, rfl, _, rfl, no (by decide) ?_⟩
          refine ⟨_, rfl, rfl, _, rfl, no (by decide) ?_⟩
          refine ⟨_, rfl, rfl, _, rfl, no (by decide) ?_⟩
          refine ⟨_, rfl, rfl, _, rfl, no (by decide) ?_⟩
          refine ⟨_, rfl, rfl, _, rfl, no (by decide) ?_⟩
          exact ⟨_, rfl, _, rfl, z, _, rfl, flat_cV co, hz, ⟨fun h => (by rw [ceilB_cV hco] at h; cases h), fun c e h1 h2 H1 s1 => ⟨ex 0 (by decide), fun e ne => ⟨_, rfl, _, rfl, q _ e (s1.trans (same_upd ne)) upd_same⟩⟩⟩, fun c e h1 h2 => (by rw [← cV_inj e, hbad] at h2; cases h2)⟩
    · have hz : (txt l).length ≤ 1000 := by rw [txt_len, hh.2]; omega
      have nohill : ∀ {c : Option Nat}, cV co = cV c → hillB c (txt l) = false → False := fun e h => by
        rw [← cV_inj e, hillB_txt, hh.1] at h
        cases h
      have ref : ∀ {H1 : Hp} {E' : XK}, Refuse (cs 1) (cs 0) (txt l) (cV co) H1 E' := fun {_ _} => ⟨fun h => (by rw [ceilB_cV hco] at h; cases h), fun c e _ h2 => (nohill e h2).elim⟩
      rcases hw with rfl | rfl | rfl
      · refine ⟨_, rfl, rfl, _, rfl, no (by decide) ?_⟩
        refine ⟨_, rfl, rfl, _, rfl, no (by decide) ?_⟩
        refine ⟨_, rfl, rfl, _, rfl, no (by decide) ?_⟩
        refine ⟨_, rfl, rfl, _, rfl, no (by decide) ?_⟩
        refine ⟨_, rfl, rfl, _, rfl, yes ?_⟩
        exact ⟨_, rfl, _, rfl, txt l, _, rfl, flat_cV co, hz, ref, fun c e h1 _ => ⟨l, co, n, rfl, hco, hh, hn, fun H1 s1 => ⟨_, rfl, q H1 s1⟩⟩⟩
      · refine ⟨_, rfl, rfl, _, rfl, no (by decide) ?_⟩
        refine ⟨_, rfl, rfl, _, rfl, no (by decide) ?_⟩
        refine ⟨_, rfl, rfl, _, rfl, no (by decide) ?_⟩
        refine ⟨_, rfl, rfl, _, rfl, no (by decide) ?_⟩
        refine ⟨_, rfl, rfl, _, rfl, no (by decide) ?_⟩
        refine ⟨_, rfl, rfl, _, rfl, yes ?_⟩
        exact ⟨_, rfl, _, rfl, txt l, _, rfl, flat_cV co, hz, ref, fun c e h1 _ => ⟨l, n, rfl, cV_inj e ▸ hh, hn, fun H1 v s1 => ⟨_, rfl, q H1 s1⟩⟩⟩
      · refine ⟨_, rfl, rfl, _, rfl, no (by decide) ?_⟩
        refine ⟨_, rfl, rfl, _, rfl, no (by decide) ?_⟩
        refine ⟨_, rfl, rfl, _, rfl, no (by decide) ?_⟩
        refine ⟨_, rfl, rfl, _, rfl, no (by decide) ?_⟩
        refine ⟨_, rfl, rfl, _, rfl, no (by decide) ?_⟩
        refine ⟨_, rfl, rfl, _, rfl, no (by decide) ?_⟩
        exact ⟨_, rfl, _, rfl, txt l, _, rfl, flat_cV co, hz, ref, fun c e h1 _ => ⟨l, n, rfl, cV_inj e ▸ hh, hn, fun H1 v s1 => ⟨_, rfl, q H1 s1⟩⟩⟩
def spIs (K : PySem.W.Frag) : Sp := fun vs H Q _ => ∃ (way : Int) (t : Addr) (a b c d : V) (k : Nat), vs = [.int way, .ref t, .str (wordAt k)] ∧ SqT K H t [a, b, c, d] ∧ k < 4 ∧ Bad way a b c d k ∧ ∀ H', Same H H' → Q (.bl true) H'
theorem cal_is (D : Def K mg "_law_is" sIs ["_law_way", "_law_handed", "_law_word_here"]) (er : ∀ k, k < 4 → IsErr K cs k) (c1 : Cal K mg CX0 P w base 7 "_law_asked" [] (spAsked cs)) (c2 : Cal K mg CX0 P w base 1 "_law_word" [] (spWord K cs)) (misi : mg "isinstance" = none) (mve : mg "ValueError" = none) : Cal K mg CX0 P w base 8 "_law_is" [] (spIs K) := by
  refine D.cal scIs (fun vs H Q E h => ?_) (fun f cdv A outer s H vs Q E hr h => ?_)
  · obtain ⟨way, t, a, b, c, d, k, rfl, _⟩ := h
    rfl
  · obtain ⟨way, t, a, b, c, d, k, rfl, hT, hk, bad, q⟩ := h
    have nd := scIs.nd
    refine ⟨_, (pss_cons (ps_set (i := 3) nd rfl (.inl rfl) (pe_c c1 hr (pa_cons (pv 0) (pa_cons (pe_ix ix_tup (pv 1) pe_int (fun _ _ => rfl)) (pa_cons (pe_ix ix_tup (pv 1) pe_int (fun _ _ => rfl)) (pa_cons (pe_ix ix_tup (pv 1) pe_int (fun _ _ => rfl)) (pa_cons (pe_ix ix_tup (pv 1) pe_int (fun _ _ => rfl)) pa_nil)))))))
      (pss_one (ps_ret (pe_and (pe_callB call_isT (by rfl) misi (by decide +kernel) (pa_cons (pv 3) (pa_cons (pe_bltn (v := .ty "ValueError") (u := .type "ValueError") (by rfl) mve (by decide +kernel) rfl) pa_nil))) (pe_one (pe_cmpR op_eq (pe_c c2 hr (pa_cons (pv 3) pa_nil)) (pv 2) (nomark _))))))), ?_⟩
    refine ⟨_, rfl, .ref t, rfl, t, _, _, _, rfl, rfl, hT, at_of (j := 0) rfl rfl, .ref t, rfl, t, _, _, _, rfl, rfl, hT, at_of (j := 1) rfl rfl, .ref t, rfl, t, _, _, _, rfl, rfl, hT, at_of (j := 2) rfl rfl, .ref t, rfl, t, _, _, _, rfl, rfl, hT, at_of (j := 3) rfl rfl, ?_⟩
    refine ⟨way, a, b, c, d, rfl, .inl ⟨k, bad, fun H1 e s1 he => ?_⟩⟩
    have E := er k hk
    refine ⟨_, rfl, e, cs k, _, _, _, rfl, he, E.c, fun u hu => hu, E.ve, true, rfl, ?_⟩
    refine iteT ?_
    refine ⟨_, rfl, e, k, rfl, he, E, fun H2 s2 => ⟨_, rfl, rfl, ?_⟩⟩
    rw [decide_eq_true rfl]
    exact q H2 (s1.trans s2)
end
end Hr
/-! ### lists as data -/
namespace Hr
open PySem PySem.Spec PyProof.Rows L2
section
variable {K : PySem.W.Frag} {H : Hp}
theorem dp_ints : ∀ ns : List Int, DpAll K H (ns.map V.int) (ns.map PyData.int)
  | [] => .nil
  | n :: r => .cons (.int n) (dp_ints r)
theorem dp_strs : ∀ xs : List Str, DpAll K H (xs.map V.str) (xs.map PyData.str)
  | [] => .nil
  | x :: r => .cons (.str x) (dp_strs r)
end
theorem lay_ints : ∀ ns : List Int, PyData.canLayAll0 (ns.map PyData.int) = true
  | [] => rfl
  | n :: r => by
    show (true && PyData.canLayAll0 (r.map PyData.int)) = true
    rw [lay_ints r]
    rfl
theorem dep_ints : ∀ ns : List Int, PyData.depthAll (ns.map PyData.int) = 0
  | [] => rfl
  | n :: r => by
    show max 0 (PyData.depthAll (r.map PyData.int)) = 0
    rw [dep_ints r]
    rfl
theorem lay_txts : ∀ ls : List (List Bool), PyData.canLayAll0 ((ls.map txt).map PyData.str) = true
  | [] => rfl
  | l :: r => by
    show (PyData.strOk (txt l) && PyData.canLayAll0 ((r.map txt).map PyData.str)) = true
    rw [lay_txts r, Bool.and_true]
    show (l.map code).toArray.all (· < 0x110000) = true
    rw [List.all_toArray, List.all_eq_true]
    intro c hc
    obtain ⟨b, _, rfl⟩ := List.mem_map.mp hc
    cases b <;> rfl
theorem dep_strs : ∀ xs : List Str, PyData.depthAll (xs.map PyData.str) = 0
  | [] => rfl
  | n :: r => by
    show max 0 (PyData.depthAll (r.map PyData.str)) = 0
    rw [dep_strs r]
    rfl
theorem sh_ints (ns : List Int) : SeqAt.shaped (.list (ns.map PyData.int)) = true := by
  show (PyData.canLayAll0 (ns.map PyData.int) && decide (PyData.depthAll (ns.map PyData.int) + 1 ≤ 64)) = true
  rw [lay_ints, dep_ints]
  rfl
theorem sh_txts (ls : List (List Bool)) : SeqAt.shaped (.list ((ls.map txt).map PyData.str)) = true := by
  show (PyData.canLayAll0 ((ls.map txt).map PyData.str) && decide (PyData.depthAll ((ls.map txt).map PyData.str) + 1 ≤ 64)) = true
  rw [lay_txts, dep_strs]
  rfl
end Hr
/-! ### how often a sign stands in a text; a sign so many times -/
namespace Hr
open PySem PySem.Spec PyProof.Rows L2
open PySem.Builtin PySem.Builtin.Str in
theorem occ_run (x : Str) (c : Nat) : ∀ (m a : Nat) (acc : Array Nat) (free : Nat), a + m = x.length + 1 → free ≤ a → acc.size ≤ a →
    (forIn (List.range' a m) (acc, free) (StrLaws.occBody x ⟨#[c]⟩ x.length (x.length + 1))).run.fst.size = acc.size + ((x.cps.toList.drop a).filter fun k => k == c).length
  | 0, a, acc, free, e, _, _ => by
    have : x.cps.toList.drop a = [] := List.drop_eq_nil_of_le (by
      have : x.cps.toList.length = x.length := rfl
      omega)
    rw [this]
    rfl
  | m + 1, a, acc, free, e, hf, hs => by
    rw [List.range'_succ, List.forIn_cons]
    unfold StrLaws.occBody
    by_cases hc : x.cps.toList[a]? = some c
    · obtain ⟨h1, h2⟩ := (StrLaws.subAt_one x c a).mpr hc
      rw [if_pos ⟨⟨⟨(show acc.size < x.length + 1 by omega), hf⟩, h1⟩, h2⟩]
      have ih := occ_run x c m (a + 1) (acc.push a) (a + (⟨#[c]⟩ : Str).length) (by omega) (Nat.le_refl _) (by rw [Array.size_push]; omega)
      have hlt : a < x.cps.toList.length := (List.getElem?_eq_some_iff.mp hc).1
      rw [List.drop_eq_getElem_cons hlt, List.filter_cons_of_pos (by rw [(List.getElem?_eq_some_iff.mp hc).2]; simp), List.length_cons]
      rw [Array.size_push] at ih
      exact ih.trans (by omega)
    · rw [if_neg (fun z => hc ((StrLaws.subAt_one x c a).mp ⟨z.1.2, z.2⟩))]
      have ih := occ_run x c m (a + 1) acc free (by omega) (by omega) (by omega)
      have hd : ((x.cps.toList.drop a).filter fun k => k == c).length = ((x.cps.toList.drop (a + 1)).filter fun k => k == c).length := by
        by_cases hlt : a < x.cps.toList.length
        · rw [List.drop_eq_getElem_cons hlt, List.filter_cons_of_neg (by
            intro z
            have z : x.cps.toList[a] = c := by simpa using z
            exact hc (by rw [List.getElem?_eq_getElem hlt, z]))]
        · rw [List.drop_eq_nil_of_le (by omega), List.drop_eq_nil_of_le (by omega)]
      rw [hd]
      exact ih
theorem count_one (x : Str) (c : Nat) : Txt.count x ⟨#[c]⟩ = ((x.cps.toList.filter fun k => k == c).length : Nat) := by
  have h := occ_run x c (x.length + 1) 0 #[] 0 (by omega) (Nat.le_refl _) (Nat.le_refl _)
  show (((Builtin.Str.occurrences x ⟨#[c]⟩ 0 x.length (x.length + 1)).length : Nat) : Int) = _
  rw [StrLaws.occ_eq, Array.length_toList]
  rw [show x.length + 1 - 0 = x.length + 1 from rfl]
  have h2 : ((#[] : Array Nat).size + ((x.cps.toList.drop 0).filter fun k => k == c).length) = (x.cps.toList.filter fun k => k == c).length := by
    rw [List.drop_zero]
    exact Nat.zero_add _
  exact congrArg (fun n : Nat => (n : Int)) (h.trans h2)
theorem count_u (l : List Bool) : Txt.count (txt l) ("u" : Str) = ((l.filter id).length : Nat) := by
  rw [eU, count_one]
  show ((((l.map code).filter fun k => k == 117).length : Nat) : Int) = _
  rw [List.filter_map, List.length_map]
  congr 2
  refine List.filter_congr fun b _ => ?_
  cases b <;> rfl
theorem rep_txt (b : Bool) : ∀ k, (⟨(List.replicate k (sgn b).cps).foldl (· ++ ·) #[]⟩ : Str) = txt (List.replicate k b)
  | k => by
    have h : ∀ (k : Nat) (acc : Array Nat), (List.replicate k (sgn b).cps).foldl (· ++ ·) acc = acc ++ (List.replicate k (code b)).toArray := by
      intro k
      induction k with
      | zero => intro acc; simp
      | succ k ih =>
        intro acc
        rw [List.replicate_succ, List.foldl_cons, ih, List.replicate_succ]
        apply Array.ext'
        show (acc ++ #[code b] ++ (List.replicate k (code b)).toArray).toList = (acc ++ (code b :: List.replicate k (code b)).toArray).toList
        rw [Array.toList_append, Array.toList_append, Array.toList_append, List.append_assoc]
        rfl
    rw [h]
    unfold txt
    rw [List.map_replicate]
    simp
theorem op_mul_sgn {X : Cx} : OpR X (binaryOp .Mult) (fun x y H Q => ∃ (b : Bool) (k : Nat), x = .str (sgn b) ∧ y = .int (k : Int) ∧ k ≤ 1000 ∧ Q (.str (txt (List.replicate k b))) H) := by
  intro pins s σ H x y v u Q I rx ry h
  obtain ⟨b, k, rfl, rfl, hk, q⟩ := h
  obtain ⟨t, rfl⟩ := rx
  obtain ⟨t', rfl⟩ := ry
  have hz : ((sgn b).length : Int) = 1 := rfl
  refine PySem.P.mul_str ?_ (fun h1 _ => ?_) (fun h1 _ => ?_) ?_
  · rw [decide_eq_false (by omega), decide_eq_false (by omega)]
    rfl
  · rw [hz]
    have h3 : (1 : Int) ≤ (2 ^ 63 - 1) / (k : Int) := by
      refine (Int.le_ediv_iff_mul_le (by omega)).mpr ?_
      omega
    omega
  · rw [Int.toNat_natCast]
    show decide (sizeLine < 1 * k) = false
    exact decide_eq_false (by have := sz (show k ≤ 1000000 by omega); omega)
  · by_cases h1 : (k : Int) < 1
    · rw [if_pos h1]
      have e0 : k = 0 := by omega
      subst e0
      exact ⟨by decide, .str (txt []), H, I.tok _, ⟨_, rfl⟩, q⟩
    · rw [if_neg h1]
      by_cases h2 : ((k : Int) == 1 || (sgn b).length == 0) = true
      · rw [if_pos h2]
        have e1 : k = 1 := by
          have : (sgn b).length = 1 := rfl
          rw [this] at h2
          simp at h2
          omega
        subst e1
        exact ⟨.str (sgn b), H, I, ⟨_, rfl⟩, q⟩
      · rw [if_neg h2, Int.toNat_natCast, rep_txt]
        refine ⟨?_, .str (txt (List.replicate k b)), H, I.tok _, ⟨_, rfl⟩, q⟩
        rw [txt_len, List.length_replicate]
        exact sz (by omega)
end Hr
/-! ### the law's own hill row -/
namespace Hr
open PySem PySem.Spec PyProof.Rows L2
theorem scLRow : FnScope ["_law_script", "_law_ceiling", "_law_ups", "_law_row_here", "_law_height", "_law_k", "_law_mark"] ["_law_script", "_law_ceiling"] (defScope sLRow) := ⟨rfl, rfl, rfl, by decide +kernel, rfl, by decide +kernel, by decide +kernel⟩
theorem cut_map (ns : List Int) (lo hi : Option Int) : ∃ ms : List Int, cutV (ns.map V.int) lo hi = ms.map V.int := by
  unfold cutV
  exact ⟨_, by rw [← List.map_drop, ← List.map_take]⟩
theorem eqv_nil : ∀ ns : List Int, PyData.eqv (.list (ns.map PyData.int)) (.list []) = decide (ns = [])
  | [] => rfl
  | _ :: _ => rfl
/-- a ceiling that is not 0 -/
def cPos : Option Nat → Prop
  | none => True
  | some k => 1 ≤ k
section
variable {P : Program} {w : World} {K : PySem.W.Frag} {mg : Str → Option Value} {base : Heap}
def spLRow (K : PySem.W.Frag) : Sp := fun vs H Q _ => ∃ (a : Addr) (ns : List Int) (c : Option Nat), vs = [.ref a, cV c] ∧ SqL K H a (ns.map V.int) ∧ ns.length ≤ 63 ∧ cPos c ∧ ∀ H' l n, Same H H' → Hill c n l → n ≤ 60 → Q (.str (txt l)) H'
theorem cal_lrow (D : Def K mg "_law_row" sLRow ["_law_script", "_law_ceiling"]) (C : Cal K mg CX0 P w base 1 "_law_mixed" [] spMixed) (mlen : mg "len" = none) (mmin : mg "min" = none) (mmax : mg "max" = none) (msum : mg "sum" = none) (mrange : mg "range" = none) : Cal K mg CX0 P w base 2 "_law_row" [] (spLRow K) := by
  refine D.cal scLRow (fun vs H Q E h => ?_) (fun f cdv A outer s H vs Q E hr h => ?_)
  · obtain ⟨a, ns, c, rfl, _⟩ := h
    rfl
  · obtain ⟨a, ns, c, rfl, hS, hlen, hcp, q⟩ := h
    have nd := scLRow.nd
    refine ⟨_, pss_cons (ps_set (i := 2) nd rfl (.inl rfl) (pe_callB (call_min2 rfl) (by rfl) mmin boot_min (pa_cons pe_int (pa_cons (pe_callB (call_max2 rfl) (by rfl) mmax boot_max (pa_cons (pe_op op_fdiv (pe_callB call_len_seq (by rfl) mlen PySem.boot_len (pa_cons (pv 0) pa_nil)) pe_int)
        (pa_cons (pe_op op_mod (pe_op op_fdiv (pe_c C hr (pa_cons (pe_callB (cr_sum rfl) (by rfl) msum (by decide +kernel) (pa_cons (pe_slice sl_list (pv 0) po_none (po_some pe_int)) pa_nil)) (pa_cons (pe_callB call_len_seq (by rfl) mlen PySem.boot_len (pa_cons (pv 0) pa_nil)) pa_nil))) pe_int) pe_int) pa_nil))) pa_nil))))
      (pss_cons (ps_set (i := 3) nd rfl (.inl rfl) pe_str) (pss_cons (ps_set (i := 4) nd rfl (.inl rfl) pe_int)
      (pss_cons (ps_for PassesOwn.never rfl (pi_range1 (by rfl) mrange (pa_cons (pe_op op_mul pe_int (pv 2)) pa_nil)) (pg_name (i := 5) nd rfl (.inl rfl))
        (pss_cons (ps_set (i := 6) nd rfl (.inl rfl) (pe_c C hr (pa_cons (pe_ifExp (pt_cmpR (op_neD hr.units) (pv 0) (pe_lst pa_nil) (nomark _)) (pe_ix ix_list (pv 0) (pe_op op_mod (pv 5) (pe_callB call_len_seq (by rfl) mlen PySem.boot_len (pa_cons (pv 0) pa_nil))) (fun _ _ => rfl)) pe_int) (pa_cons (pv 5) pa_nil))))
        (pss_one (ps_if (PW.pt (pw_or (pt_cmpR op_eq (pv 4) pe_int (nomark _)) (pw_or1 (PW.pt (pw_and (pt_cmpR op_lt (pe_m1 PySem.F.slot_str_count PySem.F.type_str_count mt_count (pv 3) pe_str) (pv 2) (nomark _)) (pw_and (pt_cmpR op_ne (pv 4) (pv 1) (nomark _)) (pw_and1 (pt_cmpR op_gt (pe_op op_mod (pv 6) pe_int) pe_int (nomark _)))))))))
          (pss_cons (ps_set (i := 3) nd rfl (.inl rfl) (pe_op op_add_str (pv 3) pe_str)) (pss_one (ps_set (i := 4) nd rfl (.inl rfl) (pe_op op_add (pv 4) pe_int))))
          (pss_cons (ps_set (i := 3) nd rfl (.inl rfl) (pe_op op_add_str (pv 3) pe_str)) (pss_one (ps_set (i := 4) nd rfl (.inl rfl) (pe_op op_sub (pv 4) pe_int))))))))
      (pss_one (ps_ret (pv 3)))))), ?_⟩
    refine ⟨.ref a, rfl, a, _, rfl, .inl hS, _, 2, rfl, rfl, ⟨by decide, by decide⟩, ?_⟩
    refine ⟨.ref a, rfl, 2, rfl, a, ns.map V.int, rfl, hS, fun p1 n1 => ?_⟩
    obtain ⟨ms, ems⟩ := cut_map ns none (some 2)
    rw [ems]
    have s1 := same_upd (o := .lst (ms.map V.int)) n1
    have S2 : SqL K (upd H p1 (.lst (ms.map V.int))) p1 (ms.map V.int) := .inl (.inl upd_same)
    generalize upd H p1 (.lst (ms.map V.int)) = H1 at s1 S2 ⊢
    refine ⟨p1, ms, rfl, S2, .ref a, rfl, a, _, rfl, .inl (s1.seq hS), _, _, rfl, ?_⟩
    generalize hmx : mixed ms.sum _ = mx
    have hm0 : 0 ≤ mx := hmx ▸ mixed_nonneg _ _
    refine ⟨mx, 7, rfl, rfl, ⟨by decide, by decide⟩, mx / 7, 61, rfl, rfl, (by show (0 : Int) < 61; decide), _, _, rfl, _, _, rfl, ?_⟩
    obtain ⟨u, eu, hu⟩ : ∃ u : Nat, (if (if (mx / 7 % 61 : Int) > ((ns.map V.int).length : Int) / 2 then (mx / 7 % 61 : Int) else ((ns.map V.int).length : Int) / 2) < 60 then (if (mx / 7 % 61 : Int) > ((ns.map V.int).length : Int) / 2 then (mx / 7 % 61 : Int) else ((ns.map V.int).length : Int) / 2) else 60) = (u : Int) ∧ u ≤ 60 := by
      refine ⟨(if (if (mx / 7 % 61 : Int) > ((ns.map V.int).length : Int) / 2 then (mx / 7 % 61 : Int) else ((ns.map V.int).length : Int) / 2) < 60 then (if (mx / 7 % 61 : Int) > ((ns.map V.int).length : Int) / 2 then (mx / 7 % 61 : Int) else ((ns.map V.int).length : Int) / 2) else 60).toNat, ?_, ?_⟩ <;> split <;> split <;> omega
    show gName 2 (V.int (if (if (mx / 7 % 61 : Int) > ((ns.map V.int).length : Int) / 2 then (mx / 7 % 61 : Int) else ((ns.map V.int).length : Int) / 2) < 60 then (if (mx / 7 % 61 : Int) > ((ns.map V.int).length : Int) / 2 then (mx / 7 % 61 : Int) else ((ns.map V.int).length : Int) / 2) else 60)) _ _ _
    rw [eu]
    have hS1 := s1.seq hS
    refine ⟨_, rfl, 2, (u : Int), rfl, rfl, .inl ⟨by decide, by decide⟩, 2 * (u : Int), rfl, by omega, by omega, ?_⟩
    refine for_range (lo := 0) (n := 2 * u) (fun i σ H' => ∃ (z : Str) (hh : Int) (l : List Bool) (h : Nat) (y5 y6 : Option V), σ = [some (.ref a), some (cV c), some (.int (u : Int)), some (.str z), some (.int hh), y5, y6] ∧ Same H H' ∧
      z = txt l ∧ hh = (h : Int) ∧ l.length = i ∧ h + i = 2 * (l.filter id).length ∧ (l.filter id).length ≤ u ∧ (∀ k, c = some k → h ≤ k) ∧ ∀ r, okb c h r = okb c 0 (l ++ r)) ?_ ?_ ?_
    · exact ⟨_, _, [], 0, none, none, rfl, s1, eE, rfl, rfl, rfl, Nat.zero_le _, fun k _ => Nat.zero_le _, fun r => rfl⟩
    · rintro i σ H2 hi ⟨z, hh, l, h, y5, y6, rfl, s2, ez, eh, el, eu2, hu2, hc, ok⟩
      have hS2 := s2.seq hS
      have hz1 : z.length + 1 ≤ sizeLine := sz (by rw [ez, txt_len]; omega)
      -- the mark
      refine ⟨.ref a, rfl, Nat.zero_le _, fun p2 n2 => ?_⟩
      have s3 := same_upd (o := .lst []) n2
      have s2 := s2.trans s3
      have hS2 := s3.seq hS2
      have hE : SqL K (upd H2 p2 (.lst [])) p2 ([] : List V) := .inl (.inl upd_same)
      generalize upd H2 p2 (.lst []) = H3 at s2 hS2 hE ⊢
      refine ⟨.list (ns.map PyData.int), .list [], .lst hS2 (dp_ints ns), .lst hE .nil, sh_ints ns, sh_ints [], _, rfl, ?_⟩
      rw [eqv_nil]
      by_cases hns : ns = []
      · rw [decide_eq_true hns]
        refine iteF ?_
        refine ⟨_, rfl, _, _, rfl, ?_⟩
        generalize mixed 0 _ = mk
        refine ⟨_, rfl, rfl, _, rfl, ite2 (fun e0 => ?_) (fun e0 => ?_)⟩
        · have h0 : h = 0 := by
            have := V.int.inj (of_decide_eq_true e0)
            omega
          have un : ∀ k, c = some k → h < k := fun k hk => by
            rw [hk] at hcp
            have : 1 ≤ k := hcp
            omega
          have ub : under c h = true := by
            cases c with
            | none => rfl
            | some k => exact decide_eq_true (un k rfl)
          refine iteT ?_
          refine ⟨_, rfl, z, "u", rfl, rfl, hz1, ?_⟩
          refine ⟨_, rfl, hh, 1, rfl, rfl, ?_⟩
          exact ⟨_, _, l ++ [true], h + 1, _, _, rfl, s2, by rw [ez, ← txt_append, ← sgn_u]; rfl, by show hh + 1 = _; omega, by rw [List.length_append, el]; rfl, by rw [List.filter_append, List.length_append]; show _ = 2 * (_ + 1); omega, by rw [List.filter_append, List.length_append]; show _ + 1 ≤ u; omega, fun k hk => by have := un k hk; omega, fun r => by
            rw [List.append_assoc]
            show _ = okb c 0 (l ++ (true :: r))
            rw [← ok (true :: r)]
            show _ = (under c h && okb c (h + 1) r)
            rw [ub, Bool.true_and]⟩
        · have h0 : h ≠ 0 := fun zz => e0 (decide_eq_true (by rw [eh, zz]; rfl))
          refine ⟨.str z, rfl, ⟨_, rfl⟩, z, "u", rfl, rfl, .int (u : Int), rfl, _, _, rfl, rfl, _, rfl, ?_⟩
          rw [ez, count_u, ← ez]
          refine ite2 (fun e1 => ?_) (fun e1 => ?_)
          · have u1 : (l.filter id).length < u := by
              have := of_decide_eq_true e1
              omega
            refine ⟨.int hh, rfl, cV c, rfl, by cases c <;> rfl, _, rfl, ite2 (fun e2 => ?_) (fun e2 => ?_)⟩
            · have un : ∀ k, c = some k → h < k := fun k hk => by
                have h1 := hc k hk
                have h2 : ¬ (V.int hh = cV c) := by simpa using e2
                rw [hk] at h2
                have : ¬ hh = (k : Int) := fun zz => h2 (by rw [zz]; rfl)
                omega
              have ub : under c h = true := by
                cases c with
                | none => rfl
                | some k => exact decide_eq_true (un k rfl)
              refine ⟨_, rfl, mk, 5, rfl, rfl, (by show (0 : Int) < 5; decide), _, _, rfl, rfl, _, rfl, ite2 (fun e3 => ?_) (fun e3 => ?_)⟩
              · skip
                refine ⟨_, rfl, z, "u", rfl, rfl, hz1, ?_⟩
                refine ⟨_, rfl, hh, 1, rfl, rfl, ?_⟩
                exact ⟨_, _, l ++ [true], h + 1, _, _, rfl, s2, by rw [ez, ← txt_append, ← sgn_u]; rfl, by show hh + 1 = _; omega, by rw [List.length_append, el]; rfl, by rw [List.filter_append, List.length_append]; show _ = 2 * (_ + 1); omega, by rw [List.filter_append, List.length_append]; show _ + 1 ≤ u; omega, fun k hk => by have := un k hk; omega, fun r => by
                  rw [List.append_assoc]
                  show _ = okb c 0 (l ++ (true :: r))
                  rw [← ok (true :: r)]
                  show _ = (under c h && okb c (h + 1) r)
                  rw [ub, Bool.true_and]⟩
              · skip
                refine ⟨_, rfl, z, "d", rfl, rfl, hz1, ?_⟩
                refine ⟨_, rfl, hh, 1, rfl, rfl, ?_⟩
                exact ⟨_, _, l ++ [false], h - 1, _, _, rfl, s2, by rw [ez, ← txt_append, ← sgn_d]; rfl, by show hh - 1 = _; omega, by rw [List.length_append, el]; rfl, by rw [List.filter_append, List.length_append]; show _ = 2 * (_ + 0); omega, by rw [List.filter_append, List.length_append]; show _ + 0 ≤ u; omega, fun k hk => by have := hc k hk; omega, fun r => by
                  rw [List.append_assoc]
                  show _ = okb c 0 (l ++ (false :: r))
                  rw [← ok (false :: r)]
                  show _ = ((h != 0) && okb c (h - 1) r)
                  rw [show (h != 0) = true by simpa using h0, Bool.true_and]⟩
            · refine iteF ?_
              refine ⟨_, rfl, z, "d", rfl, rfl, hz1, ?_⟩
              refine ⟨_, rfl, hh, 1, rfl, rfl, ?_⟩
              exact ⟨_, _, l ++ [false], h - 1, _, _, rfl, s2, by rw [ez, ← txt_append, ← sgn_d]; rfl, by show hh - 1 = _; omega, by rw [List.length_append, el]; rfl, by rw [List.filter_append, List.length_append]; show _ = 2 * (_ + 0); omega, by rw [List.filter_append, List.length_append]; show _ + 0 ≤ u; omega, fun k hk => by have := hc k hk; omega, fun r => by
                rw [List.append_assoc]
                show _ = okb c 0 (l ++ (false :: r))
                rw [← ok (false :: r)]
                show _ = ((h != 0) && okb c (h - 1) r)
                rw [show (h != 0) = true by simpa using h0, Bool.true_and]⟩
          · refine iteF ?_
            refine ⟨_, rfl, z, "d", rfl, rfl, hz1, ?_⟩
            refine ⟨_, rfl, hh, 1, rfl, rfl, ?_⟩
            exact ⟨_, _, l ++ [false], h - 1, _, _, rfl, s2, by rw [ez, ← txt_append, ← sgn_d]; rfl, by show hh - 1 = _; omega, by rw [List.length_append, el]; rfl, by rw [List.filter_append, List.length_append]; show _ = 2 * (_ + 0); omega, by rw [List.filter_append, List.length_append]; show _ + 0 ≤ u; omega, fun k hk => by have := hc k hk; omega, fun r => by
              rw [List.append_assoc]
              show _ = okb c 0 (l ++ (false :: r))
              rw [← ok (false :: r)]
              show _ = ((h != 0) && okb c (h - 1) r)
              rw [show (h != 0) = true by simpa using h0, Bool.true_and]⟩
      · rw [decide_eq_false hns]
        refine iteT ?_
        have hpos : 0 < ns.length := List.length_pos_iff.mpr hns
        have hml : (ns.map V.int).length = ns.length := List.length_map ..
        obtain ⟨j, ej, hj⟩ : ∃ j : Nat, (0 + (i : Int)) % ((ns.map V.int).length : Int) = (j : Int) ∧ j < ns.length := by
          have h1 := Int.emod_nonneg (0 + (i : Int)) (show ((ns.map V.int).length : Int) ≠ 0 by omega)
          have h2 := Int.emod_lt_of_pos (0 + (i : Int)) (show 0 < ((ns.map V.int).length : Int) by omega)
          exact ⟨((0 + (i : Int)) % ((ns.map V.int).length : Int)).toNat, by omega, by omega⟩
        refine ⟨.ref a, rfl, _, rfl, .ref a, rfl, a, _, rfl, .inl hS2, _, _, rfl, rfl, (by show (0 : Int) < ((ns.map V.int).length : Int); omega), a, _, _, .int ns[j], rfl, rfl, hS2, at_of ej (by rw [List.getElem?_map, List.getElem?_eq_getElem hj]; rfl), ?_⟩
        refine ⟨_, rfl, _, _, rfl, ?_⟩
        generalize mixed ns[j] _ = mk
        refine ⟨_, rfl, rfl, _, rfl, ite2 (fun e0 => ?_) (fun e0 => ?_)⟩
        · have h0 : h = 0 := by
            have := V.int.inj (of_decide_eq_true e0)
            omega
          have un : ∀ k, c = some k → h < k := fun k hk => by
            rw [hk] at hcp
            have : 1 ≤ k := hcp
            omega
          have ub : under c h = true := by
            cases c with
            | none => rfl
            | some k => exact decide_eq_true (un k rfl)
          refine iteT ?_
          refine ⟨_, rfl, z, "u", rfl, rfl, hz1, ?_⟩
          refine ⟨_, rfl, hh, 1, rfl, rfl, ?_⟩
          exact ⟨_, _, l ++ [true], h + 1, _, _, rfl, s2, by rw [ez, ← txt_append, ← sgn_u]; rfl, by show hh + 1 = _; omega, by rw [List.length_append, el]; rfl, by rw [List.filter_append, List.length_append]; show _ = 2 * (_ + 1); omega, by rw [List.filter_append, List.length_append]; show _ + 1 ≤ u; omega, fun k hk => by have := un k hk; omega, fun r => by
            rw [List.append_assoc]
            show _ = okb c 0 (l ++ (true :: r))
            rw [← ok (true :: r)]
            show _ = (under c h && okb c (h + 1) r)
            rw [ub, Bool.true_and]⟩
        · have h0 : h ≠ 0 := fun zz => e0 (decide_eq_true (by rw [eh, zz]; rfl))
          refine ⟨.str z, rfl, ⟨_, rfl⟩, z, "u", rfl, rfl, .int (u : Int), rfl, _, _, rfl, rfl, _, rfl, ?_⟩
          rw [ez, count_u, ← ez]
          refine ite2 (fun e1 => ?_) (fun e1 => ?_)
          · have u1 : (l.filter id).length < u := by
              have := of_decide_eq_true e1
              omega
            refine ⟨.int hh, rfl, cV c, rfl, by cases c <;> rfl, _, rfl, ite2 (fun e2 => ?_) (fun e2 => ?_)⟩
            · have un : ∀ k, c = some k → h < k := fun k hk => by
                have h1 := hc k hk
                have h2 : ¬ (V.int hh = cV c) := by simpa using e2
                rw [hk] at h2
                have : ¬ hh = (k : Int) := fun zz => h2 (by rw [zz]; rfl)
                omega
              have ub : under c h = true := by
                cases c with
                | none => rfl
                | some k => exact decide_eq_true (un k rfl)
              refine ⟨_, rfl, mk, 5, rfl, rfl, (by show (0 : Int) < 5; decide), _, _, rfl, rfl, _, rfl, ite2 (fun e3 => ?_) (fun e3 => ?_)⟩
              · skip
                refine ⟨_, rfl, z, "u", rfl, rfl, hz1, ?_⟩
                refine ⟨_, rfl, hh, 1, rfl, rfl, ?_⟩
                exact ⟨_, _, l ++ [true], h + 1, _, _, rfl, s2, by rw [ez, ← txt_append, ← sgn_u]; rfl, by show hh + 1 = _; omega, by rw [List.length_append, el]; rfl, by rw [List.filter_append, List.length_append]; show _ = 2 * (_ + 1); omega, by rw [List.filter_append, List.length_append]; show _ + 1 ≤ u; omega, fun k hk => by have := un k hk; omega, fun r => by
                  rw [List.append_assoc]
                  show _ = okb c 0 (l ++ (true :: r))
                  rw [← ok (true :: r)]
                  show _ = (under c h && okb c (h + 1) r)
                  rw [ub, Bool.true_and]⟩
              · skip
                refine ⟨_, rfl, z, "d", rfl, rfl, hz1, ?_⟩
                refine ⟨_, rfl, hh, 1, rfl, rfl, ?_⟩
                exact ⟨_, _, l ++ [false], h - 1, _, _, rfl, s2, by rw [ez, ← txt_append, ← sgn_d]; rfl, by show hh - 1 = _; omega, by rw [List.length_append, el]; rfl, by rw [List.filter_append, List.length_append]; show _ = 2 * (_ + 0); omega, by rw [List.filter_append, List.length_append]; show _ + 0 ≤ u; omega, fun k hk => by have := hc k hk; omega, fun r => by
                  rw [List.append_assoc]
                  show _ = okb c 0 (l ++ (false :: r))
                  rw [← ok (false :: r)]
                  show _ = ((h != 0) && okb c (h - 1) r)
                  rw [show (h != 0) = true by simpa using h0, Bool.true_and]⟩
            · refine iteF ?_
              refine ⟨_, rfl, z, "d", rfl, rfl, hz1, ?_⟩
              refine ⟨_, rfl, hh, 1, rfl, rfl, ?_⟩
              exact ⟨_, _, l ++ [false], h - 1, _, _, rfl, s2, by rw [ez, ← txt_append, ← sgn_d]; rfl, by show hh - 1 = _; omega, by rw [List.length_append, el]; rfl, by rw [List.filter_append, List.length_append]; show _ = 2 * (_ + 0); omega, by rw [List.filter_append, List.length_append]; show _ + 0 ≤ u; omega, fun k hk => by have := hc k hk; omega, fun r => by
                rw [List.append_assoc]
                show _ = okb c 0 (l ++ (false :: r))
                rw [← ok (false :: r)]
                show _ = ((h != 0) && okb c (h - 1) r)
                rw [show (h != 0) = true by simpa using h0, Bool.true_and]⟩
          · refine iteF ?_
            refine ⟨_, rfl, z, "d", rfl, rfl, hz1, ?_⟩
            refine ⟨_, rfl, hh, 1, rfl, rfl, ?_⟩
            exact ⟨_, _, l ++ [false], h - 1, _, _, rfl, s2, by rw [ez, ← txt_append, ← sgn_d]; rfl, by show hh - 1 = _; omega, by rw [List.length_append, el]; rfl, by rw [List.filter_append, List.length_append]; show _ = 2 * (_ + 0); omega, by rw [List.filter_append, List.length_append]; show _ + 0 ≤ u; omega, fun k hk => by have := hc k hk; omega, fun r => by
              rw [List.append_assoc]
              show _ = okb c 0 (l ++ (false :: r))
              rw [← ok (false :: r)]
              show _ = ((h != 0) && okb c (h - 1) r)
              rw [show (h != 0) = true by simpa using h0, Bool.true_and]⟩
    · rintro σ H2 ⟨z, hh, l, h, y5, y6, rfl, s2, ez, eh, el, eu2, hu2, hc, ok⟩
      refine ⟨_, rfl, ?_⟩
      have h0 : h = 0 := by omega
      have := ok []
      rw [List.append_nil, h0] at this
      rw [ez]
      exact q H2 l u s2 ⟨this.symm, el⟩ hu
end
end Hr
/-! ### the law -/
namespace Hr
open PySem PySem.Spec PyProof.Rows L2
theorem isRowB_append (a b : Str) : isRowB (a ++ b) = (isRowB a && isRowB b) := by
  show (a ++ b).cps.toList.all isS = _
  rw [show (a ++ b).cps.toList = a.cps.toList ++ b.cps.toList from TL.tl_append a b, List.all_append]
  rfl
theorem pick_bad {x : Int} (hx : 0 < x) : ∀ {j : Nat}, j < 6 → ∃ v, ([V.int (-1), .int 201, .bl true, .non, .str "1", .int (-x)])[j]? = some v ∧ flatV v = true ∧ numB v 200 = false
  | 0, _ => ⟨_, rfl, rfl, by decide⟩
  | 1, _ => ⟨_, rfl, rfl, by decide⟩
  | 2, _ => ⟨_, rfl, rfl, rfl⟩
  | 3, _ => ⟨_, rfl, rfl, rfl⟩
  | 4, _ => ⟨_, rfl, rfl, rfl⟩
  | 5, _ => ⟨_, rfl, rfl, decide_eq_false (by omega)⟩
  | j + 6, h => absurd h (by omega)
theorem pick_over {x : Int} (hx : 200 < x) : ∀ {j : Nat}, j < 5 → ∃ v, ([V.int (-1), .int 201, .bl false, .str "2", .int x])[j]? = some v ∧ flatV v = true ∧ ceilB v = false
  | 0, _ => ⟨_, rfl, rfl, by decide⟩
  | 1, _ => ⟨_, rfl, rfl, by decide⟩
  | 2, _ => ⟨_, rfl, rfl, rfl⟩
  | 3, _ => ⟨_, rfl, rfl, rfl⟩
  | 4, _ => ⟨_, rfl, rfl, decide_eq_false (by omega)⟩
  | j + 5, h => absurd h (by omega)
theorem cnt3 : cntc none 3 = 5 := by decide +kernel
theorem pick_far {x y : Int} (hy : 0 ≤ y) (hx : 4 < x) : ∀ {j : Nat}, j < 5 → ∃ v, ([V.int (-1), .int (((cntc none 3 : Nat) : Int) + y), .bl true, .non, .int x])[j]? = some v ∧ flatV v = true ∧ numB v (((cntc none 3 : Nat) : Int) - 1) = false
  | 0, _ => ⟨_, rfl, rfl, by rw [cnt3]; decide⟩
  | 1, _ => ⟨_, rfl, rfl, decide_eq_false (by omega)⟩
  | 2, _ => ⟨_, rfl, rfl, rfl⟩
  | 3, _ => ⟨_, rfl, rfl, rfl⟩
  | 4, _ => ⟨_, rfl, rfl, decide_eq_false (by rw [cnt3]; omega)⟩
  | j + 5, h => absurd h (by omega)
theorem pick_place {y : Int} (hy : 0 ≤ y) : ∀ {j : Nat}, j < 4 → ∃ v, ([V.int (-1), .int (6 + y), .bl false, .non])[j]? = some v ∧ flatV v = true ∧ numB v (((2 * 3 : Nat) : Int) - 1) = false
  | 0, _ => ⟨_, rfl, rfl, by decide⟩
  | 1, _ => ⟨_, rfl, rfl, decide_eq_false (by omega)⟩
  | 2, _ => ⟨_, rfl, rfl, rfl⟩
  | 3, _ => ⟨_, rfl, rfl, rfl⟩
  | j + 4, h => absurd h (by omega)
theorem pick_left : ∀ {j : Nat}, j < 3 → ∃ v, ([V.int (-1), .int 401, .bl true])[j]? = some v ∧ flatV v = true ∧ numB v 400 = false
  | 0, _ => ⟨_, rfl, rfl, by decide⟩
  | 1, _ => ⟨_, rfl, rfl, by decide⟩
  | 2, _ => ⟨_, rfl, rfl, rfl⟩
  | j + 3, h => absurd h (by omega)
theorem hill_x {c : Option Nat} (l : List Bool) : hillB c (txt l ++ "x") = false := by
  unfold hillB
  rw [isRowB_append, show isRowB ("x" : Str) = false by decide +kernel, Bool.and_false, Bool.false_and]
theorem hill_u {c : Option Nat} {n : Nat} {l : List Bool} (h : l.length = 2 * n) : hillB c (txt l ++ "u") = false := by
  have e : txt l ++ ("u" : Str) = txt (l ++ [true]) := by
    rw [← txt_append, ← sgn_u]
    rfl
  rw [e, hillB_txt]
  cases hk : okb c 0 (l ++ [true]) with
  | false => rfl
  | true =>
    have := okb_even hk
    rw [List.length_append, h] at this
    exact absurd this (by show ¬ (2 * n + 1) = 2 * ((2 * n + 1) / 2); omega)
theorem pick_wrong {n : Nat} {l : List Bool} (h : l.length = 2 * n) (hn : n ≤ 60) : ∀ {j : Nat}, j < 7 → ∃ z, ([V.str "d", .str "u", .str "udd", .str "du", .str (txt l ++ "x"), .str (txt l ++ "u"), .str "ud ud"])[j]? = some (.str z) ∧ z.length ≤ 1000 ∧ hillB (some 9) z = false
  | 0, _ => ⟨_, rfl, by decide +kernel, by decide +kernel⟩
  | 1, _ => ⟨_, rfl, by decide +kernel, by decide +kernel⟩
  | 2, _ => ⟨_, rfl, by decide +kernel, by decide +kernel⟩
  | 3, _ => ⟨_, rfl, by decide +kernel, by decide +kernel⟩
  | 4, _ => ⟨_, rfl, by rw [PySem.Str.length_append, txt_len]; show l.length + 1 ≤ 1000; omega, hill_x l⟩
  | 5, _ => ⟨_, rfl, by rw [PySem.Str.length_append, txt_len]; show l.length + 1 ≤ 1000; omega, hill_u h⟩
  | 6, _ => ⟨_, rfl, by decide +kernel, by decide +kernel⟩
  | j + 7, h => absurd h (by omega)
theorem uudd_txt : ("uudd" : Str) = txt [true, true, false, false] := by decide +kernel
theorem zero0 : ∀ m, m < 10 → 1 ≤ m → cntc (some 0) m = 0 := by decide +kernel
theorem cat_int {ns : List Int} {lo hi : Option Int} {i : Nat} {v : V} (h : (cutV (ns.map V.int) lo hi ++ [.int 5])[i]? = some v) : ∃ z, v = .int z := by
  have h1 : v ∈ cutV (ns.map V.int) lo hi ++ [.int 5] := List.mem_of_getElem? h
  rcases List.mem_append.mp h1 with h1 | h1
  · unfold cutV at h1
    obtain ⟨z, _, e⟩ := List.mem_map.mp (List.mem_of_mem_drop (List.mem_of_mem_take h1))
    exact ⟨z, e.symm⟩
  · exact ⟨5, List.mem_singleton.mp h1⟩
theorem scLaw : FnScope ["_law_script", "_law_row_here", "_law_n", "_law_k", "_law_cell", "_law_mark", "_law_bad", "_law_over", "_law_far", "_law_place", "_law_wrong", "_law_way"] ["_law_script"] (defScope sLaw) := ⟨rfl, rfl, rfl, by decide +kernel, rfl, by decide +kernel, by decide +kernel⟩
section
variable {P : Program} {w : World} {K : PySem.W.Frag} {mg : Str → Option Value} {base : Heap} {cs : Nat → Addr}
def spLaw (K : PySem.W.Frag) : Sp := fun vs H Q _ => ∃ (a : Addr) (ns : List Int), vs = [.ref a] ∧ SqL K H a (ns.map V.int) ∧ ns.length ≤ 63 ∧ ∀ H', Q (.bl true) H'
set_option maxHeartbeats 1000000 in
theorem ok_law {f : Addr} {fd : FuncData} (F : Fun K "law" "law" sLaw f fd) (c_law_mixed : Cal K mg CX0 P w base 1 "_law_mixed" [] spMixed) (c_law_row : Cal K mg CX0 P w base 2 "_law_row" [] (spLRow K)) (c_counted1 : Cal K mg (L2.CX P w) P w base 4 "counted" [.non] (spCountedX (cs 1)))
    (c_law_asked : Cal K mg CX0 P w base 7 "_law_asked" [] (spAsked cs)) (c_law_is : Cal K mg CX0 P w base 8 "_law_is" [] (spIs K)) (m_len : mg "len" = none) (m_enumerate : mg "enumerate" = none) : FnOk P w K mg base CX0 9 f fd ["_law_script"] (spLaw K) := by
  refine F.ok scLaw (fun vs H Q E h => ?_) (fun cdv A outer s H vs Q E hr h => ?_)
  · obtain ⟨a, ns, rfl, _⟩ := h
    rfl
  · obtain ⟨a, ns, rfl, hS, hlen, q⟩ := h
    have nd := scLaw.nd
    refine ⟨_, (pss_cons (ps_set (i := 1) nd rfl (.inl rfl) (pe_c c_law_row hr (pa_cons (pv 0) (pa_cons pe_non pa_nil))))
    (pss_cons (ps_set (i := 2) nd rfl (.inl rfl) (pe_op op_fdiv (pe_callB call_len_str (by rfl) m_len PySem.boot_len (pa_cons (pv 1) pa_nil)) pe_int))
    (pss_cons (ps_for PassesOwn.never rfl (pi_enum (by rfl) m_enumerate (pa_cons (pe_op op_cat (pe_slice sl_list (pv 0) po_none (po_some pe_int)) (pe_lst (pa_cons pe_int pa_nil))) pa_nil)) (pg_tup rfl (pgs_cons (pg_name (i := 3) nd rfl (.inl rfl)) (pgs_cons (pg_name (i := 4) nd rfl (.inl rfl)) pgs_nil))) (pss_cons (ps_set (i := 5) nd rfl (.inl rfl) (pe_c c_law_mixed hr (pa_cons (pv 4) (pa_cons (pv 3) pa_nil))))
      (pss_cons (ps_set (i := 6) nd rfl (.inl rfl) (pe_ix ix_list (pe_lst (pa_cons (pe_un un_neg pe_int) (pa_cons pe_int (pa_cons pe_bl (pa_cons pe_non (pa_cons pe_str (pa_cons (pe_un un_neg (pe_op op_pow pe_int pe_int)) pa_nil))))))) (pe_op op_mod (pv 5) pe_int) (fun _ _ => rfl)))
      (pss_cons (ps_set (i := 7) nd rfl (.inl rfl) (pe_ix ix_list (pe_lst (pa_cons (pe_un un_neg pe_int) (pa_cons pe_int (pa_cons pe_bl (pa_cons pe_str (pa_cons (pe_op op_pow pe_int pe_int) pa_nil)))))) (pe_op op_mod (pe_op op_fdiv (pv 5) pe_int) pe_int) (fun _ _ => rfl)))
      (pss_cons (ps_set (i := 8) nd rfl (.inl rfl) (pe_ix ix_list (pe_lst (pa_cons (pe_un un_neg pe_int) (pa_cons (pe_op op_add (pe_cL c_counted1 hr (pa_cons pe_int pa_nil)) (pe_op op_mod (pe_op op_fdiv (pv 5) pe_int) pe_int)) (pa_cons pe_bl (pa_cons pe_non (pa_cons (pe_op op_pow pe_int pe_int) pa_nil)))))) (pe_op op_mod (pe_op op_fdiv (pv 5) pe_int) pe_int) (fun _ _ => rfl)))
      (pss_cons (ps_set (i := 9) nd rfl (.inl rfl) (pe_ix ix_list (pe_lst (pa_cons (pe_un un_neg pe_int) (pa_cons (pe_op op_add pe_int (pe_op op_mod (pe_op op_fdiv (pv 5) pe_int) pe_int)) (pa_cons pe_bl (pa_cons pe_non pa_nil))))) (pe_op op_mod (pe_op op_fdiv (pv 5) pe_int) pe_int) (fun _ _ => rfl)))
      (pss_cons (ps_set (i := 10) nd rfl (.inl rfl) (pe_ix ix_list (pe_lst (pa_cons pe_str (pa_cons pe_str (pa_cons pe_str (pa_cons pe_str (pa_cons (pe_op op_add_str (pv 1) pe_str) (pa_cons (pe_op op_add_str (pv 1) pe_str) (pa_cons pe_str pa_nil)))))))) (pe_op op_mod (pe_op op_fdiv (pv 5) pe_int) pe_int) (fun _ _ => rfl)))
      (pss_cons (ps_if (PW.pt (pw_or (pt_not (pt_val (pe_c c_law_is hr (pa_cons pe_int (pa_cons (pe_tup (pa_cons (pv 6) (pa_cons pe_int (pa_cons pe_int (pa_cons (pv 7) pa_nil))))) (pa_cons pe_str pa_nil)))))) (pw_or1 (pt_not (pt_val (pe_c c_law_is hr (pa_cons pe_int (pa_cons (pe_tup (pa_cons (pv 2) (pa_cons pe_int (pa_cons pe_int (pa_cons (pv 7) pa_nil))))) (pa_cons pe_str pa_nil))))))))) (pss_one (ps_ret pe_bl)) pss_nil)
      (pss_cons (ps_if (PW.pt (pw_or (pt_not (pt_val (pe_c c_law_is hr (pa_cons pe_int (pa_cons (pe_tup (pa_cons (pv 6) (pa_cons pe_int (pa_cons pe_int (pa_cons pe_non pa_nil))))) (pa_cons pe_str pa_nil)))))) (pw_or1 (pt_not (pt_val (pe_c c_law_is hr (pa_cons pe_int (pa_cons (pe_tup (pa_cons pe_int (pa_cons (pe_ix ix_list (pe_lst (pa_cons (pe_un un_neg pe_int) (pa_cons pe_int (pa_cons pe_bl pa_nil)))) (pe_op op_mod (pv 3) pe_int) (fun _ _ => rfl)) (pa_cons pe_int (pa_cons pe_non pa_nil))))) (pa_cons pe_str pa_nil))))))))) (pss_one (ps_ret pe_bl)) pss_nil)
      (pss_cons (ps_if (PW.pt (pw_or (pt_not (pt_val (pe_c c_law_is hr (pa_cons pe_int (pa_cons (pe_tup (pa_cons pe_int (pa_cons pe_int (pa_cons pe_int (pa_cons (pv 7) pa_nil))))) (pa_cons pe_str pa_nil)))))) (pw_or1 (pt_not (pt_val (pe_c c_law_is hr (pa_cons pe_int (pa_cons (pe_tup (pa_cons (pv 6) (pa_cons (pv 8) (pa_cons pe_int (pa_cons (pv 7) pa_nil))))) (pa_cons pe_str pa_nil))))))))) (pss_one (ps_ret pe_bl)) pss_nil)
      (pss_cons (ps_if (PW.pt (pw_or (pt_not (pt_val (pe_c c_law_is hr (pa_cons pe_int (pa_cons (pe_tup (pa_cons pe_int (pa_cons (pv 8) (pa_cons pe_int (pa_cons (pv 7) pa_nil))))) (pa_cons pe_str pa_nil)))))) (pw_or1 (pt_not (pt_val (pe_c c_law_is hr (pa_cons pe_int (pa_cons (pe_tup (pa_cons pe_int (pa_cons (pv 8) (pa_cons pe_int (pa_cons pe_non pa_nil))))) (pa_cons pe_str pa_nil))))))))) (pss_one (ps_ret pe_bl)) pss_nil)
      (pss_cons (ps_if (PW.pt (pw_or (pt_not (pt_val (pe_c c_law_is hr (pa_cons pe_int (pa_cons (pe_tup (pa_cons pe_int (pa_cons (pv 8) (pa_cons (pv 9) (pa_cons (pv 7) pa_nil))))) (pa_cons pe_str pa_nil)))))) (pw_or1 (pt_not (pt_val (pe_c c_law_is hr (pa_cons pe_int (pa_cons (pe_tup (pa_cons pe_int (pa_cons (pv 8) (pa_cons (pv 9) (pa_cons pe_non pa_nil))))) (pa_cons pe_str pa_nil))))))))) (pss_one (ps_ret pe_bl)) pss_nil)
      (pss_cons (ps_if (PW.pt (pw_or (pt_not (pt_val (pe_c c_law_is hr (pa_cons pe_int (pa_cons (pe_tup (pa_cons pe_int (pa_cons pe_int (pa_cons (pv 9) (pa_cons pe_non pa_nil))))) (pa_cons pe_str pa_nil)))))) (pw_or1 (pt_not (pt_val (pe_c c_law_is hr (pa_cons pe_int (pa_cons (pe_tup (pa_cons pe_int (pa_cons pe_int (pa_cons pe_int (pa_cons pe_non pa_nil))))) (pa_cons pe_str pa_nil))))))))) (pss_one (ps_ret pe_bl)) pss_nil)
      (pss_cons (ps_if (PW.pt (pw_or (pt_not (pt_val (pe_c c_law_is hr (pa_cons pe_int (pa_cons (pe_tup (pa_cons pe_int (pa_cons pe_int (pa_cons pe_int (pa_cons pe_int pa_nil))))) (pa_cons pe_str pa_nil)))))) (pw_or1 (pt_not (pt_val (pe_c c_law_is hr (pa_cons pe_int (pa_cons (pe_tup (pa_cons (pe_op op_add pe_int (pe_op op_mod (pv 3) pe_int)) (pa_cons pe_int (pa_cons pe_int (pa_cons pe_int pa_nil))))) (pa_cons pe_str pa_nil))))))))) (pss_one (ps_ret pe_bl)) pss_nil)
      (pss_one (ps_for PassesOwn.never rfl (pi_tup (pe_tup (pa_cons pe_int (pa_cons pe_int (pa_cons pe_int pa_nil))))) (pg_name (i := 11) nd rfl (.inl rfl)) (pss_cons (ps_if (PW.pt (pw_or (pt_not (pt_val (pe_c c_law_is hr (pa_cons (pv 11) (pa_cons (pe_tup (pa_cons (pv 10) (pa_cons pe_int (pa_cons pe_int (pa_cons (pv 7) pa_nil))))) (pa_cons pe_str pa_nil)))))) (pw_or1 (pt_not (pt_val (pe_c c_law_is hr (pa_cons (pv 11) (pa_cons (pe_tup (pa_cons (pv 10) (pa_cons pe_int (pa_cons pe_int (pa_cons pe_int pa_nil))))) (pa_cons pe_str pa_nil))))))))) (pss_one (ps_ret pe_bl)) pss_nil)
        (pss_one (ps_if (PW.pt (pw_or (pt_not (pt_val (pe_c c_law_is hr (pa_cons (pv 11) (pa_cons (pe_tup (pa_cons pe_str (pa_cons pe_int (pa_cons pe_int (pa_cons pe_int pa_nil))))) (pa_cons pe_str pa_nil)))))) (pw_or1 (pt_cmp (pc_notN (pe_c c_law_asked hr (pa_cons (pv 11) (pa_cons pe_str (pa_cons pe_int (pa_cons pe_int (pa_cons pe_int pa_nil))))))))))) (pss_one (ps_ret pe_bl)) pss_nil)))))))))))))))))))
    (pss_one (ps_ret pe_bl))))), ?_⟩
    refine ⟨.ref a, rfl, a, ns, none, rfl, hS, hlen, trivial, fun H1 l n s1 hh hn => ?_⟩
    have hz : (txt l).length = 2 * n := by rw [txt_len, hh.2]
    have hhalf := half_len n hz
    refine ⟨_, rfl, txt l, rfl, sz (by rw [hz]; omega), _, 2, rfl, rfl, ⟨by decide, by decide⟩, ?_⟩
    show gName 2 (V.int (((txt l).length : Int) / 2)) _ _ _
    rw [hhalf]
    refine ⟨.ref a, rfl, 20, rfl, a, ns.map V.int, rfl, s1.seq hS, fun c0 nc0 => ?_⟩
    have hcl : (cutV (ns.map V.int) none (some 20)).length ≤ 63 := Nat.le_trans (cutV_length _ _ _) (by rw [List.length_map]; exact hlen)
    refine ⟨sz (show 1 ≤ 1000000 by decide), fun d0 nd0 => ?_⟩
    have dc : c0 ≠ d0 := ne_of_none upd_same nd0
    refine ⟨c0, d0, cutV (ns.map V.int) none (some 20), [.int 5], rfl, rfl, by rw [upd_ne dc]; exact upd_same, upd_same, sz (by show _ + 1 ≤ 1000000; omega), fun c nc => ?_⟩
    have cint : ∀ (i : Nat) (v : V), (cutV (ns.map V.int) none (some 20) ++ [.int 5])[i]? = some v → ∃ z, v = .int z := fun i v h => cat_int h
    generalize cutV (ns.map V.int) none (some 20) ++ [.int 5] = xs at cint ⊢
    refine ⟨c, xs, rfl, .inl (.inl upd_same), ?_⟩
    refine for_it (walk_enum (K := K) (a := c) (xs := xs)) (fun i σ H' => ∃ (y3 y4 y5 y6 y7 y8 y9 y10 y11 : Option V), σ = [some (.ref a), some (.str (txt l)), some (.int (n : Int)), y3, y4, y5, y6, y7, y8, y9, y10, y11] ∧ H' c = some (.lst xs)) ?_ ?_ ?_ ?_
    · exact ⟨none, none, none, none, none, none, none, none, none, rfl, upd_same⟩
    · rintro i σ H' _ ⟨_, _, _, _, _, _, _, _, _, rfl, ec⟩
      exact .inl (.inl ec)
    · rintro i x σ H2 H3 hi ⟨_, _, _, _, _, _, _, _, _, rfl, ec⟩ ⟨T, k0, v, rfl, nT, rfl, ek, ev⟩
      have ek : k0 = .int (i : Int) := (Option.some.inj ek).symm
      subst ek
      obtain ⟨z, rfl⟩ := cint i v ev
      refine ⟨T, _, rfl, .inl (.inl upd_same), rfl, _, _, rfl, _, _, rfl, rfl, ?_⟩
      replace ec := same_upd (o := .tup [.int (i : Int), .int z]) nT _ _ ec
      generalize upd H2 T (.tup [.int (i : Int), .int z]) = H4 at ec ⊢
      refine ⟨.int z, rfl, .int (i : Int), rfl, z, (i : Int), rfl, ?_⟩
      have h0 := mixed_nonneg z i
      generalize mixed z i = mk at h0 ⊢
      -- what is wrong
      obtain ⟨j1, ej1, hj1⟩ : ∃ j : Nat, mk % 6 = (j : Int) ∧ j < 6 := ⟨(mk % 6).toNat, by omega, by omega⟩
      obtain ⟨j2, ej2, hj2⟩ : ∃ j : Nat, mk / 6 % 5 = (j : Int) ∧ j < 5 := ⟨(mk / 6 % 5).toNat, by omega, by omega⟩
      obtain ⟨j3, ej3, hj3⟩ : ∃ j : Nat, mk / 30 % 5 = (j : Int) ∧ j < 5 := ⟨(mk / 30 % 5).toNat, by omega, by omega⟩
      obtain ⟨j4, ej4, hj4⟩ : ∃ j : Nat, mk / 150 % 4 = (j : Int) ∧ j < 4 := ⟨(mk / 150 % 4).toNat, by omega, by omega⟩
      obtain ⟨j5, ej5, hj5⟩ : ∃ j : Nat, mk / 2000 % 7 = (j : Int) ∧ j < 7 := ⟨(mk / 2000 % 7).toNat, by omega, by omega⟩
      obtain ⟨bad, gb, fb, nb⟩ := pick_bad (x := (10 : Int) ^ (30 : Int).toNat) (by decide +kernel) hj1
      obtain ⟨over, go, fo, no⟩ := pick_over (x := (10 : Int) ^ (30 : Int).toNat) (by decide +kernel) hj2
      obtain ⟨far, gf, ff, nf⟩ := pick_far (x := (10 : Int) ^ (40 : Int).toNat) (y := mk / 500 % 3) (by omega) (by decide +kernel) hj3
      obtain ⟨place, gp, fp, npl⟩ := pick_place (y := mk / 500 % 9) (by omega) hj4
      obtain ⟨wrong, gw, wl, wh⟩ := pick_wrong hh.2 hn hj5
      refine ⟨1, rfl, 10, 30, rfl, rfl, ⟨by decide, by decide, by decide⟩, _, rfl, sz (show 6 ≤ 1000000 by decide), fun p1 n1 => ?_⟩
      refine ⟨.int mk, rfl, mk, 6, rfl, rfl, (by show (0 : Int) < 6; decide), p1, _, _, bad, rfl, rfl, .inl (.inl upd_same), at_of ej1 gb, ?_⟩
      replace ec := same_upd (o := .lst [V.int (-1), .int 201, .bl true, .non, .str "1", .int (-((10 : Int) ^ (30 : Int).toNat))]) n1 _ _ ec
      generalize upd H4 p1 (.lst [V.int (-1), .int 201, .bl true, .non, .str "1", .int (-((10 : Int) ^ (30 : Int).toNat))]) = H5 at ec ⊢
      refine ⟨1, rfl, 10, 30, rfl, rfl, ⟨by decide, by decide, by decide⟩, sz (show 5 ≤ 1000000 by decide), fun p2 n2 => ?_⟩
      refine ⟨.int mk, rfl, mk, 6, rfl, rfl, ⟨by decide, by decide⟩, mk / 6, 5, rfl, rfl, (by show (0 : Int) < 5; decide), p2, _, _, over, rfl, rfl, .inl (.inl upd_same), at_of ej2 go, ?_⟩
      replace ec := same_upd (o := .lst [V.int (-1), .int 201, .bl false, .str "2", .int ((10 : Int) ^ (30 : Int).toNat)]) n2 _ _ ec
      generalize upd H5 p2 (.lst [V.int (-1), .int 201, .bl false, .str "2", .int ((10 : Int) ^ (30 : Int).toNat)]) = H6 at ec ⊢
      refine ⟨1, rfl, .int 3, .non, rfl, rfl, rfl, fun _ _ => ⟨3, none, rfl, by decide, trivial, fun H7 s7 => ?_⟩, fun z => absurd z (by decide)⟩
      replace ec := s7 _ _ ec
      refine ⟨.int mk, rfl, mk, 500, rfl, rfl, ⟨by decide, by decide⟩, mk / 500, 3, rfl, rfl, (by show (0 : Int) < 3; decide), _, _, rfl, rfl, 10, 40, rfl, rfl, ⟨by decide, by decide, by decide⟩, sz (show 5 ≤ 1000000 by decide), fun p3 n3 => ?_⟩
      refine ⟨.int mk, rfl, mk, 30, rfl, rfl, ⟨by decide, by decide⟩, mk / 30, 5, rfl, rfl, (by show (0 : Int) < 5; decide), p3, _, _, far, rfl, rfl, .inl (.inl upd_same), at_of ej3 gf, ?_⟩
      refine ⟨1, rfl, .int mk, rfl, mk, 500, rfl, rfl, ⟨by decide, by decide⟩, mk / 500, 9, rfl, rfl, (by show (0 : Int) < 9; decide), 6, mk / 500 % 9, rfl, rfl, sz (show 4 ≤ 1000000 by decide), fun p4 n4 => ?_⟩
      refine ⟨.int mk, rfl, mk, 150, rfl, rfl, ⟨by decide, by decide⟩, mk / 150, 4, rfl, rfl, (by show (0 : Int) < 4; decide), p4, _, _, place, rfl, rfl, .inl (.inl upd_same), at_of ej4 gp, ?_⟩
      refine ⟨_, rfl, txt l, "x", rfl, rfl, sz (by rw [hz]; show _ + 1 ≤ 1000000; omega), _, rfl, txt l, "u", rfl, rfl, sz (by rw [hz]; show _ + 1 ≤ 1000000; omega), sz (show 7 ≤ 1000000 by decide), fun p5 n5 => ?_⟩
      refine ⟨.int mk, rfl, mk, 2000, rfl, rfl, ⟨by decide, by decide⟩, mk / 2000, 7, rfl, rfl, (by show (0 : Int) < 7; decide), p5, _, _, .str wrong, rfl, rfl, .inl (.inl upd_same), at_of ej5 gw, ?_⟩
      have b1 : Bad 0 bad (.int 0) (.int 0) over 1 := .counted fb fo (.inl nb)
      have b2 : Bad 0 (.int (n : Int)) (.int 0) (.int 0) over 1 := .counted rfl fo (.inr no)
      have b3 : Bad 1 bad (.int 3) (.int 0) .non 1 := .ways fb rfl rfl (.inl nb)
      have b4 : ∀ v, flatV v = true → numB v 400 = false → Bad 1 (.int 3) v (.int 0) .non 1 := fun v f nv => .ways rfl f rfl (.inr (.inl nv))
      have b5 : Bad 1 (.int 3) (.int 3) (.int 0) over 1 := .ways rfl rfl fo (.inr (.inr no))
      have b6 : Bad 2 bad far (.int 0) over 1 := .rowAt fb ff fo (.inl nb)
      have b7 : Bad 2 (.int 3) far (.int 0) over 1 := .rowAt rfl ff fo (.inr no)
      have b8 : Bad 2 (.int 3) far (.int 0) .non 2 := Bad.rowAtR (n := 3) (co := none) ff (by decide) trivial nf
      have b9 : Bad 3 (.int 3) far place over 1 := .signAt rfl ff fp fo (.inr no)
      have b10 : Bad 3 (.int 3) far place .non 2 := Bad.signAtR (n := 3) (co := none) ff fp (by decide) trivial nf
      have b11 : Bad 3 (.int 3) (.int 2) place .non 3 := Bad.signAtP (n := 3) (r := 2) (co := none) fp (by decide) trivial (by rw [cnt3]; decide) npl
      have b12 : Bad 3 (.int 0) (.int 0) (.int 0) .non 3 := Bad.signAtP (n := 0) (r := 0) (co := none) rfl (by decide) trivial (by decide +kernel) (by decide)
      have b13 : Bad 2 (.int 3) (.int 0) (.int 0) (.int 0) 2 := Bad.rowAtR (n := 3) (co := some 0) rfl (by decide) (show 0 ≤ 200 by decide) (by rw [zero0 3 (by decide) (by decide)]; decide)
      have b14 : Bad 3 (.int (1 + (i : Int) % 9)) (.int 0) (.int 0) (.int 0) 2 := by
        obtain ⟨m, em, hm1, hm2⟩ : ∃ m : Nat, 1 + (i : Int) % 9 = (m : Int) ∧ 1 ≤ m ∧ m < 10 := ⟨(1 + (i : Int) % 9).toNat, by omega, by omega, by omega⟩
        rw [em]
        exact Bad.signAtR (n := m) (co := some 0) rfl rfl (by omega) (show 0 ≤ 200 by decide) (by rw [zero0 m hm2 hm1]; decide)
      -- tests
      refine ⟨_, rfl, _, rfl, sz (show 4 ≤ 1000000 by decide), fun p np => ⟨0, p, bad, .int 0, .int 0, over, 1, rfl, .inl (.inl upd_same), by decide, b1, fun HX sX => ⟨true, rfl, ?_⟩⟩⟩
      replace ec := sX _ _ (same_upd np _ _ (same_upd n5 _ _ (same_upd n4 _ _ (same_upd n3 _ _ ec))))
      clear sX np
      refine iteF ?_
      refine ⟨_, rfl, _, rfl, sz (show 4 ≤ 1000000 by decide), fun p np => ⟨0, p, .int (n : Int), .int 0, .int 0, over, 1, rfl, .inl (.inl upd_same), by decide, b2, fun HX sX => ⟨true, rfl, ?_⟩⟩⟩
      replace ec := sX _ _ (same_upd np _ _ ec)
      clear sX np
      refine iteF ?_
      refine ⟨_, rfl, sz (show 4 ≤ 1000000 by decide), fun p np => ⟨1, p, bad, .int 3, .int 0, .non, 1, rfl, .inl (.inl upd_same), by decide, b3, fun HX sX => ⟨true, rfl, ?_⟩⟩⟩
      replace ec := sX _ _ (same_upd np _ _ ec)
      clear sX np
      refine iteF ?_
      obtain ⟨j6, ej6, hj6⟩ : ∃ j : Nat, (i : Int) % 3 = (j : Int) ∧ j < 3 := ⟨((i : Int) % 3).toNat, by omega, by omega⟩
      obtain ⟨left, gl, fl, nl⟩ := pick_left hj6
      refine ⟨1, rfl, sz (show 3 ≤ 1000000 by decide), fun pl npl => ?_⟩
      refine ⟨.int (i : Int), rfl, (i : Int), 3, rfl, rfl, (by show (0 : Int) < 3; decide), pl, _, _, left, rfl, rfl, .inl (.inl upd_same), at_of ej6 gl, ?_⟩
      replace ec := same_upd (o := .lst [.int (-1), .int 401, .bl true]) npl _ _ ec
      refine ⟨sz (show 4 ≤ 1000000 by decide), fun p np => ⟨1, p, .int 3, left, .int 0, .non, 1, rfl, .inl (.inl upd_same), by decide, (b4 left fl nl), fun HX sX => ⟨true, rfl, ?_⟩⟩⟩
      replace ec := sX _ _ (same_upd np _ _ ec)
      clear sX np
      refine iteF ?_
      refine ⟨_, rfl, sz (show 4 ≤ 1000000 by decide), fun p np => ⟨1, p, .int 3, .int 3, .int 0, over, 1, rfl, .inl (.inl upd_same), by decide, b5, fun HX sX => ⟨true, rfl, ?_⟩⟩⟩
      replace ec := sX _ _ (same_upd np _ _ ec)
      clear sX np
      refine iteF ?_
      refine ⟨_, rfl, _, rfl, _, rfl, sz (show 4 ≤ 1000000 by decide), fun p np => ⟨2, p, bad, far, .int 0, over, 1, rfl, .inl (.inl upd_same), by decide, b6, fun HX sX => ⟨true, rfl, ?_⟩⟩⟩
      replace ec := sX _ _ (same_upd np _ _ ec)
      clear sX np
      refine iteF ?_
      refine ⟨_, rfl, _, rfl, sz (show 4 ≤ 1000000 by decide), fun p np => ⟨2, p, .int 3, far, .int 0, over, 1, rfl, .inl (.inl upd_same), by decide, b7, fun HX sX => ⟨true, rfl, ?_⟩⟩⟩
      replace ec := sX _ _ (same_upd np _ _ ec)
      clear sX np
      refine iteF ?_
      refine ⟨_, rfl, sz (show 4 ≤ 1000000 by decide), fun p np => ⟨2, p, .int 3, far, .int 0, .non, 2, rfl, .inl (.inl upd_same), by decide, b8, fun HX sX => ⟨true, rfl, ?_⟩⟩⟩
      replace ec := sX _ _ (same_upd np _ _ ec)
      clear sX np
      refine iteF ?_
      refine ⟨_, rfl, _, rfl, _, rfl, sz (show 4 ≤ 1000000 by decide), fun p np => ⟨3, p, .int 3, far, place, over, 1, rfl, .inl (.inl upd_same), by decide, b9, fun HX sX => ⟨true, rfl, ?_⟩⟩⟩
      replace ec := sX _ _ (same_upd np _ _ ec)
      clear sX np
      refine iteF ?_
      refine ⟨_, rfl, _, rfl, sz (show 4 ≤ 1000000 by decide), fun p np => ⟨3, p, .int 3, far, place, .non, 2, rfl, .inl (.inl upd_same), by decide, b10, fun HX sX => ⟨true, rfl, ?_⟩⟩⟩
      replace ec := sX _ _ (same_upd np _ _ ec)
      clear sX np
      refine iteF ?_
      refine ⟨_, rfl, sz (show 4 ≤ 1000000 by decide), fun p np => ⟨3, p, .int 3, .int 2, place, .non, 3, rfl, .inl (.inl upd_same), by decide, b11, fun HX sX => ⟨true, rfl, ?_⟩⟩⟩
      replace ec := sX _ _ (same_upd np _ _ ec)
      clear sX np
      refine iteF ?_
      refine ⟨sz (show 4 ≤ 1000000 by decide), fun p np => ⟨3, p, .int 0, .int 0, .int 0, .non, 3, rfl, .inl (.inl upd_same), by decide, b12, fun HX sX => ⟨true, rfl, ?_⟩⟩⟩
      replace ec := sX _ _ (same_upd np _ _ ec)
      clear sX np
      refine iteF ?_
      refine ⟨sz (show 4 ≤ 1000000 by decide), fun p np => ⟨2, p, .int 3, .int 0, .int 0, .int 0, 2, rfl, .inl (.inl upd_same), by decide, b13, fun HX sX => ⟨true, rfl, ?_⟩⟩⟩
      replace ec := sX _ _ (same_upd np _ _ ec)
      clear sX np
      refine iteF ?_
      refine ⟨_, rfl, (i : Int), 9, rfl, rfl, (by show (0 : Int) < 9; decide), 1, (i : Int) % 9, rfl, rfl, sz (show 4 ≤ 1000000 by decide), fun p np => ⟨3, p, .int (1 + (i : Int) % 9), .int 0, .int 0, .int 0, 2, rfl, .inl (.inl upd_same), by decide, b14, fun HX sX => ⟨true, rfl, ?_⟩⟩⟩
      replace ec := sX _ _ (same_upd np _ _ ec)
      clear sX np
      refine iteF ?_
      -- the three of a row
      refine ⟨sz (show 3 ≤ 1000000 by decide), fun tp ntp => ?_⟩
      refine ⟨tp, rfl, ⟨[.int 4, .int 5, .int 6], .inl (.inl upd_same)⟩, ?_⟩
      refine for_tup (K := K) (a := tp) (xs := [.int 4, .int 5, .int 6]) (fun _ σ H' => ∃ y, σ = [some (.ref a), some (.str (txt l)), some (.int (n : Int)), some (.int (i : Int)), some (.int z), some (.int mk), some bad, some over, some far, some place, some (.str wrong), y] ∧ H' c = some (.lst xs) ∧ H' tp = some (.tup [.int 4, .int 5, .int 6])) ?_ ?_ ?_ ?_
      · exact ⟨_, rfl, same_upd ntp _ _ ec, upd_same⟩
      · rintro _ σ H' _ ⟨_, _, _, et⟩
        exact .inl (.inl et)
      · rintro t x σ HC hx ⟨y, rfl, ec, et⟩
        obtain ⟨way, rfl, hw⟩ : ∃ way : Int, x = .int way ∧ (way = 4 ∨ way = 5 ∨ way = 6) := by
          have hm := List.mem_of_getElem? hx
          simp only [List.mem_cons, List.mem_nil_iff, or_false] at hm
          rcases hm with h | h | h
          · exact ⟨4, h, .inl rfl⟩
          · exact ⟨5, h, .inr (.inl rfl)⟩
          · exact ⟨6, h, .inr (.inr rfl)⟩
        have d1 : Bad way (.str wrong) (.int 0) (.int 0) over 1 := .rowC hw fo wl no
        have d2 : Bad way (.str wrong) (.int 0) (.int 0) (.int 9) 0 := Bad.rowN (co := some 9) hw wl (show 9 ≤ 200 by decide) wh
        have d3 : Bad way (.str "uudd") (.int 0) (.int 0) (.int 1) 0 := Bad.rowN (co := some 1) hw (by decide +kernel) (show 1 ≤ 200 by decide) (by decide +kernel)
        refine ⟨_, rfl, _, rfl, _, rfl, sz (show 4 ≤ 1000000 by decide), fun p np => ⟨way, p, .str wrong, .int 0, .int 0, over, 1, rfl, .inl (.inl upd_same), by decide, d1, fun HX sX => ⟨true, rfl, ?_⟩⟩⟩
        replace ec := sX _ _ (same_upd np _ _ ec)
        replace et := sX _ _ (same_upd np _ _ et)
        clear sX np
        refine iteF ?_
        refine ⟨_, rfl, _, rfl, sz (show 4 ≤ 1000000 by decide), fun p np => ⟨way, p, .str wrong, .int 0, .int 0, .int 9, 0, rfl, .inl (.inl upd_same), by decide, d2, fun HX sX => ⟨true, rfl, ?_⟩⟩⟩
        replace ec := sX _ _ (same_upd np _ _ ec)
        replace et := sX _ _ (same_upd np _ _ et)
        clear sX np
        refine iteF ?_
        refine ⟨_, rfl, sz (show 4 ≤ 1000000 by decide), fun p np => ⟨way, p, .str "uudd", .int 0, .int 0, .int 1, 0, rfl, .inl (.inl upd_same), by decide, d3, fun HX sX => ⟨true, rfl, ?_⟩⟩⟩
        replace ec := sX _ _ (same_upd np _ _ ec)
        replace et := sX _ _ (same_upd np _ _ et)
        clear sX np
        refine iteF ?_
        refine ⟨_, rfl, way, .str "uudd", .int 0, .int 0, .int 2, rfl, .inr ⟨hw, ⟨[true, true, false, false], 2, some 2, congrArg V.str uudd_txt, rfl, ⟨by decide +kernel, rfl⟩, by decide, (show 2 ≤ 200 by decide)⟩, fun HX sX => ⟨false, rfl, ?_⟩⟩⟩
        refine iteF ?_
        exact ⟨_, rfl, sX _ _ ec, sX _ _ et⟩
      · rintro σ HC ⟨y, rfl, ec, _⟩
        exact ⟨_, _, _, _, _, _, _, _, _, rfl, ec⟩
    · rintro σ H2 ⟨_, _, _, _, _, _, _, _, _, rfl, ec⟩
      exact q _
end
end Hr
namespace Hr
open PySem PySem.Spec PyProof.Rows L2
/-- the eight classes by their numbers -/
def eight (c0 c1 c2 c3 c4 c5 c6 c7 : Addr) : Nat → Addr
  | 0 => c0 | 1 => c1 | 2 => c2 | 3 => c3 | 4 => c4 | 5 => c5 | 6 => c6 | _ => c7
theorem kit_eight {K : PySem.W.Frag} {t : Value} {k : Nat} {c0 c1 c2 c3 c4 c5 c6 c7 : Addr} (h0 : PySem.W.kitOne K t (.ref c0) = some (decide (0 = k))) (h1 : PySem.W.kitOne K t (.ref c1) = some (decide (1 = k))) (h2 : PySem.W.kitOne K t (.ref c2) = some (decide (2 = k)))
    (h3 : PySem.W.kitOne K t (.ref c3) = some (decide (3 = k))) (h4 : PySem.W.kitOne K t (.ref c4) = some (decide (4 = k))) (h5 : PySem.W.kitOne K t (.ref c5) = some (decide (5 = k))) (h6 : PySem.W.kitOne K t (.ref c6) = some (decide (6 = k))) (h7 : PySem.W.kitOne K t (.ref c7) = some (decide (7 = k))) :
    ∀ j, j < 8 → PySem.W.kitOne K t (.ref (eight c0 c1 c2 c3 c4 c5 c6 c7 j)) = some (decide (j = k))
  | 0, _ => h0 | 1, _ => h1 | 2, _ => h2 | 3, _ => h3 | 4, _ => h4 | 5, _ => h5 | 6, _ => h6 | 7, _ => h7
  | j + 8, h => absurd h (by omega)
end Hr
/-! ### what the top has written -/
namespace Hr
open PySem PySem.Spec PyProof.Rows L2
theorem all_mk {l : PySem.W.OpenLaw} {w : World} {K : PySem.W.Frag} {h : Heap} {mg : Str → Option Value} {fa f : Addr} (X : K.In h) (G : h.Ns mainGlobals mg) (hfa : mg "law" = some (.ref fa))
    {od an : Option Addr} {sl : Array (Option Value)} {oc kV dc pm cd ct : Value} {tk_MOST_UPS tk_MOST_HEIGHT tk_UP tk_DOWN tk_MOST_SIGNS : Tok} {CH c0 c1 c2 c3 c4 c5 c6 c7 : Addr}
    (a : PySem.W.nsIn K mainGlobals "law" = some (some (.ref f))) (l1 : K.lookup f = some ⟨oc, od, .func (PySem.W.fnOf "law" "law" (defArgs sLaw) (defBody sLaw) (defScope sLaw) .none kV dc pm an cd ct), sl⟩) (c : PySem.W.codeIn K cd "law" = true) (k : PySem.W.keepIn K (.ref f) = true)
    (d_hill_table : Def K mg "hill_table" sHill ["n", "ceiling"])
    (d_ways_table : Def K mg "ways_table" sTable ["left", "top"])
    (d_with_one_more_sign : Def K mg "with_one_more_sign" sStep ["found"])
    (d_lower_of : Def K mg "lower_of" sLow ["height", "ceiling"])
    (d_check_ceiling : Def K mg "check_ceiling" sChCei ["ceiling"])
    (d_heights : Def K mg "heights" sHeights ["row"])
    (d_is_row : Def K mg "is_row" sIsRow ["text"])
    (d_row_beside : Def K mg "row_beside" sBeside ["row", "ceiling", "step"])
    (d_number_of : Def K mg "number_of" sNumOf ["row", "table"])
    (d_row_of_number : Def K mg "row_of_number" sOfNum ["r", "table"])
    (d_ways_down : Def K mg "ways_down" sDown ["table", "height", "left"])
    (d_row_count : Def K mg "row_count" sCount ["table"])
    (d_law_mixed : Def K mg "_law_mixed" sMixed ["_law_cell", "_law_k"])
    (d_law_row : Def K mg "_law_row" sLRow ["_law_script", "_law_ceiling"])
    (d_law_word : Def K mg "_law_word" sWord ["_law_error"])
    (d_law_asked : Def K mg "_law_asked" sAsked ["_law_way", "_law_one", "_law_two", "_law_three", "_law_four"])
    (d_law_is : Def K mg "_law_is" sIs ["_law_way", "_law_handed", "_law_word_here"])
    (d_counted : DefD K mg "counted" sCounted ["n", "ceiling"])
    (d_is_hill : DefD K mg "is_hill" sIsHill ["row", "ceiling"])
    (d_rank : DefD K mg "rank" sRank ["row", "ceiling"])
    (d_row_at : DefD K mg "row_at" sRowAt ["n", "r", "ceiling"])
    (d_sign_at : DefD K mg "sign_at" sSignAt ["n", "r", "place", "ceiling"])
    (d_next_row : DefD K mg "next_row" sNext ["row", "ceiling"])
    (d_ahead_row : DefD K mg "ahead_row" sAhead ["row", "ceiling"])
    (d_ways : DefD K mg "ways" sWays ["height", "left", "ceiling"])
    (d_check_hill : DefD K mg "check_hill" sChHill ["row", "ceiling"])
    (d_is_number : DefV K mg "is_number" sIsNum ["value", "most", "least"] (.int 0))
    (d_check_number : DefV K mg "check_number" sChNum ["value", "most", "least"] (.int 0))
    (g_MOST_UPS : PySem.W.nsIn K mainGlobals "MOST_UPS" = some (some (.int 200 tk_MOST_UPS)))
    (g_MOST_HEIGHT : PySem.W.nsIn K mainGlobals "MOST_HEIGHT" = some (some (.int 200 tk_MOST_HEIGHT)))
    (g_UP : PySem.W.nsIn K mainGlobals "UP" = some (some (.str "u" tk_UP)))
    (g_DOWN : PySem.W.nsIn K mainGlobals "DOWN" = some (some (.str "d" tk_DOWN)))
    (g_MOST_SIGNS : PySem.W.nsIn K mainGlobals "MOST_SIGNS" = some (some (.int 400 tk_MOST_SIGNS)))
    (z_len : PySem.W.nsIn K mainGlobals "len" = some none)
    (z_range : PySem.W.nsIn K mainGlobals "range" = some none)
    (z_min : PySem.W.nsIn K mainGlobals "min" = some none)
    (z_max : PySem.W.nsIn K mainGlobals "max" = some none)
    (z_isinstance : PySem.W.nsIn K mainGlobals "isinstance" = some none)
    (z_int : PySem.W.nsIn K mainGlobals "int" = some none)
    (z_bool : PySem.W.nsIn K mainGlobals "bool" = some none)
    (z_str : PySem.W.nsIn K mainGlobals "str" = some none)
    (z_all : PySem.W.nsIn K mainGlobals "all" = some none)
    (z_reversed : PySem.W.nsIn K mainGlobals "reversed" = some none)
    (z_sum : PySem.W.nsIn K mainGlobals "sum" = some none)
    (z_zip : PySem.W.nsIn K mainGlobals "zip" = some none)
    (z_ValueError : PySem.W.nsIn K mainGlobals "ValueError" = some none)
    (z_enumerate : PySem.W.nsIn K mainGlobals "enumerate" = some none)
    (gc0 : PySem.W.nsIn K mainGlobals "NoRow" = some (some (.ref c0)))
    (gc1 : PySem.W.nsIn K mainGlobals "NoCount" = some (some (.ref c1)))
    (gc2 : PySem.W.nsIn K mainGlobals "NoRank" = some (some (.ref c2)))
    (gc3 : PySem.W.nsIn K mainGlobals "NoPlace" = some (some (.ref c3)))
    (gc4 : PySem.W.nsIn K mainGlobals "NoTree" = some (some (.ref c4)))
    (gc5 : PySem.W.nsIn K mainGlobals "NoPairs" = some (some (.ref c5)))
    (gc6 : PySem.W.nsIn K mainGlobals "NoTurn" = some (some (.ref c6)))
    (gc7 : PySem.W.nsIn K mainGlobals "NoText" = some (some (.ref c7)))
    (gH : PySem.W.nsIn K mainGlobals "HillError" = some (some (.ref CH)))
    (hHb : PySem.W.subIn K (.ref CH) (.type "BaseException") = some true)
    (hHd : PySem.W.hasDictIn K CH = true)
    (hHt : PySem.W.typeIn K (.ref CH) = some (.type "type"))
    (on : PySem.W.specialIn K (.builtin "object.__class__") "__get__" = some (some (.builtin "getset_descriptor.__get__")))
    (ot : PySem.W.takesIn K (.builtin "object.__class__") = some true)
    (x0 : PySem.W.excIn K c0 [.type "ValueError", .type "Exception", .type "BaseException", .type "object"] "ValueError.__new__" = true)
    (k0 : PySem.W.keepIn K (.ref c0) = true)
    (b0 : PySem.W.subIn K (.ref c0) (.type "BaseException") = some true)
    (t0 : PySem.W.typeIn K (.ref c0) = some (.type "type"))
    (s0 : PySem.W.subIn K (.ref c0) (.ref CH) = some true)
    (eg0 : PySem.W.findIn K (.ref c0) "__getattribute__" = some (some (.builtin "BaseException.__getattribute__")))
    (ek0 : PySem.W.findIn K (.ref c0) "__getattr__" = some none)
    (ed0 : PySem.W.hasDictIn K c0 = true)
    (ea0 : PySem.W.findIn K (.ref c0) "__class__" = some (some (.builtin "object.__class__")))
    (em0 : PySem.W.mroIn K c0 (.type "object") = some true)
    (ve0 : PySem.W.kitOne K (.ref c0) (.type "ValueError") = some true)
    (q0_0 : PySem.W.kitOne K (.ref c0) (.ref c0) = some true)
    (q0_1 : PySem.W.kitOne K (.ref c0) (.ref c1) = some false)
    (q0_2 : PySem.W.kitOne K (.ref c0) (.ref c2) = some false)
    (q0_3 : PySem.W.kitOne K (.ref c0) (.ref c3) = some false)
    (q0_4 : PySem.W.kitOne K (.ref c0) (.ref c4) = some false)
    (q0_5 : PySem.W.kitOne K (.ref c0) (.ref c5) = some false)
    (q0_6 : PySem.W.kitOne K (.ref c0) (.ref c6) = some false)
    (q0_7 : PySem.W.kitOne K (.ref c0) (.ref c7) = some false)
    (x1 : PySem.W.excIn K c1 [.type "ValueError", .type "Exception", .type "BaseException", .type "object"] "ValueError.__new__" = true)
    (k1 : PySem.W.keepIn K (.ref c1) = true)
    (b1 : PySem.W.subIn K (.ref c1) (.type "BaseException") = some true)
    (t1 : PySem.W.typeIn K (.ref c1) = some (.type "type"))
    (s1 : PySem.W.subIn K (.ref c1) (.ref CH) = some true)
    (eg1 : PySem.W.findIn K (.ref c1) "__getattribute__" = some (some (.builtin "BaseException.__getattribute__")))
    (ek1 : PySem.W.findIn K (.ref c1) "__getattr__" = some none)
    (ed1 : PySem.W.hasDictIn K c1 = true)
    (ea1 : PySem.W.findIn K (.ref c1) "__class__" = some (some (.builtin "object.__class__")))
    (em1 : PySem.W.mroIn K c1 (.type "object") = some true)
    (ve1 : PySem.W.kitOne K (.ref c1) (.type "ValueError") = some true)
    (q1_0 : PySem.W.kitOne K (.ref c1) (.ref c0) = some false)
    (q1_1 : PySem.W.kitOne K (.ref c1) (.ref c1) = some true)
    (q1_2 : PySem.W.kitOne K (.ref c1) (.ref c2) = some false)
    (q1_3 : PySem.W.kitOne K (.ref c1) (.ref c3) = some false)
    (q1_4 : PySem.W.kitOne K (.ref c1) (.ref c4) = some false)
    (q1_5 : PySem.W.kitOne K (.ref c1) (.ref c5) = some false)
    (q1_6 : PySem.W.kitOne K (.ref c1) (.ref c6) = some false)
    (q1_7 : PySem.W.kitOne K (.ref c1) (.ref c7) = some false)
    (x2 : PySem.W.excIn K c2 [.type "ValueError", .type "Exception", .type "BaseException", .type "object"] "ValueError.__new__" = true)
    (k2 : PySem.W.keepIn K (.ref c2) = true)
    (b2 : PySem.W.subIn K (.ref c2) (.type "BaseException") = some true)
    (t2 : PySem.W.typeIn K (.ref c2) = some (.type "type"))
    (s2 : PySem.W.subIn K (.ref c2) (.ref CH) = some true)
    (eg2 : PySem.W.findIn K (.ref c2) "__getattribute__" = some (some (.builtin "BaseException.__getattribute__")))
    (ek2 : PySem.W.findIn K (.ref c2) "__getattr__" = some none)
    (ed2 : PySem.W.hasDictIn K c2 = true)
    (ea2 : PySem.W.findIn K (.ref c2) "__class__" = some (some (.builtin "object.__class__")))
    (em2 : PySem.W.mroIn K c2 (.type "object") = some true)
    (ve2 : PySem.W.kitOne K (.ref c2) (.type "ValueError") = some true)
    (q2_0 : PySem.W.kitOne K (.ref c2) (.ref c0) = some false)
    (q2_1 : PySem.W.kitOne K (.ref c2) (.ref c1) = some false)
    (q2_2 : PySem.W.kitOne K (.ref c2) (.ref c2) = some true)
    (q2_3 : PySem.W.kitOne K (.ref c2) (.ref c3) = some false)
    (q2_4 : PySem.W.kitOne K (.ref c2) (.ref c4) = some false)
    (q2_5 : PySem.W.kitOne K (.ref c2) (.ref c5) = some false)
    (q2_6 : PySem.W.kitOne K (.ref c2) (.ref c6) = some false)
    (q2_7 : PySem.W.kitOne K (.ref c2) (.ref c7) = some false)
    (x3 : PySem.W.excIn K c3 [.type "ValueError", .type "Exception", .type "BaseException", .type "object"] "ValueError.__new__" = true)
    (k3 : PySem.W.keepIn K (.ref c3) = true)
    (b3 : PySem.W.subIn K (.ref c3) (.type "BaseException") = some true)
    (t3 : PySem.W.typeIn K (.ref c3) = some (.type "type"))
    (s3 : PySem.W.subIn K (.ref c3) (.ref CH) = some true)
    (eg3 : PySem.W.findIn K (.ref c3) "__getattribute__" = some (some (.builtin "BaseException.__getattribute__")))
    (ek3 : PySem.W.findIn K (.ref c3) "__getattr__" = some none)
    (ed3 : PySem.W.hasDictIn K c3 = true)
    (ea3 : PySem.W.findIn K (.ref c3) "__class__" = some (some (.builtin "object.__class__")))
    (em3 : PySem.W.mroIn K c3 (.type "object") = some true)
    (ve3 : PySem.W.kitOne K (.ref c3) (.type "ValueError") = some true)
    (q3_0 : PySem.W.kitOne K (.ref c3) (.ref c0) = some false)
    (q3_1 : PySem.W.kitOne K (.ref c3) (.ref c1) = some false)
    (q3_2 : PySem.W.kitOne K (.ref c3) (.ref c2) = some false)
    (q3_3 : PySem.W.kitOne K (.ref c3) (.ref c3) = some true)
    (q3_4 : PySem.W.kitOne K (.ref c3) (.ref c4) = some false)
    (q3_5 : PySem.W.kitOne K (.ref c3) (.ref c5) = some false)
    (q3_6 : PySem.W.kitOne K (.ref c3) (.ref c6) = some false)
    (q3_7 : PySem.W.kitOne K (.ref c3) (.ref c7) = some false)
    : ∃ fd : FuncData, (∀ (s : Shared) (v : Value), BindsTo s fd ⟨[v], []⟩ [("_law_script", v)]) ∧ ∀ base : Heap, K.In base → base.Ns mainGlobals mg → FnOk l.prog w K mg base CX0 9 fa fd ["_law_script"] (spLaw K) := by
  have e := hfa.symm.trans (PySem.W.mg_of X G a)
  cases e
  have F := fun_mk (st := sLaw) l1 c k
  refine ⟨PySem.W.fnOf "law" "law" (defArgs sLaw) (defBody sLaw) (defScope sLaw) .none kV dc pm an cd ct, fun s v => .of_eq rfl, fun base _ _ => ?_⟩
  have m_len := PySem.W.mg_none_of X G z_len
  have m_range := PySem.W.mg_none_of X G z_range
  have m_min := PySem.W.mg_none_of X G z_min
  have m_max := PySem.W.mg_none_of X G z_max
  have m_isinstance := PySem.W.mg_none_of X G z_isinstance
  have m_int := PySem.W.mg_none_of X G z_int
  have m_bool := PySem.W.mg_none_of X G z_bool
  have m_str := PySem.W.mg_none_of X G z_str
  have m_all := PySem.W.mg_none_of X G z_all
  have m_reversed := PySem.W.mg_none_of X G z_reversed
  have m_sum := PySem.W.mg_none_of X G z_sum
  have m_zip := PySem.W.mg_none_of X G z_zip
  have m_ValueError := PySem.W.mg_none_of X G z_ValueError
  have m_enumerate := PySem.W.mg_none_of X G z_enumerate
  have c_MOST_UPS := PySem.W.mg_of X G g_MOST_UPS
  have c_MOST_HEIGHT := PySem.W.mg_of X G g_MOST_HEIGHT
  have c_UP := PySem.W.mg_of X G g_UP
  have c_DOWN := PySem.W.mg_of X G g_DOWN
  have c_MOST_SIGNS := PySem.W.mg_of X G g_MOST_SIGNS
  have mc0 := PySem.W.mg_of X G gc0
  have mc1 := PySem.W.mg_of X G gc1
  have mc2 := PySem.W.mg_of X G gc2
  have mc3 := PySem.W.mg_of X G gc3
  have mc4 := PySem.W.mg_of X G gc4
  have mc5 := PySem.W.mg_of X G gc5
  have mc6 := PySem.W.mg_of X G gc6
  have mc7 := PySem.W.mg_of X G gc7
  have mH := PySem.W.mg_of X G gH
  have er0 : Err K mg "NoRow" c0 := ⟨mc0, x0, k0, b0, t0⟩
  have is0 : IsErr K (eight c0 c1 c2 c3 c4 c5 c6 c7) 0 := ⟨by decide, ⟨eg0, ek0, b0, ed0, ea0, on, ot, em0⟩, kit_eight q0_0 q0_1 q0_2 q0_3 q0_4 q0_5 q0_6 q0_7, ve0⟩
  have ex0 := PySem.W.exm_ref hHb hHd hHt s0
  have er1 : Err K mg "NoCount" c1 := ⟨mc1, x1, k1, b1, t1⟩
  have is1 : IsErr K (eight c0 c1 c2 c3 c4 c5 c6 c7) 1 := ⟨by decide, ⟨eg1, ek1, b1, ed1, ea1, on, ot, em1⟩, kit_eight q1_0 q1_1 q1_2 q1_3 q1_4 q1_5 q1_6 q1_7, ve1⟩
  have ex1 := PySem.W.exm_ref hHb hHd hHt s1
  have er2 : Err K mg "NoRank" c2 := ⟨mc2, x2, k2, b2, t2⟩
  have is2 : IsErr K (eight c0 c1 c2 c3 c4 c5 c6 c7) 2 := ⟨by decide, ⟨eg2, ek2, b2, ed2, ea2, on, ot, em2⟩, kit_eight q2_0 q2_1 q2_2 q2_3 q2_4 q2_5 q2_6 q2_7, ve2⟩
  have ex2 := PySem.W.exm_ref hHb hHd hHt s2
  have er3 : Err K mg "NoPlace" c3 := ⟨mc3, x3, k3, b3, t3⟩
  have is3 : IsErr K (eight c0 c1 c2 c3 c4 c5 c6 c7) 3 := ⟨by decide, ⟨eg3, ek3, b3, ed3, ea3, on, ot, em3⟩, kit_eight q3_0 q3_1 q3_2 q3_3 q3_4 q3_5 q3_6 q3_7, ve3⟩
  have ex3 := PySem.W.exm_ref hHb hHd hHt s3
  have cLow := cal_low (P := l.prog) (w := w) (base := base) d_lower_of m_min
  obtain ⟨cIsNumA, cIsNum⟩ := cal_isNumV (P := l.prog) (w := w) (base := base) d_is_number m_isinstance m_int m_bool
  obtain ⟨cChNumA, cChNum⟩ := cal_chNumX er1 d_check_number cIsNumA
  have cChCei := cal_chCeiX d_check_ceiling cChNum c_MOST_HEIGHT
  have cStep := cal_step (P := l.prog) (w := w) (base := base) d_with_one_more_sign m_len m_range
  have cTable := cal_table d_ways_table cStep m_range
  have cHill := cal_hill d_hill_table cTable cLow
  obtain ⟨cC1, cC2⟩ := cal_countedX d_counted cHill cChNum cChCei c_MOST_UPS
  have cWays := cal_waysX d_ways cTable cLow cChNum cChCei c_MOST_HEIGHT c_MOST_SIGNS
  have cIsRow := cal_isRow (P := l.prog) (w := w) (base := base) d_is_row m_isinstance m_str m_all c_UP c_DOWN
  have cHeights := cal_heightsX er0 d_heights cIsRow c_UP
  obtain ⟨cIsHill, cIsHill1⟩ := cal_isHill d_is_hill cIsRow cHeights m_min m_max
  obtain ⟨cChHill, cChHill1⟩ := cal_chHillX er0 d_check_hill cIsHill
  have cDown := cal_down (P := l.prog) (w := w) (base := base) d_ways_down
  have cCount := cal_count (P := l.prog) (w := w) (base := base) d_row_count
  have cNumOf := cal_numOf d_number_of cDown m_len c_UP
  have cOfNum := cal_ofNum d_row_of_number cDown m_len m_range m_reversed c_UP c_DOWN
  have cRank := cal_rankX d_rank cChCei cChHill cHill cNumOf m_len
  have cRowAt := cal_rowAtX er2 d_row_at cChNum cChCei cIsNum cHill cOfNum cCount c_MOST_UPS
  have cSign := cal_signAtX er3 d_sign_at cRowAt cIsNum m_len
  have cBeside := cal_besideX d_row_beside cChCei cChHill cHill cNumOf cIsNum cOfNum cCount m_len
  have cNext := cal_nextX d_next_row cBeside
  have cAhead := cal_aheadX d_ahead_row cBeside
  have cMixed := cal_mixed (P := l.prog) (w := w) (base := base) d_law_mixed
  have cLRow := cal_lrow d_law_row cMixed m_len m_min m_max m_sum m_range
  have cWord := cal_word (cs := (eight c0 c1 c2 c3 c4 c5 c6 c7)) (P := l.prog) (w := w) (base := base) d_law_word mc0 mc1 mc2 mc3 mc4 mc5 mc6 mc7 m_isinstance m_zip
  have exs : ∀ k, k < 4 → PySem.W.exmOne K (.ref ((eight c0 c1 c2 c3 c4 c5 c6 c7) k)) (.ref CH) = some true := fun k hk => match k, hk with | 0, _ => ex0 | 1, _ => ex1 | 2, _ => ex2 | 3, _ => ex3
  have ers : ∀ k, k < 4 → IsErr K (eight c0 c1 c2 c3 c4 c5 c6 c7) k := fun k hk => match k, hk with | 0, _ => is0 | 1, _ => is1 | 2, _ => is2 | 3, _ => is3
  have cAsked := cal_asked (cs := (eight c0 c1 c2 c3 c4 c5 c6 c7)) d_law_asked mH exs cC1 cWays cRowAt cSign cRank cNext cAhead
  have cIs := cal_is (cs := (eight c0 c1 c2 c3 c4 c5 c6 c7)) d_law_is ers cAsked cWord m_isinstance m_ValueError
  exact ok_law (cs := (eight c0 c1 c2 c3 c4 c5 c6 c7)) F cMixed cLRow cC2 cAsked cIs m_len m_enumerate
end Hr
open PySem PySem.W PyProof.Rows
set_option maxHeartbeats 0 in
theorem PySem.Challenge.cw_hillrows_k06_ranks_refused_holds : PySem.Challenge.rw_hillrows_k06_ranks_refused.Holds := by
  w_on; o_law; k_head; (case hw => w_witness2)
  k_fill
  refine L2.walk_of (l := PySem.Challenge.rw_hillrows_k06_ranks_refused) (n := 63) (k := 9) (x := "_law_script") (CX := fun _ => L2.CX0) (sp := fun w => Hr.spLaw _) rfl (by decide) rfl ⟨rfl, by decide, by decide⟩ (fun w h Y => PySem.W.kIn_of Y) ?F (fun _ _ a ns hl _ hS => ⟨a, ns, rfl, hS, hl, fun _ => rfl⟩) (fun _ _ _ _ _ h => h)
  case F =>
    intro w mg fa h KX G hmg
    refine' Hr.all_mk KX G hmg ?a ?l1 ?c ?k ?d_hill_table ?d_ways_table ?d_with_one_more_sign ?d_lower_of ?d_check_ceiling ?d_heights ?d_is_row ?d_row_beside ?d_number_of ?d_row_of_number ?d_ways_down ?d_row_count ?d_law_mixed ?d_law_row ?d_law_word ?d_law_asked ?d_law_is ?d_counted ?d_is_hill ?d_rank ?d_row_at ?d_sign_at ?d_next_row ?d_ahead_row ?d_ways ?d_check_hill ?d_is_number ?d_check_number ?g_MOST_UPS ?g_MOST_HEIGHT ?g_UP ?g_DOWN ?g_MOST_SIGNS ?z_len ?z_range ?z_min ?z_max ?z_isinstance ?z_int ?z_bool ?z_str ?z_all ?z_reversed ?z_sum ?z_zip ?z_ValueError ?z_enumerate ?gc0 ?gc1 ?gc2 ?gc3 ?gc4 ?gc5 ?gc6 ?gc7 ?gH ?hHb ?hHd ?hHt ?on ?ot ?x0 ?k0 ?b0 ?t0 ?s0 ?eg0 ?ek0 ?ed0 ?ea0 ?em0 ?ve0 ?q0_0 ?q0_1 ?q0_2 ?q0_3 ?q0_4 ?q0_5 ?q0_6 ?q0_7 ?x1 ?k1 ?b1 ?t1 ?s1 ?eg1 ?ek1 ?ed1 ?ea1 ?em1 ?ve1 ?q1_0 ?q1_1 ?q1_2 ?q1_3 ?q1_4 ?q1_5 ?q1_6 ?q1_7 ?x2 ?k2 ?b2 ?t2 ?s2 ?eg2 ?ek2 ?ed2 ?ea2 ?em2 ?ve2 ?q2_0 ?q2_1 ?q2_2 ?q2_3 ?q2_4 ?q2_5 ?q2_6 ?q2_7 ?x3 ?k3 ?b3 ?t3 ?s3 ?eg3 ?ek3 ?ed3 ?ea3 ?em3 ?ve3 ?q3_0 ?q3_1 ?q3_2 ?q3_3 ?q3_4 ?q3_5 ?q3_6 ?q3_7
    (case a => k_is); (case l1 => k_is); (case c => k_is); (case k => k_is)
    case d_hill_table =>
      refine' Hr.def_mk KX G (fun _ _ _ _ _ _ us hl => match us, hl with | [_, _], _ => rfl) ?a ?l ?c ?k
      (case a => k_is); (case l => k_is); (case c => k_is); (case k => k_is)
    case d_ways_table =>
      refine' Hr.def_mk KX G (fun _ _ _ _ _ _ us hl => match us, hl with | [_, _], _ => rfl) ?a ?l ?c ?k
      (case a => k_is); (case l => k_is); (case c => k_is); (case k => k_is)
    case d_with_one_more_sign =>
      refine' Hr.def_mk KX G (fun _ _ _ _ _ _ us hl => match us, hl with | [_], _ => rfl) ?a ?l ?c ?k
      (case a => k_is); (case l => k_is); (case c => k_is); (case k => k_is)
    case d_lower_of =>
      refine' Hr.def_mk KX G (fun _ _ _ _ _ _ us hl => match us, hl with | [_, _], _ => rfl) ?a ?l ?c ?k
      (case a => k_is); (case l => k_is); (case c => k_is); (case k => k_is)
    case d_check_ceiling =>
      refine' Hr.def_mk KX G (fun _ _ _ _ _ _ us hl => match us, hl with | [_], _ => rfl) ?a ?l ?c ?k
      (case a => k_is); (case l => k_is); (case c => k_is); (case k => k_is)
    case d_heights =>
      refine' Hr.def_mk KX G (fun _ _ _ _ _ _ us hl => match us, hl with | [_], _ => rfl) ?a ?l ?c ?k
      (case a => k_is); (case l => k_is); (case c => k_is); (case k => k_is)
    case d_is_row =>
      refine' Hr.def_mk KX G (fun _ _ _ _ _ _ us hl => match us, hl with | [_], _ => rfl) ?a ?l ?c ?k
      (case a => k_is); (case l => k_is); (case c => k_is); (case k => k_is)
    case d_row_beside =>
      refine' Hr.def_mk KX G (fun _ _ _ _ _ _ us hl => match us, hl with | [_, _, _], _ => rfl) ?a ?l ?c ?k
      (case a => k_is); (case l => k_is); (case c => k_is); (case k => k_is)
    case d_number_of =>
      refine' Hr.def_mk KX G (fun _ _ _ _ _ _ us hl => match us, hl with | [_, _], _ => rfl) ?a ?l ?c ?k
      (case a => k_is); (case l => k_is); (case c => k_is); (case k => k_is)
    case d_row_of_number =>
      refine' Hr.def_mk KX G (fun _ _ _ _ _ _ us hl => match us, hl with | [_, _], _ => rfl) ?a ?l ?c ?k
      (case a => k_is); (case l => k_is); (case c => k_is); (case k => k_is)
    case d_ways_down =>
      refine' Hr.def_mk KX G (fun _ _ _ _ _ _ us hl => match us, hl with | [_, _, _], _ => rfl) ?a ?l ?c ?k
      (case a => k_is); (case l => k_is); (case c => k_is); (case k => k_is)
    case d_row_count =>
      refine' Hr.def_mk KX G (fun _ _ _ _ _ _ us hl => match us, hl with | [_], _ => rfl) ?a ?l ?c ?k
      (case a => k_is); (case l => k_is); (case c => k_is); (case k => k_is)
    case d_law_mixed =>
      refine' Hr.def_mk KX G (fun _ _ _ _ _ _ us hl => match us, hl with | [_, _], _ => rfl) ?a ?l ?c ?k
      (case a => k_is); (case l => k_is); (case c => k_is); (case k => k_is)
    case d_law_row =>
      refine' Hr.def_mk KX G (fun _ _ _ _ _ _ us hl => match us, hl with | [_, _], _ => rfl) ?a ?l ?c ?k
      (case a => k_is); (case l => k_is); (case c => k_is); (case k => k_is)
    case d_law_word =>
      refine' Hr.def_mk KX G (fun _ _ _ _ _ _ us hl => match us, hl with | [_], _ => rfl) ?a ?l ?c ?k
      (case a => k_is); (case l => k_is); (case c => k_is); (case k => k_is)
    case d_law_asked =>
      refine' Hr.def_mk KX G (fun _ _ _ _ _ _ us hl => match us, hl with | [_, _, _, _, _], _ => rfl) ?a ?l ?c ?k
      (case a => k_is); (case l => k_is); (case c => k_is); (case k => k_is)
    case d_law_is =>
      refine' Hr.def_mk KX G (fun _ _ _ _ _ _ us hl => match us, hl with | [_, _, _], _ => rfl) ?a ?l ?c ?k
      (case a => k_is); (case l => k_is); (case c => k_is); (case k => k_is)
    case d_counted =>
      refine' Hr.defD_mk (m := 1) KX G rfl (fun _ _ _ _ _ _ _ us its hu hi => match us, hu, its, hi with | [_, _], _, [_], _ => ⟨_, rfl, rfl⟩) (fun _ _ _ _ _ _ _ us its hu hi => match us, hu, its, hi with | [_], _, [_], _ => ⟨_, rfl, rfl⟩) ?a ?l ?c ?k ?t
      (case a => k_is); (case l => k_is); (case c => k_is); (case k => k_is); (case t => k_is)
    case d_is_hill =>
      refine' Hr.defD_mk (m := 1) KX G rfl (fun _ _ _ _ _ _ _ us its hu hi => match us, hu, its, hi with | [_, _], _, [_], _ => ⟨_, rfl, rfl⟩) (fun _ _ _ _ _ _ _ us its hu hi => match us, hu, its, hi with | [_], _, [_], _ => ⟨_, rfl, rfl⟩) ?a ?l ?c ?k ?t
      (case a => k_is); (case l => k_is); (case c => k_is); (case k => k_is); (case t => k_is)
    case d_rank =>
      refine' Hr.defD_mk (m := 1) KX G rfl (fun _ _ _ _ _ _ _ us its hu hi => match us, hu, its, hi with | [_, _], _, [_], _ => ⟨_, rfl, rfl⟩) (fun _ _ _ _ _ _ _ us its hu hi => match us, hu, its, hi with | [_], _, [_], _ => ⟨_, rfl, rfl⟩) ?a ?l ?c ?k ?t
      (case a => k_is); (case l => k_is); (case c => k_is); (case k => k_is); (case t => k_is)
    case d_row_at =>
      refine' Hr.defD_mk (m := 2) KX G rfl (fun _ _ _ _ _ _ _ us its hu hi => match us, hu, its, hi with | [_, _, _], _, [_], _ => ⟨_, rfl, rfl⟩) (fun _ _ _ _ _ _ _ us its hu hi => match us, hu, its, hi with | [_, _], _, [_], _ => ⟨_, rfl, rfl⟩) ?a ?l ?c ?k ?t
      (case a => k_is); (case l => k_is); (case c => k_is); (case k => k_is); (case t => k_is)
    case d_sign_at =>
      refine' Hr.defD_mk (m := 3) KX G rfl (fun _ _ _ _ _ _ _ us its hu hi => match us, hu, its, hi with | [_, _, _, _], _, [_], _ => ⟨_, rfl, rfl⟩) (fun _ _ _ _ _ _ _ us its hu hi => match us, hu, its, hi with | [_, _, _], _, [_], _ => ⟨_, rfl, rfl⟩) ?a ?l ?c ?k ?t
      (case a => k_is); (case l => k_is); (case c => k_is); (case k => k_is); (case t => k_is)
    case d_next_row =>
      refine' Hr.defD_mk (m := 1) KX G rfl (fun _ _ _ _ _ _ _ us its hu hi => match us, hu, its, hi with | [_, _], _, [_], _ => ⟨_, rfl, rfl⟩) (fun _ _ _ _ _ _ _ us its hu hi => match us, hu, its, hi with | [_], _, [_], _ => ⟨_, rfl, rfl⟩) ?a ?l ?c ?k ?t
      (case a => k_is); (case l => k_is); (case c => k_is); (case k => k_is); (case t => k_is)
    case d_ahead_row =>
      refine' Hr.defD_mk (m := 1) KX G rfl (fun _ _ _ _ _ _ _ us its hu hi => match us, hu, its, hi with | [_, _], _, [_], _ => ⟨_, rfl, rfl⟩) (fun _ _ _ _ _ _ _ us its hu hi => match us, hu, its, hi with | [_], _, [_], _ => ⟨_, rfl, rfl⟩) ?a ?l ?c ?k ?t
      (case a => k_is); (case l => k_is); (case c => k_is); (case k => k_is); (case t => k_is)
    case d_ways =>
      refine' Hr.defD_mk (m := 2) KX G rfl (fun _ _ _ _ _ _ _ us its hu hi => match us, hu, its, hi with | [_, _, _], _, [_], _ => ⟨_, rfl, rfl⟩) (fun _ _ _ _ _ _ _ us its hu hi => match us, hu, its, hi with | [_, _], _, [_], _ => ⟨_, rfl, rfl⟩) ?a ?l ?c ?k ?t
      (case a => k_is); (case l => k_is); (case c => k_is); (case k => k_is); (case t => k_is)
    case d_check_hill =>
      refine' Hr.defD_mk (m := 1) KX G rfl (fun _ _ _ _ _ _ _ us its hu hi => match us, hu, its, hi with | [_, _], _, [_], _ => ⟨_, rfl, rfl⟩) (fun _ _ _ _ _ _ _ us its hu hi => match us, hu, its, hi with | [_], _, [_], _ => ⟨_, rfl, rfl⟩) ?a ?l ?c ?k ?t
      (case a => k_is); (case l => k_is); (case c => k_is); (case k => k_is); (case t => k_is)
    case d_is_number =>
      refine' Hr.defV_mk (m := 2) KX G rfl (fun _ _ _ _ _ _ _ us its hu hi => match us, hu, its, hi with | [_, _, _], _, [_], _ => ⟨_, rfl, rfl⟩) (fun _ _ _ _ _ _ _ us its hu hi => match us, hu, its, hi with | [_, _], _, [_], _ => ⟨_, rfl, rfl⟩) ?a ?l ?c ?k ?hu ?t
      (case a => k_is); (case l => k_is); (case c => k_is); (case k => k_is); (case t => k_is); (case hu => exact ⟨_, rfl⟩)
    case d_check_number =>
      refine' Hr.defV_mk (m := 2) KX G rfl (fun _ _ _ _ _ _ _ us its hu hi => match us, hu, its, hi with | [_, _, _], _, [_], _ => ⟨_, rfl, rfl⟩) (fun _ _ _ _ _ _ _ us its hu hi => match us, hu, its, hi with | [_, _], _, [_], _ => ⟨_, rfl, rfl⟩) ?a ?l ?c ?k ?hu ?t
      (case a => k_is); (case l => k_is); (case c => k_is); (case k => k_is); (case t => k_is); (case hu => exact ⟨_, rfl⟩)
    (case g_MOST_UPS => k_is)
    (case g_MOST_HEIGHT => k_is)
    (case g_UP => k_is)
    (case g_DOWN => k_is)
    (case g_MOST_SIGNS => k_is)
    (case z_len => k_is)
    (case z_range => k_is)
    (case z_min => k_is)
    (case z_max => k_is)
    (case z_isinstance => k_is)
    (case z_int => k_is)
    (case z_bool => k_is)
    (case z_str => k_is)
    (case z_all => k_is)
    (case z_reversed => k_is)
    (case z_sum => k_is)
    (case z_zip => k_is)
    (case z_ValueError => k_is)
    (case z_enumerate => k_is)
    (case gc0 => k_is)
    (case gc1 => k_is)
    (case gc2 => k_is)
    (case gc3 => k_is)
    (case gc4 => k_is)
    (case gc5 => k_is)
    (case gc6 => k_is)
    (case gc7 => k_is)
    (case gH => k_is)
    (case hHb => k_is)
    (case hHd => k_is)
    (case hHt => k_is)
    (case on => k_is)
    (case ot => k_is)
    (case x0 => k_exc)
    (case k0 => k_is)
    (case b0 => k_is)
    (case t0 => k_is)
    (case s0 => k_is)
    (case eg0 => k_is)
    (case ek0 => k_is)
    (case ed0 => k_is)
    (case ea0 => k_is)
    (case em0 => k_is)
    (case ve0 => kit_is)
    (case q0_0 => kit_is)
    (case q0_1 => kit_is)
    (case q0_2 => kit_is)
    (case q0_3 => kit_is)
    (case q0_4 => kit_is)
    (case q0_5 => kit_is)
    (case q0_6 => kit_is)
    (case q0_7 => kit_is)
    (case x1 => k_exc)
    (case k1 => k_is)
    (case b1 => k_is)
    (case t1 => k_is)
    (case s1 => k_is)
    (case eg1 => k_is)
    (case ek1 => k_is)
    (case ed1 => k_is)
    (case ea1 => k_is)
    (case em1 => k_is)
    (case ve1 => kit_is)
    (case q1_0 => kit_is)
    (case q1_1 => kit_is)
    (case q1_2 => kit_is)
    (case q1_3 => kit_is)
    (case q1_4 => kit_is)
    (case q1_5 => kit_is)
    (case q1_6 => kit_is)
    (case q1_7 => kit_is)
    (case x2 => k_exc)
    (case k2 => k_is)
    (case b2 => k_is)
    (case t2 => k_is)
    (case s2 => k_is)
    (case eg2 => k_is)
    (case ek2 => k_is)
    (case ed2 => k_is)
    (case ea2 => k_is)
    (case em2 => k_is)
    (case ve2 => kit_is)
    (case q2_0 => kit_is)
    (case q2_1 => kit_is)
    (case q2_2 => kit_is)
    (case q2_3 => kit_is)
    (case q2_4 => kit_is)
    (case q2_5 => kit_is)
    (case q2_6 => kit_is)
    (case q2_7 => kit_is)
    (case x3 => k_exc)
    (case k3 => k_is)
    (case b3 => k_is)
    (case t3 => k_is)
    (case s3 => k_is)
    (case eg3 => k_is)
    (case ek3 => k_is)
    (case ed3 => k_is)
    (case ea3 => k_is)
    (case em3 => k_is)
    (case ve3 => kit_is)
    (case q3_0 => kit_is)
    (case q3_1 => kit_is)
    (case q3_2 => kit_is)
    (case q3_3 => kit_is)
    (case q3_4 => kit_is)
    (case q3_5 => kit_is)
    (case q3_6 => kit_is)
    (case q3_7 => kit_is)
