import PyProof.Rows.All
import Wide.All
import OpenK.AllK
import Wide.FinOn
import HandS.ForMost
import HandS.IsInst
import HandS.Defaults
import HandS.Walk
import HandS.Codes
import HandS.RevRange
import HandS.ForExc
import KE.GoesMore
import HandS.ExcIs
import HandS.RaiseMore
import HandS.FStr
import HandS.ExcValue
import KE.RegKIsAll
import HandS.Rev
import HandS.Style
import PySem.Challenge.RW_hillrows_k11_joined_lifted_mirrored
set_option Elab.async false
set_option linter.all false
set_option maxRecDepth 100000
namespace Hr
/-- the ways to the ground with k signs from the height h, none above T (for h at most T) -/
def W (T : Nat) : Nat → Nat → Nat
  | 0, h => if h = 0 then 1 else 0
  | k + 1, h => (if h = 0 then 0 else W T k (h - 1)) + (if h < T then W T k (h + 1) else 0)
theorem W_zero (T : Nat) : ∀ k h, k < h → W T k h = 0
  | 0, h, e => by
    unfold W
    rw [if_neg (by omega)]
  | k + 1, h, e => by
    unfold W
    rw [if_neg (show ¬ h = 0 by omega), W_zero T k (h - 1) (by omega), W_zero T k (h + 1) (by omega)]
    split <;> rfl
theorem W_same {T T' : Nat} (hT : T ≤ T') : ∀ k h, h ≤ T → k + h ≤ 2 * T + 1 → W T k h = W T' k h
  | 0, h, _, _ => by simp only [W]
  | k + 1, h, e, l => by
    simp only [W]
    by_cases h0 : h = 0
    · rw [if_pos h0, if_pos h0]
      by_cases hl : h < T
      · rw [if_pos hl, if_pos (show h < T' by omega), W_same hT k (h + 1) (by omega) (by omega)]
      · rw [if_neg hl]
        by_cases hl' : h < T'
        · rw [if_pos hl', W_zero T' k (h + 1) (by omega)]
        · rw [if_neg hl']
    · rw [if_neg h0, if_neg h0, W_same hT k (h - 1) (by omega) (by omega)]
      by_cases hl : h < T
      · rw [if_pos hl, if_pos (show h < T' by omega), W_same hT k (h + 1) (by omega) (by omega)]
      · rw [if_neg hl]
        by_cases hl' : h < T'
        · rw [if_pos hl', W_zero T' k (h + 1) (by omega)]
        · rw [if_neg hl']
/-- one row of the table -/
def rowW (T k : Nat) : List Int := (List.range (T + 1)).map fun h => ((W T k h : Nat) : Int)
theorem rowW_len (T k : Nat) : (rowW T k).length = T + 1 := by
  unfold rowW
  rw [List.length_map, List.length_range]
theorem rowW_get {T k h : Nat} (e : h ≤ T) : (rowW T k)[h]? = some ((W T k h : Nat) : Int) := by
  unfold rowW
  rw [List.getElem?_map, List.getElem?_range (by omega)]
  rfl
theorem rowW_zero (T : Nat) : rowW T 0 = 1 :: List.replicate T 0 := by
  unfold rowW
  apply List.ext_getElem?
  intro i
  rw [List.getElem?_map]
  cases i with
  | zero => rw [List.getElem?_range (by omega)]; rfl
  | succ i =>
    rw [List.getElem?_cons_succ]
    by_cases h : i < T
    · rw [List.getElem?_range (by omega), List.getElem?_replicate, if_pos h]
      rfl
    · rw [List.getElem?_eq_none (by rw [List.length_range]; omega), List.getElem?_replicate, if_neg h]
      rfl
/-- the padded row -/
def padW (l : List Int) : List Int := 0 :: (l ++ [0])
theorem pad_lo {T k h : Nat} (e : h ≤ T) : (padW (rowW T k))[h]? = some (((if h = 0 then 0 else W T k (h - 1) : Nat)) : Int) := by
  unfold padW
  cases h with
  | zero => rfl
  | succ h =>
    rw [List.getElem?_cons_succ, List.getElem?_append_left (by rw [rowW_len]; omega), rowW_get (by omega)]
    rfl
theorem pad_hi {T k h : Nat} (e : h ≤ T) : (padW (rowW T k))[h + 2]? = some (((if h < T then W T k (h + 1) else 0 : Nat)) : Int) := by
  unfold padW
  rw [List.getElem?_cons_succ]
  by_cases hl : h < T
  · rw [List.getElem?_append_left (by rw [rowW_len]; omega), rowW_get (by omega), if_pos hl]
  · have e : h = T := by omega
    subst e
    rw [List.getElem?_append_right (by rw [rowW_len]; omega), rowW_len, Nat.sub_self, if_neg hl]
    rfl
theorem row_step {T k h : Nat} (e : h ≤ T) : ∃ a b : Int, (padW (rowW T k))[h]? = some a ∧ (padW (rowW T k))[h + 2]? = some b ∧ (rowW T (k + 1))[h]? = some (a + b) := by
  refine ⟨_, _, pad_lo e, pad_hi e, ?_⟩
  rw [rowW_get e]
  simp only [W]
  rw [Int.natCast_add]
theorem W_le (T : Nat) : ∀ k h, W T k h ≤ 2 ^ k
  | 0, h => by
    unfold W
    split <;> decide
  | k + 1, h => by
    have a := W_le T k (h - 1)
    have b := W_le T k (h + 1)
    unfold W
    rw [Nat.pow_succ]
    split <;> split <;> omega

/-! ### hill rows by growing beginnings -/
section
variable {α : Type} (d u : α → α)
/-- the ceiling: none or some k -/
def under : Option Nat → Nat → Bool
  | none, _ => true
  | some c, h => decide (h < c)
def low (h : Nat) : Option Nat → Nat
  | none => h
  | some c => min h c
def grow1 (c : Option Nat) (p : α × Nat) : List (α × Nat) :=
  (if 0 < p.2 then [(d p.1, p.2 - 1)] else []) ++ (if under c p.2 = true then [(u p.1, p.2 + 1)] else [])
def growAll (c : Option Nat) (l : List (α × Nat)) : List (α × Nat) := l.flatMap (grow1 d u c)
def grown (c : Option Nat) (a : α) : Nat → List (α × Nat)
  | 0 => [(a, 0)]
  | k + 1 => growAll d u c (grown c a k)
def cnt (h : Nat) (l : List (α × Nat)) : Nat := (l.filter fun p => p.2 == h).length
theorem cnt_nil (h : Nat) : cnt h ([] : List (α × Nat)) = 0 := rfl
theorem cnt_append (h : Nat) (l r : List (α × Nat)) : cnt h (l ++ r) = cnt h l + cnt h r := by
  unfold cnt
  rw [List.filter_append, List.length_append]
theorem cnt_one (h : Nat) (a : α) (k : Nat) : cnt h [(a, k)] = if k = h then 1 else 0 := by
  unfold cnt
  by_cases e : k = h
  · rw [if_pos e, List.filter_cons_of_pos (by simp [e])]
    rfl
  · rw [if_neg e, List.filter_cons_of_neg (by simp [e])]
    rfl
theorem cnt_cons (h : Nat) (p : α × Nat) (l : List (α × Nat)) : cnt h (p :: l) = (if p.2 = h then 1 else 0) + cnt h l := by
  rw [← List.singleton_append, cnt_append, show cnt h [p] = if p.2 = h then 1 else 0 from cnt_one h p.1 p.2]
theorem cnt_grow1 (c : Option Nat) (h : Nat) (p : α × Nat) : cnt h (grow1 d u c p) = (if p.2 = h + 1 then 1 else 0) + (if 0 < h ∧ under c (h - 1) = true ∧ p.2 = h - 1 then 1 else 0) := by
  unfold grow1
  rw [cnt_append]
  congr 1
  · by_cases e : 0 < p.2
    · rw [if_pos e, cnt_one]
      by_cases e2 : p.2 = h + 1
      · rw [if_pos e2, if_pos (by omega)]
      · rw [if_neg e2, if_neg (by omega)]
    · rw [if_neg e, cnt_nil, if_neg (by omega)]
  · by_cases e : under c p.2 = true
    · rw [if_pos e, cnt_one]
      by_cases e2 : p.2 + 1 = h
      · have : h - 1 = p.2 := by omega
        rw [if_pos e2, if_pos ⟨by omega, by rw [this]; exact e, by omega⟩]
      · rw [if_neg e2, if_neg (by omega)]
    · rw [if_neg e, cnt_nil]
      by_cases e2 : 0 < h ∧ under c (h - 1) = true ∧ p.2 = h - 1
      · rw [← e2.2.2] at e2
        exact absurd e2.2.1 e
      · rw [if_neg e2]
theorem cnt_growAll (c : Option Nat) (h : Nat) : ∀ l : List (α × Nat), cnt h (growAll d u c l) = cnt (h + 1) l + (if 0 < h ∧ under c (h - 1) = true then cnt (h - 1) l else 0)
  | [] => by
    show 0 = 0 + (if _ then 0 else 0)
    split <;> rfl
  | p :: l => by
    have e : growAll d u c (p :: l) = grow1 d u c p ++ growAll d u c l := rfl
    rw [e, cnt_append, cnt_grow1, cnt_growAll c h l, cnt_cons, cnt_cons]
    by_cases e1 : 0 < h ∧ under c (h - 1) = true
    · rw [if_pos e1, if_pos e1]
      by_cases e2 : p.2 = h - 1
      · rw [if_pos (show 0 < h ∧ under c (h - 1) = true ∧ p.2 = h - 1 from ⟨e1.1, e1.2, e2⟩), if_pos e2]
        omega
      · rw [if_neg (show ¬ (0 < h ∧ under c (h - 1) = true ∧ p.2 = h - 1) from fun z => e2 z.2.2), if_neg e2]
        omega
    · rw [if_neg e1, if_neg e1, if_neg (show ¬ (0 < h ∧ under c (h - 1) = true ∧ p.2 = h - 1) from fun z => e1 ⟨z.1, z.2.1⟩)]
      omega
/-- no row grown in k signs is higher than k -/
theorem cnt_grown (c : Option Nat) (a : α) (T : Nat) (hT : ∀ k, c = some k → T = k) : ∀ k h, (c = none → k + h ≤ 2 * T + 1) → h ≤ T → cnt h (grown d u c a k) = W T k h
  | 0, h, _, _ => by
    show cnt h [(a, 0)] = _
    rw [cnt_one]
    unfold W
    by_cases e : h = 0
    · rw [if_pos e, if_pos e.symm]
    · rw [if_neg e, if_neg (fun z => e z.symm)]
  | k + 1, h, hc, hl => by
    show cnt h (growAll d u c (grown d u c a k)) = _
    rw [cnt_growAll]
    simp only [W]
    rw [Nat.add_comm]
    congr 1
    · by_cases e0 : h = 0
      · rw [if_pos e0, if_neg (by omega)]
      · rw [if_neg e0]
        have hu : under c (h - 1) = true := by
          cases c with
          | none => rfl
          | some k =>
            have := hT k rfl
            unfold under
            exact decide_eq_true (by omega)
        rw [if_pos ⟨by omega, hu⟩, cnt_grown c a T hT k (h - 1) (fun z => by have := hc z; omega) (by omega)]
    · by_cases e : h < T
      · rw [if_pos e, cnt_grown c a T hT k (h + 1) (fun z => by have := hc z; omega) (by omega)]
      · rw [if_neg e]
        cases c with
        | none =>
          have z := hc rfl
          exact cnt_zero_len none a k (h + 1) (by omega)
        | some j =>
          have e3 := hT j rfl
          exact cnt_zero_top2 j a k (h + 1) (by omega)
where
  cnt_zero_len (c : Option Nat) (a : α) : ∀ k h, k < h → cnt h (grown d u c a k) = 0
    | 0, h, e => by
      show cnt h [(a, 0)] = 0
      rw [cnt_one, if_neg (by omega)]
    | k + 1, h, e => by
      show cnt h (growAll d u c (grown d u c a k)) = 0
      rw [cnt_growAll, cnt_zero_len c a k (h + 1) (by omega), cnt_zero_len c a k (h - 1) (by omega)]
      split <;> rfl
  cnt_zero_top2 (j : Nat) (a : α) : ∀ k h, j < h → cnt h (grown d u (some j) a k) = 0
    | 0, h, e => by
      show cnt h [(a, 0)] = 0
      rw [cnt_one, if_neg (by omega)]
    | k + 1, h, e => by
      show cnt h (growAll d u (some j) (grown d u (some j) a k)) = 0
      rw [cnt_growAll, cnt_zero_top2 j a k (h + 1) (by omega), if_neg (fun z => ?_)]
      have := z.2
      unfold under at this
      have := of_decide_eq_true this
      omega
theorem grown_len (c : Option Nat) (a : α) : ∀ k, (grown d u c a k).length ≤ 2 ^ k
  | 0 => Nat.le_refl 1
  | k + 1 => by
    have ih := grown_len c a k
    have g : ∀ l : List (α × Nat), (growAll d u c l).length ≤ 2 * l.length := by
      intro l
      induction l with
      | nil => exact Nat.le_refl _
      | cons p l il =>
        have e : growAll d u c (p :: l) = grow1 d u c p ++ growAll d u c l := rfl
        rw [e, List.length_append, List.length_cons]
        have : (grow1 d u c p).length ≤ 2 := by
          unfold grow1
          rw [List.length_append]
          split <;> split <;> simp
        omega
    have := g (grown d u c a k)
    show (growAll d u c (grown d u c a k)).length ≤ _
    rw [Nat.pow_succ]
    omega
/-- as many as the table counts -/
theorem counted_ok (c : Option Nat) (a : α) (n : Nat) : cnt 0 (grown d u c a (2 * n)) = W (low n c) (2 * n) 0 := by
  cases c with
  | none => exact cnt_grown d u none a n (fun _ z => nomatch z) _ _ (fun _ => by omega) (Nat.zero_le _)
  | some j =>
    rw [cnt_grown d u (some j) a j (fun k z => by cases z; rfl) _ _ (fun z => nomatch z) (Nat.zero_le _)]
    show W j (2 * n) 0 = W (min n j) (2 * n) 0
    by_cases h : j ≤ n
    · rw [Nat.min_eq_right h]
    · rw [Nat.min_eq_left (by omega)]
      exact (W_same (by omega) _ _ (Nat.zero_le _) (by omega)).symm
end
end Hr
namespace Hr
/-! ### rows as lists of signs: true is up -/
/-- all rows of k signs from the height h to the ground, none above T, in order -/
def rws (T : Nat) : Nat → Nat → List (List Bool)
  | 0, h => if h = 0 then [[]] else []
  | k + 1, h => (if h = 0 then [] else (rws T k (h - 1)).map (false :: ·)) ++ (if h < T then (rws T k (h + 1)).map (true :: ·) else [])
theorem rws_len (T : Nat) : ∀ k h, (rws T k h).length = W T k h
  | 0, h => by
    unfold rws W
    split <;> rfl
  | k + 1, h => by
    unfold rws W
    rw [List.length_append]
    congr 1
    · split
      · rfl
      · rw [List.length_map, rws_len T k (h - 1)]
    · split
      · rw [List.length_map, rws_len T k (h + 1)]
      · rfl
/-- the row of a rank -/
def unrank (T : Nat) : Nat → Nat → Nat → List Bool
  | 0, _, _ => []
  | k + 1, h, r => if r < (if h = 0 then 0 else W T k (h - 1)) then false :: unrank T k (h - 1) r else true :: unrank T k (h + 1) (r - (if h = 0 then 0 else W T k (h - 1)))
/-- the ways down -/
def dn (T k h : Nat) : Nat := if h = 0 then 0 else W T k (h - 1)
theorem unrank_succ (T k h r : Nat) : unrank T (k + 1) h r = if r < dn T k h then false :: unrank T k (h - 1) r else true :: unrank T k (h + 1) (r - dn T k h) := rfl
theorem W_succ (T k h : Nat) : W T (k + 1) h = dn T k h + (if h < T then W T k (h + 1) else 0) := rfl
/-- the rank of a row that goes on from h -/
def rankOf (T : Nat) : Nat → List Bool → Nat
  | _, [] => 0
  | h, true :: l => dn T l.length h + rankOf T (h + 1) l
  | h, false :: l => rankOf T (h - 1) l
/-- a row from h to the ground under the ceiling -/
def okb (c : Option Nat) : Nat → List Bool → Bool
  | h, [] => h == 0
  | h, true :: l => under c h && okb c (h + 1) l
  | h, false :: l => (h != 0) && okb c (h - 1) l
theorem okb_up {c : Option Nat} {h : Nat} {l : List Bool} (e : okb c h (true :: l) = true) : under c h = true ∧ okb c (h + 1) l = true := by
  unfold okb at e
  exact Bool.and_eq_true_iff.mp e
theorem okb_down {c : Option Nat} {h : Nat} {l : List Bool} (e : okb c h (false :: l) = true) : h ≠ 0 ∧ okb c (h - 1) l = true := by
  unfold okb at e
  obtain ⟨a, b⟩ := Bool.and_eq_true_iff.mp e
  exact ⟨by simpa using a, b⟩
theorem okb_len {c : Option Nat} : ∀ {l : List Bool} {h : Nat}, okb c h l = true → h ≤ l.length
  | [], h, e => by
    have : h = 0 := by simpa [okb] using e
    omega
  | true :: l, h, e => by
    have := okb_len (okb_up e).2
    rw [List.length_cons]
    omega
  | false :: l, h, e => by
    have := okb_len (okb_down e).2
    rw [List.length_cons]
    omega
theorem rank_lt {T : Nat} : ∀ {l : List Bool} {h : Nat}, okb (some T) h l = true → rankOf T h l < W T l.length h
  | [], h, e => by
    have e0 : h = 0 := by simpa [okb] using e
    rw [e0]
    exact Nat.zero_lt_one
  | true :: l, h, e => by
    obtain ⟨a, b⟩ := okb_up e
    have ih := rank_lt b
    have a' : h < T := of_decide_eq_true a
    rw [List.length_cons, W_succ, if_pos a']
    show dn T l.length h + rankOf T (h + 1) l < _
    omega
  | false :: l, h, e => by
    obtain ⟨a, b⟩ := okb_down e
    have ih := rank_lt b
    rw [List.length_cons, W_succ]
    show rankOf T (h - 1) l < _
    unfold dn
    rw [if_neg a]
    omega
theorem unrank_rank {T : Nat} : ∀ {l : List Bool} {h : Nat}, okb (some T) h l = true → unrank T l.length h (rankOf T h l) = l
  | [], h, e => rfl
  | true :: l, h, e => by
    obtain ⟨a, b⟩ := okb_up e
    rw [List.length_cons, unrank_succ]
    show (if dn T l.length h + rankOf T (h + 1) l < dn T l.length h then _ else true :: unrank T l.length (h + 1) (dn T l.length h + rankOf T (h + 1) l - dn T l.length h)) = _
    rw [if_neg (by omega), Nat.add_sub_cancel_left, unrank_rank b]
  | false :: l, h, e => by
    obtain ⟨a, b⟩ := okb_down e
    have := rank_lt b
    rw [List.length_cons, unrank_succ]
    show (if rankOf T (h - 1) l < dn T l.length h then false :: unrank T l.length (h - 1) (rankOf T (h - 1) l) else _) = _
    rw [if_pos (by unfold dn; rw [if_neg a]; exact this), unrank_rank b]
theorem unrank_ok {T : Nat} : ∀ {k h r : Nat}, r < W T k h → okb (some T) h (unrank T k h r) = true ∧ (unrank T k h r).length = k ∧ rankOf T h (unrank T k h r) = r
  | 0, h, r, e => by
    unfold W at e
    by_cases h0 : h = 0
    · rw [if_pos h0] at e
      refine ⟨?_, rfl, ?_⟩
      · rw [h0]
        rfl
      · show 0 = r
        omega
    · rw [if_neg h0] at e
      omega
  | k + 1, h, r, e => by
    rw [unrank_succ]
    rw [W_succ] at e
    by_cases hr : r < dn T k h
    · rw [if_pos hr]
      have h0 : h ≠ 0 := fun z => by
        unfold dn at hr
        rw [if_pos z] at hr
        omega
      have hr' : r < W T k (h - 1) := by
        unfold dn at hr
        rw [if_neg h0] at hr
        exact hr
      obtain ⟨a, b, c⟩ := unrank_ok hr'
      refine ⟨?_, by rw [List.length_cons, b], c⟩
      unfold okb
      rw [a, Bool.and_true]
      simpa using h0
    · rw [if_neg hr]
      by_cases hT : h < T
      · rw [if_pos hT] at e
        obtain ⟨a, b, c⟩ := unrank_ok (T := T) (k := k) (h := h + 1) (r := r - dn T k h) (by omega)
        refine ⟨?_, by rw [List.length_cons, b], ?_⟩
        · unfold okb
          rw [a, Bool.and_true]
          exact decide_eq_true hT
        · show dn T _ h + rankOf T (h + 1) _ = r
          rw [b, c]
          omega
      · rw [if_neg hT] at e
        omega
theorem unrank_get {T : Nat} : ∀ {k h r : Nat}, r < W T k h → (rws T k h)[r]? = some (unrank T k h r)
  | 0, h, r, e => by
    unfold W at e
    by_cases h0 : h = 0
    · rw [if_pos h0] at e
      have : r = 0 := by omega
      rw [this, h0]
      rfl
    · rw [if_neg h0] at e
      omega
  | k + 1, h, r, e => by
    rw [unrank_succ]
    rw [W_succ] at e
    unfold rws
    have hl : (if h = 0 then [] else (rws T k (h - 1)).map (false :: ·)).length = dn T k h := by
      unfold dn
      split
      · rfl
      · rw [List.length_map, rws_len]
    by_cases hr : r < dn T k h
    · rw [if_pos hr, List.getElem?_append_left (by rw [hl]; exact hr)]
      have h0 : h ≠ 0 := fun z => by
        unfold dn at hr
        rw [if_pos z] at hr
        omega
      have hr' : r < W T k (h - 1) := by
        unfold dn at hr
        rw [if_neg h0] at hr
        exact hr
      rw [if_neg h0, List.getElem?_map, unrank_get hr']
      rfl
    · rw [if_neg hr, List.getElem?_append_right (by rw [hl]; omega), hl]
      by_cases hT : h < T
      · rw [if_pos hT] at e ⊢
        rw [List.getElem?_map, unrank_get (T := T) (k := k) (h := h + 1) (r := r - dn T k h) (by omega)]
        rfl
      · rw [if_neg hT] at e
        omega
/-- a hill row of n ups is not higher than n -/
theorem okb_low {c : Option Nat} {n : Nat} : ∀ {l : List Bool} {h : Nat}, h + l.length ≤ 2 * n → okb c h l = true → okb (some (low n c)) h l = true
  | [], h, _, e => e
  | true :: l, h, hn, e => by
    obtain ⟨a, b⟩ := okb_up e
    rw [List.length_cons] at hn
    have := okb_len b
    unfold okb
    rw [okb_low (by omega) b, Bool.and_true]
    refine decide_eq_true ?_
    cases c with
    | none => show h < n; omega
    | some k =>
      have a' : h < k := of_decide_eq_true a
      show h < min n k
      omega
  | false :: l, h, hn, e => by
    obtain ⟨a, b⟩ := okb_down e
    rw [List.length_cons] at hn
    unfold okb
    rw [okb_low (by omega) b, Bool.and_true]
    simpa using a
theorem okb_up_of {c : Option Nat} {n : Nat} : ∀ {l : List Bool} {h : Nat}, okb (some (low n c)) h l = true → okb c h l = true
  | [], h, e => e
  | true :: l, h, e => by
    obtain ⟨a, b⟩ := okb_up e
    unfold okb
    rw [okb_up_of b, Bool.and_true]
    have a' : h < low n c := of_decide_eq_true a
    cases c with
    | none => rfl
    | some k =>
      have a' : h < min n k := a'
      exact decide_eq_true (by omega)
  | false :: l, h, e => by
    obtain ⟨a, b⟩ := okb_down e
    unfold okb
    rw [okb_up_of b, Bool.and_true]
    simpa using a
/-- how many ups -/
theorem okb_ups {c : Option Nat} : ∀ {l : List Bool} {h : Nat}, okb c h l = true → h + 2 * (l.filter id).length = l.length
  | [], h, e => by
    have e0 : h = 0 := by simpa [okb] using e
    rw [e0]
    rfl
  | true :: l, h, e => by
    have := okb_ups (okb_up e).2
    rw [List.length_cons, List.filter_cons_of_pos rfl, List.length_cons]
    omega
  | false :: l, h, e => by
    obtain ⟨a, b⟩ := okb_down e
    have := okb_ups b
    rw [List.length_cons, List.filter_cons_of_neg (by simp)]
    omega
theorem okb_even {c : Option Nat} {l : List Bool} (e : okb c 0 l = true) : l.length = 2 * (l.length / 2) := by
  have := okb_ups e
  omega
/-! ### heights -/
def sg (b : Bool) : Int := if b = true then 1 else -1
def hts : Int → List Bool → List Int
  | h, [] => [h]
  | h, b :: l => h :: hts (h + sg b) l
theorem hts_len : ∀ (l : List Bool) (h : Int), (hts h l).length = l.length + 1
  | [], _ => rfl
  | b :: l, h => by
    show (hts (h + sg b) l).length + 1 = _
    rw [hts_len l]
    rfl
theorem hts_ne (h : Int) (l : List Bool) : hts h l ≠ [] := by
  cases l <;> exact List.cons_ne_nil _ _
theorem hts_append : ∀ (l r : List Bool) (h : Int), hts h (l ++ r) = (hts h l).dropLast ++ hts (h + (l.map sg).sum) r
  | [], r, h => by
    show hts h r = [] ++ hts (h + 0) r
    rw [Int.add_zero]
    rfl
  | b :: l, r, h => by
    show h :: hts (h + sg b) (l ++ r) = (h :: hts (h + sg b) l).dropLast ++ _
    rw [hts_append l r, List.dropLast_cons_of_ne_nil (hts_ne _ _), List.map_cons, List.sum_cons, ← Int.add_assoc]
    rfl
theorem hts_snoc (l : List Bool) (b : Bool) (h : Int) : hts h (l ++ [b]) = hts h l ++ [h + (l.map sg).sum + sg b] := by
  have last : ∀ (l : List Bool) (h : Int), hts h l = (hts h l).dropLast ++ [h + (l.map sg).sum] := by
    intro l h
    have := hts_append l [] h
    rw [List.append_nil] at this
    exact this
  rw [hts_append, last l h]
  rw [List.dropLast_concat, List.append_assoc]
  rfl
theorem hts_last (l : List Bool) (h : Int) : (hts h l) = (hts h l).dropLast ++ [h + (l.map sg).sum] := by
  have := hts_append l [] h
  rw [List.append_nil] at this
  exact this
/-- a hill row by its heights -/
theorem okb_iff (c : Option Nat) : ∀ (l : List Bool) (h : Nat), (∀ k, c = some k → h ≤ k) → (okb c h l = true ↔ ((h : Int) + (l.map sg).sum = 0 ∧ (∀ x ∈ hts h l, 0 ≤ x) ∧ ∀ k, c = some k → ∀ x ∈ hts h l, x ≤ (k : Int)))
  | [], h, hc => by
    show ((h == 0) = true) ↔ _
    constructor
    · intro e
      have e0 : h = 0 := by simpa using e
      subst e0
      refine ⟨rfl, fun x hx => ?_, fun k hk x hx => ?_⟩
      · have := List.mem_singleton.mp hx
        omega
      · have := List.mem_singleton.mp hx
        omega
    · rintro ⟨e, _, _⟩
      have : (h : Int) + 0 = 0 := e
      have : h = 0 := by omega
      simp [this]
  | true :: l, h, hc => by
    have e1 : hts (h : Int) (true :: l) = (h : Int) :: hts ((h + 1 : Nat) : Int) l := rfl
    have e2 : ((true :: l).map sg).sum = 1 + (l.map sg).sum := by
      rw [List.map_cons, List.sum_cons]
      rfl
    rw [e1, e2]
    constructor
    · intro e
      obtain ⟨a, b⟩ := okb_up e
      have hc' : ∀ k, c = some k → h + 1 ≤ k := fun k hk => by
        rw [hk] at a
        exact of_decide_eq_true a
      obtain ⟨i1, i2, i3⟩ := (okb_iff c l (h + 1) hc').mp b
      refine ⟨by omega, fun x hx => ?_, fun k hk x hx => ?_⟩
      · rcases List.mem_cons.mp hx with z | z
        · omega
        · exact i2 x z
      · rcases List.mem_cons.mp hx with z | z
        · have := hc k hk
          omega
        · exact i3 k hk x z
    · rintro ⟨a, b, d⟩
      have hmem : ((h + 1 : Nat) : Int) ∈ hts ((h + 1 : Nat) : Int) l := by
        cases l <;> exact List.mem_cons_self ..
      have hc' : ∀ k, c = some k → h + 1 ≤ k := fun k hk => by
        have := d k hk _ (List.mem_cons_of_mem _ hmem)
        omega
      have := (okb_iff c l (h + 1) hc').mpr ⟨by omega, fun x hx => b x (List.mem_cons_of_mem _ hx), fun k hk x hx => d k hk x (List.mem_cons_of_mem _ hx)⟩
      unfold okb
      rw [this, Bool.and_true]
      cases c with
      | none => rfl
      | some k =>
        have := hc' k rfl
        exact decide_eq_true (by omega)
  | false :: l, h, hc => by
    have e2 : ((false :: l).map sg).sum = -1 + (l.map sg).sum := by
      rw [List.map_cons, List.sum_cons]
      rfl
    by_cases h0 : h = 0
    · subst h0
      have e1 : hts ((0 : Nat) : Int) (false :: l) = 0 :: hts (-1) l := rfl
      constructor
      · intro e
        exact absurd rfl (okb_down e).1
      · rintro ⟨a, b, d⟩
        have hmem : (-1 : Int) ∈ hts (-1) l := by
          cases l <;> exact List.mem_cons_self ..
        rw [e1] at b
        have := b _ (List.mem_cons_of_mem _ hmem)
        omega
    · have e1 : hts (h : Int) (false :: l) = (h : Int) :: hts ((h - 1 : Nat) : Int) l := by
        show (h : Int) :: hts ((h : Int) + -1) l = _
        rw [show (h : Int) + -1 = ((h - 1 : Nat) : Int) by omega]
      rw [e1, e2]
      have hc' : ∀ k, c = some k → h - 1 ≤ k := fun k hk => by
        have := hc k hk
        omega
      constructor
      · intro e
        obtain ⟨a, b⟩ := okb_down e
        obtain ⟨i1, i2, i3⟩ := (okb_iff c l (h - 1) hc').mp b
        refine ⟨by omega, fun x hx => ?_, fun k hk x hx => ?_⟩
        · rcases List.mem_cons.mp hx with z | z
          · omega
          · exact i2 x z
        · rcases List.mem_cons.mp hx with z | z
          · have := hc k hk
            omega
          · exact i3 k hk x z
      · rintro ⟨a, b, d⟩
        have := (okb_iff c l (h - 1) hc').mpr ⟨by omega, fun x hx => b x (List.mem_cons_of_mem _ hx), fun k hk x hx => d k hk x (List.mem_cons_of_mem _ hx)⟩
        unfold okb
        rw [this, Bool.and_true]
        simpa using h0
end Hr
/-! ### first hills, groves -/
namespace Hr
theorem okb_app {r : List Bool} {h : Nat} : ∀ {a : List Bool} {k : Nat}, okb none k a = true → okb none (h + k) (a ++ r) = okb none h r
  | [], k, e => by
    have e0 : k = 0 := by simpa [okb] using e
    rw [e0]
    rfl
  | true :: a, k, e => by
    show (true && okb none (h + k + 1) (a ++ r)) = _
    rw [Bool.true_and]
    exact okb_app (k := k + 1) (okb_up e).2
  | false :: a, k, e => by
    obtain ⟨k0, e1⟩ := okb_down e
    show ((h + k != 0) && okb none (h + k - 1) (a ++ r)) = _
    rw [show (h + k != 0) = true by simp; omega, Bool.true_and, show h + k - 1 = h + (k - 1) by omega]
    exact okb_app e1
/-- a walk down by one: the first down to there parts it -/
theorem okb_part : ∀ (m : Nat) {l : List Bool} {h : Nat}, l.length ≤ m → okb none (h + 1) l = true → ∃ a b, l = a ++ false :: b ∧ okb none 0 a = true ∧ okb none h b = true
  | m, [], h, _, e => by
    have : h + 1 = 0 := by simpa [okb] using e
    omega
  | m, false :: l, h, _, e => ⟨[], l, rfl, rfl, (okb_down e).2⟩
  | 0, true :: l, h, hm, e => absurd hm (by rw [List.length_cons]; omega)
  | m + 1, true :: l, h, hm, e => by
    rw [List.length_cons] at hm
    obtain ⟨a1, b1, e1, o1, p1⟩ := okb_part m (h := h + 1) (by omega) (okb_up e).2
    have h1 : b1.length ≤ m := by
      have := congrArg List.length e1
      rw [List.length_append, List.length_cons] at this
      omega
    obtain ⟨a2, b2, e2, o2, p2⟩ := okb_part m h1 p1
    refine ⟨true :: (a1 ++ false :: a2), b2, by rw [e1, e2, List.cons_append, List.append_assoc, List.cons_append], ?_, p2⟩
    show (true && okb none (0 + 1) (a1 ++ false :: a2)) = true
    rw [Bool.true_and]
    have := okb_app (r := false :: a2) (h := 1) o1
    rw [Nat.add_zero] at this
    rw [Nat.zero_add, this]
    show ((1 != 0) && okb none (1 - 1) a2) = true
    rw [Nat.sub_self, o2]
    rfl
theorem hill_part {l : List Bool} (e : okb none 0 (true :: l) = true) : ∃ a b, l = a ++ false :: b ∧ okb none 0 a = true ∧ okb none 0 b = true := okb_part l.length (Nat.le_refl _) (okb_up e).2
theorem hill_put {a b : List Bool} (ha : okb none 0 a = true) (hb : okb none 0 b = true) : okb none 0 (true :: (a ++ false :: b)) = true := by
  show (true && okb none (0 + 1) (a ++ false :: b)) = true
  have := okb_app (r := false :: b) (h := 1) ha
  rw [Nat.add_zero] at this
  rw [Bool.true_and, Nat.zero_add, this]
  show ((1 != 0) && okb none (1 - 1) b) = true
  rw [Nat.sub_self, hb]
  rfl
theorem hill_app {a b : List Bool} (ha : okb none 0 a = true) (hb : okb none 0 b = true) : okb none 0 (a ++ b) = true := by
  have := okb_app (r := b) (h := 0) ha
  rw [Nat.add_zero] at this
  rw [this]
  exact hb
/-- no hill row stands ahead of its own first down below -/
theorem part_one : ∀ {a a' b b' : List Bool} {h : Nat}, okb none h a = true → okb none h a' = true → a ++ false :: b = a' ++ false :: b' → a = a' ∧ b = b'
  | [], [], b, b', h, _, _, e => ⟨rfl, (List.cons.inj e).2⟩
  | [], x :: a', b, b', h, e1, e2, e => by
    have hx : x = false := (List.cons.inj e).1.symm
    have h0 : h = 0 := by simpa [okb] using e1
    rw [hx, h0] at e2
    exact absurd rfl (okb_down e2).1
  | x :: a, [], b, b', h, e1, e2, e => by
    have hx : x = false := (List.cons.inj e).1
    have h0 : h = 0 := by simpa [okb] using e2
    rw [hx, h0] at e1
    exact absurd rfl (okb_down e1).1
  | x :: a, y :: a', b, b', h, e1, e2, e => by
    obtain ⟨hx, he⟩ := List.cons.inj e
    subst hx
    cases x with
    | true =>
      obtain ⟨p, q⟩ := part_one (okb_up e1).2 (okb_up e2).2 he
      exact ⟨by rw [p], q⟩
    | false =>
      obtain ⟨p, q⟩ := part_one (okb_down e1).2 (okb_down e2).2 he
      exact ⟨by rw [p], q⟩
/-- a grove: none, or a tree (what hangs on it) and the trees behind it -/
inductive Gv where
  | no : Gv
  | tree : Gv → Gv → Gv
/-- its row -/
def Gv.row : Gv → List Bool
  | .no => []
  | .tree a b => true :: (a.row ++ false :: b.row)
/-- how deep it is -/
def Gv.deep : Gv → Nat
  | .no => 0
  | .tree a b => max (a.deep + 1) b.deep
/-- its trees -/
def Gv.trees : Gv → List Gv
  | .no => []
  | .tree a b => a :: b.trees
def Gv.of : List Gv → Gv
  | [] => .no
  | a :: r => .tree a (.of r)
theorem Gv.of_trees : ∀ g : Gv, Gv.of g.trees = g
  | .no => rfl
  | .tree a b => by
    show Gv.tree a (Gv.of b.trees) = _
    rw [of_trees b]
theorem Gv.trees_of : ∀ l : List Gv, (Gv.of l).trees = l
  | [] => rfl
  | a :: r => by
    show a :: (Gv.of r).trees = _
    rw [trees_of r]
def Gv.app : Gv → Gv → Gv
  | .no, g => g
  | .tree a b, g => .tree a (b.app g)
theorem Gv.trees_app : ∀ f g : Gv, (f.app g).trees = f.trees ++ g.trees
  | .no, _ => rfl
  | .tree a b, g => congrArg (a :: ·) (trees_app b g)
theorem Gv.row_app : ∀ f g : Gv, (f.app g).row = f.row ++ g.row
  | .no, _ => rfl
  | .tree a b, g => by
    show true :: (a.row ++ false :: (b.app g).row) = true :: (a.row ++ false :: b.row) ++ g.row
    rw [row_app b g, List.cons_append, List.append_assoc, List.cons_append]
theorem Gv.row_hill : ∀ g : Gv, okb none 0 g.row = true
  | .no => rfl
  | .tree a b => hill_put a.row_hill b.row_hill
theorem Gv.row_inj : ∀ {f g : Gv}, f.row = g.row → f = g
  | .no, .no, _ => rfl
  | .no, .tree _ _, e => by cases e
  | .tree _ _, .no, e => by cases e
  | .tree a b, .tree c d, e => by
    obtain ⟨p, q⟩ := part_one a.row_hill c.row_hill (List.cons.inj e).2
    rw [row_inj p, row_inj q]
theorem grove_of : ∀ (m : Nat) {l : List Bool}, l.length ≤ m → okb none 0 l = true → ∃ g : Gv, g.row = l
  | _, [], _, _ => ⟨.no, rfl⟩
  | _, false :: l, _, e => absurd rfl (okb_down e).1
  | 0, true :: l, hm, _ => absurd hm (by rw [List.length_cons]; omega)
  | m + 1, true :: l, hm, e => by
    obtain ⟨a, b, rfl, ha, hb⟩ := hill_part e
    rw [List.length_cons, List.length_append, List.length_cons] at hm
    obtain ⟨f, rfl⟩ := grove_of m (by omega) ha
    obtain ⟨g, rfl⟩ := grove_of m (by omega) hb
    exact ⟨.tree f g, rfl⟩
/-- every hill row is the row of just one grove -/
theorem grove_row {l : List Bool} (e : okb none 0 l = true) : ∃ g : Gv, g.row = l := grove_of l.length (Nat.le_refl _) e
theorem Gv.deep_le : ∀ g : Gv, 2 * g.deep ≤ g.row.length
  | .no => Nat.le_refl _
  | .tree a b => by
    have h1 := deep_le a
    have h2 := deep_le b
    show 2 * max (a.deep + 1) b.deep ≤ (true :: (a.row ++ false :: b.row)).length
    rw [List.length_cons, List.length_append, List.length_cons]
    omega
/-! ### turnings -/
/-- the law's walk: below 0 but at the end nowhere -/
def stayB : Int → List Bool → Bool
  | _, [] => false
  | h, b :: l => if h + sg b < 0 then l.isEmpty else stayB (h + sg b) l
theorem stayB_iff : ∀ (l : List Bool) (h : Int), stayB h l = true ↔ (l ≠ [] ∧ h + (l.map sg).sum < 0 ∧ ∀ i, 0 < i → i < l.length → 0 ≤ h + ((l.take i).map sg).sum)
  | [], h => ⟨fun e => (nomatch (show false = true from e)), fun e => absurd rfl e.1⟩
  | b :: l, h => by
    have ih := stayB_iff l (h + sg b)
    show (if h + sg b < 0 then l.isEmpty else stayB (h + sg b) l) = true ↔ _
    by_cases hn : h + sg b < 0
    · rw [if_pos hn]
      constructor
      · intro e
        have e : l = [] := by simpa using e
        subst e
        refine ⟨List.cons_ne_nil _ _, ?_, fun i h0 h1 => ?_⟩
        · show h + (sg b + 0) < 0
          omega
        · have h1 : i < 1 := h1
          omega
      · rintro ⟨_, _, h3⟩
        cases l with
        | nil => rfl
        | cons c l =>
          have := h3 1 (by omega) (by rw [List.length_cons, List.length_cons]; omega)
          have : 0 ≤ h + (sg b + 0) := this
          omega
    · rw [if_neg hn, ih]
      constructor
      · rintro ⟨_, h2, h3⟩
        refine ⟨List.cons_ne_nil _ _, ?_, fun i h0 h1 => ?_⟩
        · rw [List.map_cons, List.sum_cons]
          omega
        · obtain ⟨j, rfl⟩ : ∃ j, i = j + 1 := ⟨i - 1, by omega⟩
          rw [List.take_succ_cons, List.map_cons, List.sum_cons]
          rw [List.length_cons] at h1
          by_cases hj : j = 0
          · subst hj
            show 0 ≤ h + (sg b + 0)
            omega
          · have := h3 j (by omega) (by omega)
            omega
      · rintro ⟨_, h2, h3⟩
        rw [List.map_cons, List.sum_cons] at h2
        refine ⟨fun z => ?_, by omega, fun i h0 h1 => ?_⟩
        · subst z
          have h2 : h + (sg b + 0) < 0 := h2
          omega
        · have := h3 (i + 1) (by omega) (by rw [List.length_cons]; omega)
          rw [List.take_succ_cons, List.map_cons, List.sum_cons] at this
          omega
/-- the height at the place i -/
def hgt (l : List Bool) (i : Nat) : Int := ((l.take i).map sg).sum
def turned (l : List Bool) (k : Nat) : List Bool := l.drop k ++ l.take k
/-- the place k is the first lowest one -/
def Lowest (l : List Bool) (k : Nat) : Prop := (∀ i, i < k → hgt l k < hgt l i) ∧ ∀ i, k ≤ i → i ≤ l.length → hgt l k ≤ hgt l i
theorem hgt_drop (l : List Bool) (k j : Nat) : ((((l.drop k).take j)).map sg).sum = hgt l (k + j) - hgt l k := by
  unfold hgt
  rw [List.take_add, List.map_append, List.sum_append]
  omega
theorem hgt_len (l : List Bool) : hgt l l.length = (l.map sg).sum := by
  unfold hgt
  rw [List.take_length]
theorem hgt_drop_all (l : List Bool) {k : Nat} (hk : k ≤ l.length) : ((l.drop k).map sg).sum = hgt l l.length - hgt l k := by
  have := hgt_drop l k (l.length - k)
  rw [show k + (l.length - k) = l.length by omega, List.take_of_length_le (by rw [List.length_drop]; omega)] at this
  exact this
/-- a turning stays up just where it begins behind the first lowest place -/
theorem turned_iff {l : List Bool} (hs : (l.map sg).sum = -1) {k : Nat} (h0 : 0 < k) (hk : k ≤ l.length) : stayB 0 (turned l k) = true ↔ Lowest l k := by
  have hlen : (turned l k).length = l.length := by
    unfold turned
    rw [List.length_append, List.length_drop, List.length_take]
    omega
  have hsum : ((turned l k).map sg).sum = -1 := by
    unfold turned
    rw [List.map_append, List.sum_append, hgt_drop_all l hk, hgt_len, hs]
    show -1 - hgt l k + hgt l k = -1
    omega
  have hat : ∀ j, j ≤ l.length → (((turned l k).take j).map sg).sum = if j ≤ l.length - k then hgt l (k + j) - hgt l k else -1 - hgt l k + hgt l (j - (l.length - k)) := by
    intro j hj
    unfold turned
    rw [List.take_append, List.map_append, List.sum_append, List.length_drop]
    by_cases hc : j ≤ l.length - k
    · rw [if_pos hc, hgt_drop, show j - (l.length - k) = 0 by omega, List.take_zero]
      show _ + 0 = _
      omega
    · rw [if_neg hc, List.take_of_length_le (by rw [List.length_drop]; omega), hgt_drop_all l hk, hgt_len, hs, List.take_take, show min (j - (l.length - k)) k = j - (l.length - k) by omega]
      rfl
  rw [stayB_iff]
  constructor
  · rintro ⟨_, _, h3⟩
    refine ⟨fun i hi => ?_, fun i h1 h2 => ?_⟩
    · by_cases hi0 : i = 0 ∧ k = l.length
      · rw [hi0.1, hi0.2, hgt_len, hs]
        show -1 < (0 : Int)
        decide
      · have := h3 (l.length - k + i) (by omega) (by rw [hlen]; omega)
        rw [hat _ (by omega)] at this
        by_cases hi1 : i = 0
        · subst hi1
          rw [if_pos (by omega), show k + (l.length - k + 0) = l.length by omega, hgt_len, hs] at this
          show hgt l k < 0
          omega
        · rw [if_neg (by omega), show l.length - k + i - (l.length - k) = i by omega] at this
          omega
    · by_cases hki : i = k
      · rw [hki]
        exact Int.le_refl _
      · have := h3 (i - k) (by omega) (by rw [hlen]; omega)
        rw [hat _ (by omega), if_pos (by omega), show k + (i - k) = i by omega] at this
        omega
  · rintro ⟨h1, h2⟩
    refine ⟨fun z => ?_, by rw [hsum]; decide, fun i hi0 hi1 => ?_⟩
    · rw [z] at hlen
      have : l.length = 0 := hlen.symm
      omega
    · rw [hlen] at hi1
      rw [hat _ (by omega)]
      by_cases hc : i ≤ l.length - k
      · rw [if_pos hc]
        have := h2 (k + i) (by omega) (by omega)
        omega
      · rw [if_neg hc]
        have := h1 (i - (l.length - k)) (by omega)
        omega
theorem lowest_one {l : List Bool} {k k' : Nat} (hk : k ≤ l.length) (hk' : k' ≤ l.length) (h : Lowest l k) (h' : Lowest l k') : k = k' := by
  rcases Nat.lt_trichotomy k k' with z | z | z
  · have h1 := h'.1 k z
    have h2 := h.2 k' (by omega) hk'
    omega
  · exact z
  · have h1 := h.1 k' z
    have h2 := h'.2 k (by omega) hk
    omega
theorem turned_zero (l : List Bool) : turned l 0 = l := by
  unfold turned
  rw [List.drop_zero, List.take_zero, List.append_nil]
theorem turned_len (l : List Bool) : turned l l.length = l := by
  unfold turned
  rw [List.drop_length, List.take_length, List.nil_append]
/-- the first place of the lowest height there is -/
theorem lowest_is {l : List Bool} (hs : (l.map sg).sum = -1) : ∃ k, 0 < k ∧ k ≤ l.length ∧ Lowest l k := by
  have step : ∀ m, m ≤ l.length → ∃ k, k ≤ m ∧ (∀ i, i < k → hgt l k < hgt l i) ∧ ∀ i, k ≤ i → i ≤ m → hgt l k ≤ hgt l i := by
    intro m
    induction m with
    | zero =>
      intro _
      refine ⟨0, Nat.le_refl _, fun i hi => absurd hi (by omega), fun i h1 h2 => ?_⟩
      rw [show i = 0 by omega]
      exact Int.le_refl _
    | succ m ih =>
      intro hm
      obtain ⟨k, hk, h1, h2⟩ := ih (by omega)
      by_cases hc : hgt l (m + 1) < hgt l k
      · refine ⟨m + 1, Nat.le_refl _, fun i hi => ?_, fun i h3 h4 => ?_⟩
        · by_cases hik : i < k
          · have := h1 i hik
            omega
          · have := h2 i (by omega) (by omega)
            omega
        · rw [show i = m + 1 by omega]
          exact Int.le_refl _
      · refine ⟨k, by omega, h1, fun i h3 h4 => ?_⟩
        by_cases hi : i = m + 1
        · rw [hi]
          omega
        · exact h2 i h3 (by omega)
  obtain ⟨k, hk, h1, h2⟩ := step l.length (Nat.le_refl _)
  refine ⟨k, ?_, hk, h1, h2⟩
  by_cases h0 : k = 0
  · have := h2 l.length (by omega) (Nat.le_refl _)
    rw [h0, hgt_len, hs] at this
    have : (0 : Int) ≤ -1 := this
    omega
  · omega
/-- of the turnings by k below the length just one stays up -/
theorem turned_one {l : List Bool} (hs : (l.map sg).sum = -1) : ∃ k, k < l.length ∧ ∀ j, j < l.length → (stayB 0 (turned l j) = true ↔ j = k) := by
  obtain ⟨k, h0, hk, hL⟩ := lowest_is hs
  have key : ∀ j, 0 < j → j ≤ l.length → (stayB 0 (turned l j) = true ↔ j = k) := fun j j0 jl => by
    rw [turned_iff hs j0 jl]
    exact ⟨fun z => lowest_one jl hk z hL, fun z => z ▸ hL⟩
  have hlast : stayB 0 (turned l 0) = stayB 0 (turned l l.length) := by rw [turned_zero, turned_len]
  by_cases hkl : k = l.length
  · refine ⟨0, by omega, fun j jl => ?_⟩
    by_cases j0 : j = 0
    · subst j0
      rw [hlast, key l.length (by omega) (Nat.le_refl _)]
      exact ⟨fun _ => rfl, fun _ => hkl.symm⟩
    · rw [key j (by omega) (by omega)]
      omega
  · refine ⟨k, by omega, fun j jl => ?_⟩
    by_cases j0 : j = 0
    · subst j0
      rw [hlast, key l.length (by omega) (Nat.le_refl _)]
      omega
    · exact key j (by omega) (by omega)
end Hr
/-! ### the hills of a row, by the places of height 0 -/
namespace Hr
def hillsOf : Gv → List (List Bool)
  | .no => []
  | .tree a b => (true :: (a.row ++ [false])) :: hillsOf b
theorem hills_flat : ∀ g : Gv, (hillsOf g).flatten = g.row
  | .no => rfl
  | .tree a b => by
    show (true :: (a.row ++ [false])) ++ (hillsOf b).flatten = true :: (a.row ++ false :: b.row)
    rw [hills_flat b, List.cons_append, List.append_assoc]
    rfl
theorem hills_ok : ∀ (g : Gv) (x : List Bool), x ∈ hillsOf g → okb none 0 x = true
  | .no, x, h => by cases h
  | .tree a b, x, h => by
    rcases List.mem_cons.mp h with rfl | h
    · exact hill_put a.row_hill (b := []) rfl
    · exact hills_ok b x h
theorem hills_ne : ∀ (g : Gv), g.row ≠ [] → hillsOf g ≠ []
  | .no, h => absurd rfl h
  | .tree _ _, _ => List.cons_ne_nil _ _
theorem hills_len : ∀ (g : Gv), 2 * (hillsOf g).length ≤ g.row.length
  | .no => Nat.le_refl _
  | .tree a b => by
    have := hills_len b
    show 2 * ((hillsOf b).length + 1) ≤ (true :: (a.row ++ false :: b.row)).length
    rw [List.length_cons, List.length_append, List.length_cons]
    omega
theorem hts_get : ∀ (l : List Bool) (h : Int) (i : Nat), i ≤ l.length → (hts h l)[i]? = some (h + hgt l i)
  | [], h, i, hi => by
    have : i = 0 := by
      have : i ≤ 0 := hi
      omega
    subst this
    show some h = some (h + 0)
    rw [Int.add_zero]
  | b :: l, h, 0, _ => by
    show some h = some (h + 0)
    rw [Int.add_zero]
  | b :: l, h, i + 1, hi => by
    rw [List.length_cons] at hi
    have := hts_get l (h + sg b) i (by omega)
    show (hts (h + sg b) l)[i]? = _
    rw [this]
    unfold hgt
    rw [List.take_succ_cons, List.map_cons, List.sum_cons, ← Int.add_assoc]
/-- the places of height 0 up to n -/
def zerosTo (l : List Bool) (n : Nat) : List Nat := (List.range (n + 1)).filter fun i => decide (hgt l i = 0)
def zeros (l : List Bool) : List Nat := zerosTo l l.length
theorem zerosTo_zero (l : List Bool) : zerosTo l 0 = [0] := by
  unfold zerosTo
  show [0].filter _ = _
  rw [List.filter_cons_of_pos (by simp [hgt])]
  rfl
theorem zerosTo_succ (l : List Bool) (n : Nat) : zerosTo l (n + 1) = zerosTo l n ++ (if hgt l (n + 1) = 0 then [n + 1] else []) := by
  unfold zerosTo
  rw [List.range_succ (n := n + 1), List.filter_append]
  congr 1
  by_cases h : hgt l (n + 1) = 0
  · rw [if_pos h, List.filter_cons_of_pos (by simpa using h)]
    rfl
  · rw [if_neg h, List.filter_cons_of_neg (by simpa using h)]
    rfl
theorem zerosTo_le {l : List Bool} {n i : Nat} (h : i ∈ zerosTo l n) : i ≤ n := by
  unfold zerosTo at h
  have := List.mem_range.mp (List.mem_filter.mp h).1
  omega
def segs (l : List Bool) : List Nat → List (List Bool)
  | a :: b :: r => (l.drop a).take (b - a) :: segs l (b :: r)
  | [_] => []
  | [] => []
theorem segs_snoc (l : List Bool) (b e : Nat) : ∀ pre : List Nat, segs l (pre ++ [b, e]) = segs l (pre ++ [b]) ++ [(l.drop b).take (e - b)]
  | [] => rfl
  | [x] => rfl
  | x :: y :: pre => by
    have ih := segs_snoc l b e (y :: pre)
    show (l.drop x).take (y - x) :: segs l ((y :: pre) ++ [b, e]) = (l.drop x).take (y - x) :: segs l ((y :: pre) ++ [b]) ++ _
    rw [ih]
    rfl
theorem segs_len (l : List Bool) : ∀ zs : List Nat, (segs l zs).length = zs.length - 1
  | [] => rfl
  | [_] => rfl
  | x :: y :: r => by
    have ih := segs_len l (y :: r)
    show (segs l (y :: r)).length + 1 = _
    rw [ih]
    rfl
theorem segs_get (l : List Bool) : ∀ (zs : List Nat) (i a b : Nat), zs[i]? = some a → zs[i + 1]? = some b → (segs l zs)[i]? = some ((l.drop a).take (b - a))
  | [], i, a, b, h, _ => by cases h
  | [_], i, a, b, _, h => by cases h
  | x :: y :: r, 0, a, b, h1, h2 => by
    cases h1
    cases h2
    rfl
  | x :: y :: r, i + 1, a, b, h1, h2 => segs_get l (y :: r) i a b h1 h2
theorem segs_shift (p l : List Bool) : ∀ zs : List Nat, segs (p ++ l) (zs.map (p.length + ·)) = segs l zs
  | [] => rfl
  | [_] => rfl
  | x :: y :: r => by
    have ih := segs_shift p l (y :: r)
    show ((p ++ l).drop (p.length + x)).take (p.length + y - (p.length + x)) :: segs (p ++ l) ((y :: r).map (p.length + ·)) = _
    rw [ih, List.drop_length_add_append, Nat.add_sub_add_left]
    rfl
theorem hgt_app (p l : List Bool) (j : Nat) : hgt (p ++ l) (p.length + j) = hgt p p.length + hgt l j := by
  unfold hgt
  rw [List.take_length_add_append, List.map_append, List.sum_append, List.take_length]
theorem hgt_nonneg {l : List Bool} (h : okb none 0 l = true) {i : Nat} : 0 ≤ hgt l i := by
  have key : ∀ (l : List Bool) (k : Nat) (i : Nat), okb none k l = true → 0 ≤ (k : Int) + ((l.take i).map sg).sum := by
    intro l
    induction l with
    | nil =>
      intro k i e
      rw [List.take_nil]
      show 0 ≤ (k : Int) + 0
      omega
    | cons b l ih =>
      intro k i e
      cases i with
      | zero =>
        show 0 ≤ (k : Int) + 0
        omega
      | succ i =>
        rw [List.take_succ_cons, List.map_cons, List.sum_cons]
        cases b with
        | true =>
          have := ih (k + 1) i (okb_up e).2
          have e1 : sg true = 1 := rfl
          omega
        | false =>
          obtain ⟨k0, e⟩ := okb_down e
          have := ih (k - 1) i e
          have e1 : sg false = -1 := rfl
          omega
  have := key l 0 i h
  unfold hgt
  omega
theorem okb_sum {l : List Bool} (h : okb none 0 l = true) : (l.map sg).sum = 0 := by
  have := ((okb_iff none l 0 (fun k z => by cases z)).mp h).1
  omega
theorem hgt_all {l : List Bool} (h : okb none 0 l = true) : hgt l l.length = 0 := (hgt_len l).trans (okb_sum h)
theorem zeros_tree (a b : Gv) : zeros (Gv.tree a b).row = 0 :: (zeros b.row).map ((true :: (a.row ++ [false])).length + ·) := by
  have e0 : (Gv.tree a b).row = (true :: (a.row ++ [false])) ++ b.row := by
    show true :: (a.row ++ false :: b.row) = _
    rw [List.cons_append, List.append_assoc]
    rfl
  have hm : hgt (true :: (a.row ++ [false])) (true :: (a.row ++ [false])).length = 0 := hgt_all (hill_put a.row_hill (b := []) rfl)
  unfold zeros zerosTo
  have el : (Gv.tree a b).row.length + 1 = (true :: (a.row ++ [false])).length + (b.row.length + 1) := by
    rw [e0, List.length_append]
    omega
  rw [el, List.range_add, List.filter_append, List.filter_map]
  have p1 : (List.range (true :: (a.row ++ [false])).length).filter (fun i => decide (hgt (Gv.tree a b).row i = 0)) = [0] := by
    have em : (true :: (a.row ++ [false])).length = (a.row.length + 1) + 1 := by simp
    rw [em, List.range_succ_eq_map, List.filter_cons_of_pos (by simp [hgt]), List.filter_map]
    have : (List.range (a.row.length + 1)).filter ((fun i => decide (hgt (Gv.tree a b).row i = 0)) ∘ Nat.succ) = [] := by
      rw [List.filter_eq_nil_iff]
      intro i hi
      have hi := List.mem_range.mp hi
      have e2 : hgt (Gv.tree a b).row (i + 1) = 1 + hgt a.row i := by
        show (((true :: (a.row ++ false :: b.row)).take (i + 1)).map sg).sum = _
        rw [List.take_succ_cons, List.map_cons, List.sum_cons, List.take_append_of_le_length (by omega)]
        rfl
      have := hgt_nonneg a.row_hill (i := i)
      show ¬ (decide (hgt (Gv.tree a b).row (i + 1) = 0)) = true
      rw [e2]
      simp
      omega
    rw [this]
    rfl
  have p2 : (List.range (b.row.length + 1)).filter ((fun i => decide (hgt (Gv.tree a b).row i = 0)) ∘ ((true :: (a.row ++ [false])).length + ·)) = (List.range (b.row.length + 1)).filter (fun i => decide (hgt b.row i = 0)) := by
    refine List.filter_congr fun i _ => ?_
    show decide (hgt (Gv.tree a b).row ((true :: (a.row ++ [false])).length + i) = 0) = _
    rw [e0, hgt_app, hm, Int.zero_add]
  rw [p1, p2]
  rfl
theorem zeros_head : ∀ g : Gv, ∃ r, zeros g.row = 0 :: r
  | .no => ⟨[], rfl⟩
  | .tree a b => ⟨_, zeros_tree a b⟩
theorem segs_zeros : ∀ g : Gv, segs g.row (zeros g.row) = hillsOf g
  | .no => rfl
  | .tree a b => by
    obtain ⟨r, hr⟩ := zeros_head b
    have e0 : (Gv.tree a b).row = (true :: (a.row ++ [false])) ++ b.row := by
      show true :: (a.row ++ false :: b.row) = _
      rw [List.cons_append, List.append_assoc]
      rfl
    have ih := segs_zeros b
    rw [zeros_tree, hr, List.map_cons]
    show (((Gv.tree a b).row.drop 0).take ((true :: (a.row ++ [false])).length + 0 - 0)) :: segs (Gv.tree a b).row ((0 :: r).map ((true :: (a.row ++ [false])).length + ·)) = _
    rw [← hr, e0, segs_shift, ih, List.drop_zero, Nat.sub_zero, Nat.add_zero, List.take_left']
    · rfl
    · rfl
end Hr
/-! ### rows read from their end -/
namespace Hr
def mir (l : List Bool) : List Bool := l.reverse.map (! ·)
theorem mir_app (a b : List Bool) : mir (a ++ b) = mir b ++ mir a := by
  unfold mir
  rw [List.reverse_append, List.map_append]
theorem mir_mir (l : List Bool) : mir (mir l) = l := by
  unfold mir
  rw [← List.map_reverse, List.reverse_reverse, List.map_map]
  refine (List.map_congr_left fun b _ => ?_).trans (List.map_id l)
  cases b <;> rfl
theorem mir_len (l : List Bool) : (mir l).length = l.length := by
  unfold mir
  rw [List.length_map, List.length_reverse]
theorem mir_sum : ∀ l : List Bool, ((mir l).map sg).sum = -((l.map sg).sum)
  | [] => rfl
  | b :: l => by
    have ih := mir_sum l
    have e : mir (b :: l) = mir l ++ [!b] := mir_app [b] l
    rw [e, List.map_append, List.sum_append, ih, List.map_cons, List.sum_cons]
    cases b
    · show -(l.map sg).sum + (1 + 0) = -(-1 + (l.map sg).sum)
      omega
    · show -(l.map sg).sum + (-1 + 0) = -(1 + (l.map sg).sum)
      omega
theorem mir_take (l : List Bool) (i : Nat) : (mir l).take i = mir (l.drop (l.length - i)) := by
  unfold mir
  rw [← List.map_take, List.take_reverse]
theorem hgt_mir {l : List Bool} (h : (l.map sg).sum = 0) {i : Nat} (hi : i ≤ l.length) : hgt (mir l) i = hgt l (l.length - i) := by
  show (((mir l).take i).map sg).sum = _
  rw [mir_take, mir_sum, hgt_drop_all l (by omega), hgt_len, h]
  omega
theorem hts_mem0 {l : List Bool} {x : Int} (h : x ∈ hts 0 l) : ∃ i, i ≤ l.length ∧ x = hgt l i := by
  obtain ⟨i, hi, e⟩ := List.getElem_of_mem h
  rw [hts_len] at hi
  refine ⟨i, by omega, ?_⟩
  have := hts_get l 0 i (by omega)
  rw [List.getElem?_eq_getElem (by rw [hts_len]; exact hi), e, Int.zero_add] at this
  exact Option.some.inj this
theorem okb_of {l : List Bool} (h0 : (l.map sg).sum = 0) (h1 : ∀ i, i ≤ l.length → 0 ≤ hgt l i) : okb none 0 l = true := by
  refine (okb_iff none l 0 (fun k z => by cases z)).mpr ⟨?_, fun x hx => ?_, fun k z => by cases z⟩
  · show ((0 : Nat) : Int) + _ = 0
    omega
  · obtain ⟨i, hi, rfl⟩ := hts_mem0 hx
    exact h1 i hi
theorem mir_hill {l : List Bool} (h : okb none 0 l = true) : okb none 0 (mir l) = true := by
  have h0 := okb_sum h
  refine okb_of (by rw [mir_sum, h0]; rfl) fun i hi => ?_
  rw [mir_len] at hi
  rw [hgt_mir h0 hi]
  exact hgt_nonneg h
theorem hts_mir {l : List Bool} (h : okb none 0 l = true) : hts 0 (mir l) = (hts 0 l).reverse := by
  have h0 := okb_sum h
  apply List.ext_getElem?
  intro i
  by_cases hi : i ≤ l.length
  · rw [hts_get (mir l) 0 i (by rw [mir_len]; exact hi), hgt_mir h0 hi, List.getElem?_reverse (by rw [hts_len]; omega), hts_len, show l.length + 1 - 1 - i = l.length - i by omega, hts_get l 0 _ (by omega)]
  · rw [List.getElem?_eq_none (by rw [hts_len, mir_len]; omega), List.getElem?_eq_none (by rw [List.length_reverse, hts_len]; omega)]
/-- k ups, the row, k downs -/
def lift (k : Nat) (l : List Bool) : List Bool := List.replicate k true ++ l ++ List.replicate k false
theorem rep_sum (b : Bool) : ∀ k : Nat, ((List.replicate k b).map sg).sum = (k : Int) * sg b
  | 0 => by simp
  | k + 1 => by
    have ih := rep_sum b k
    rw [List.replicate_succ, List.map_cons, List.sum_cons, ih]
    cases b
    · show -1 + (k : Int) * -1 = ((k + 1 : Nat) : Int) * -1
      omega
    · show 1 + (k : Int) * 1 = ((k + 1 : Nat) : Int) * 1
      omega
theorem hgt_lift (k : Nat) (l : List Bool) {i : Nat} (hi : i ≤ l.length) : hgt (lift k l) (k + i) = hgt l i + k := by
  unfold lift
  rw [List.append_assoc]
  have h := hgt_app (List.replicate k true) (l ++ List.replicate k false) i
  rw [List.length_replicate] at h
  have h2 : hgt (List.replicate k true) k = (k : Int) := by
    have := hgt_len (List.replicate k true)
    rw [List.length_replicate, rep_sum] at this
    rw [this]
    show (k : Int) * 1 = k
    omega
  have h3 : hgt (l ++ List.replicate k false) i = hgt l i := by
    unfold hgt
    rw [List.take_append_of_le_length hi]
  rw [h, h2, h3]
  omega
theorem lift_len (k : Nat) (l : List Bool) : (lift k l).length = 2 * k + l.length := by
  unfold lift
  rw [List.length_append, List.length_append, List.length_replicate, List.length_replicate]
  omega
theorem hts_lift (k : Nat) (l : List Bool) : ((hts 0 (lift k l)).drop k).take (l.length + 1) = (hts 0 l).map (· + (k : Int)) := by
  apply List.ext_getElem?
  intro i
  by_cases hi : i ≤ l.length
  · rw [List.getElem?_take_of_lt (by omega), List.getElem?_drop, hts_get _ 0 _ (by rw [lift_len]; omega), hgt_lift k l hi, List.getElem?_map, hts_get l 0 i hi]
    show some ((0 : Int) + (hgt l i + k)) = some (0 + hgt l i + k)
    rw [Int.add_assoc]
  · rw [List.getElem?_eq_none (by rw [List.length_take, List.length_drop, hts_len]; omega), List.getElem?_eq_none (by rw [List.length_map, hts_len]; omega)]
theorem flat_hill : ∀ ls : List (List Bool), (∀ l ∈ ls, okb none 0 l = true) → okb none 0 ls.flatten = true
  | [], _ => rfl
  | l :: ls, h => by
    rw [List.flatten_cons]
    exact hill_app (h l (List.mem_cons_self ..)) (flat_hill ls fun x hx => h x (List.mem_cons_of_mem _ hx))
theorem flat_len (m : Nat) : ∀ ls : List (List Bool), (∀ l ∈ ls, l.length ≤ m) → ls.flatten.length ≤ m * ls.length
  | [], _ => Nat.zero_le _
  | l :: ls, h => by
    have h1 := h l (List.mem_cons_self ..)
    have h2 := flat_len m ls fun x hx => h x (List.mem_cons_of_mem _ hx)
    rw [List.flatten_cons, List.length_append, List.length_cons, Nat.mul_add]
    omega
end Hr
namespace Hr
/-- a hill row of n ups under the ceiling c -/
def Hill (c : Option Nat) (n : Nat) (l : List Bool) : Prop := okb c 0 l = true ∧ l.length = 2 * n
end Hr
/-! ### defs of the text, by what they promise -/
namespace Hr
open PySem PySem.Spec PyProof.Rows L2
theorem same_upd {H : Hp} {p : Addr} {o : HO} (h : H p = none) : Same H (upd H p o) := fun b x e => by
  rw [upd_ne (ne_of_none e h)]
  exact e
/-- what was new may change -/
theorem same_updN {H0 H : Hp} {p : Addr} {o : HO} (s : Same H0 H) (n : H0 p = none) : Same H0 (upd H p o) := fun b x e => by
  rw [upd_ne (ne_of_none e n)]
  exact s b x e
theorem sz {n : Nat} (h : n ≤ 1000000) : n ≤ sizeLine := Nat.le_trans h (by decide)
theorem szl {n : Nat} (h : n < 1000000) : n < sizeLine := Nat.lt_of_lt_of_le h (by decide)
section
variable (K : PySem.W.Frag) (mg : Str → Option Value)
structure Def (x : Str) (st : Stmt) (ps : List Str) : Prop where
  ex : ∃ (f : Addr) (fd : FuncData), Fun K x x st f fd ∧ mg x = some (.ref f) ∧ Binds K fd ps []
/-- a def whose last parameter is None where it is left out -/
structure DefD (x : Str) (st : Stmt) (ps : List Str) : Prop where
  ex : ∃ (f : Addr) (fd : FuncData), FunD K x x (defArgs st) (defBody st) (defScope st) [V.non] [] f fd ∧ mg x = some (.ref f) ∧ Binds K fd ps [] ∧ ∃ ds, Vals [V.non] ds ∧ Binds K fd ps ds
/-- a def whose last parameter is dv where it is left out -/
structure DefV (x : Str) (st : Stmt) (ps : List Str) (dv : V) : Prop where
  ex : ∃ (f : Addr) (fd : FuncData), FunD K x x (defArgs st) (defBody st) (defScope st) [dv] [] f fd ∧ mg x = some (.ref f) ∧ Binds K fd ps [] ∧ ∃ ds, Vals [dv] ds ∧ Binds K fd ps ds
structure Cal (CX : CXT) (P : Program) (w : World) (base : Heap) (k : Nat) (x : Str) (dvs : List V) (sp : Sp) : Prop where
  ex : ∃ (f : Addr) (fd : FuncData) (ps : List Str) (ds : List Value), FnOk P w K mg base CX k f fd ps sp ∧ mg x = some (.ref f) ∧ PySem.W.keepIn K (.ref f) = true ∧ Binds K fd ps ds ∧ Vals dvs ds
end
section
variable {P : Program} {w : World} {K : PySem.W.Frag} {mg : Str → Option Value} {base : Heap}
theorem Def.cal {x : Str} {st : Stmt} {N ps : List Str} {k : Nat} {sp : Sp} (D : Def K mg x st ps) (S : FnScope N ps (defScope st)) (len : ∀ vs H Q E, sp vs H Q E → vs.length = ps.length)
    (hbody : ∀ (f : Addr) (cdv : Value) (A : Around) (outer : List Env) (s : Shared) (H : Hp) (vs : List V) (Q : VK) (E : XK), Room k (A.deeper (envOfC x (defScope st) s.heap.objs.size f cdv)) → sp vs H Q E →
      ∃ t, PSs (cxOf CX0 P w K mg base N x (defScope st) f cdv A outer s H E).nox (defBody st) t ∧ t { nx := fun _ H' => Q .non H', rt := Q } (start N vs) H) : Cal K mg CX0 P w base (k + 1) x [] sp := by
  obtain ⟨f, fd, F, hm, b⟩ := D.ex
  exact ⟨f, fd, ps, [], F.ok S len (hbody f), hm, F.kp, b, .nil⟩
theorem DefD.ok {x : Str} {st : Stmt} {N ps : List Str} {k : Nat} {sp : Sp} (D : DefD K mg x st ps) (S : FnScope N ps (defScope st)) (len : ∀ vs H Q E, sp vs H Q E → vs.length = ps.length)
    (hbody : ∀ (f : Addr) (cdv : Value) (A : Around) (outer : List Env) (s : Shared) (H : Hp) (vs : List V) (Q : VK) (E : XK), Room k (A.deeper (envOfC x (defScope st) s.heap.objs.size f cdv)) → sp vs H Q E →
      ∃ t, PSs (cxOf CX0 P w K mg base N x (defScope st) f cdv A outer s H E).nox (defBody st) t ∧ t { nx := fun _ H' => Q .non H', rt := Q } (start N vs) H) :
    Cal K mg CX0 P w base (k + 1) x [] sp ∧ Cal K mg CX0 P w base (k + 1) x [.non] sp := by
  obtain ⟨f, fd, F, hm, b, ds, vd, b2⟩ := D.ex
  have G : FnOk P w K mg base CX0 (k + 1) f fd ps sp := F.ok S len fun cdv A outer s H vs Q E hr hsp => by
    obtain ⟨t, h, q⟩ := hbody f cdv A outer s H vs Q E hr hsp
    exact ⟨t, h.nox, q⟩
  exact ⟨⟨f, fd, ps, [], G, hm, F.kp, b, .nil⟩, ⟨f, fd, ps, ds, G, hm, F.kp, b2, vd⟩⟩
theorem DefV.ok {x : Str} {st : Stmt} {N ps : List Str} {dv : V} {k : Nat} {sp : Sp} (D : DefV K mg x st ps dv) (S : FnScope N ps (defScope st)) (len : ∀ vs H Q E, sp vs H Q E → vs.length = ps.length)
    (hbody : ∀ (f : Addr) (cdv : Value) (A : Around) (outer : List Env) (s : Shared) (H : Hp) (vs : List V) (Q : VK) (E : XK), Room k (A.deeper (envOfC x (defScope st) s.heap.objs.size f cdv)) → sp vs H Q E →
      ∃ t, PSs (cxOf CX0 P w K mg base N x (defScope st) f cdv A outer s H E).nox (defBody st) t ∧ t { nx := fun _ H' => Q .non H', rt := Q } (start N vs) H) :
    Cal K mg CX0 P w base (k + 1) x [] sp ∧ Cal K mg CX0 P w base (k + 1) x [dv] sp := by
  obtain ⟨f, fd, F, hm, b, ds, vd, b2⟩ := D.ex
  have G : FnOk P w K mg base CX0 (k + 1) f fd ps sp := F.ok S len fun cdv A outer s H vs Q E hr hsp => by
    obtain ⟨t, h, q⟩ := hbody f cdv A outer s H vs Q E hr hsp
    exact ⟨t, h.nox, q⟩
  exact ⟨⟨f, fd, ps, [], G, hm, F.kp, b, .nil⟩, ⟨f, fd, ps, ds, G, hm, F.kp, b2, vd⟩⟩
/-- a weaker promise -/
theorem Cal.imp {CX : CXT} {x : Str} {dvs : List V} {k : Nat} {sp sp' : Sp} (C : Cal K mg CX P w base k x dvs sp) (h : ∀ vs H Q E, sp' vs H Q E → sp vs H Q E) : Cal K mg CX P w base k x dvs sp' := by
  obtain ⟨f, fd, ps, ds, G, hm, kp, b, d⟩ := C.ex
  exact ⟨f, fd, ps, ds, G.imp h, hm, kp, b, d⟩
end
section
variable {X : Cx}
theorem pe_c {k j : Nat} {x : Str} {dvs : List V} {sp : Sp} {e : Expr} {es : List Expr} {t : TA} {p pos : Pos} (c : Cal X.K X.mg CX0 X.prog X.w X.base k x dvs sp) (hr : Room j X.A) (ha : PA X (e :: es) t) (hk : k ≤ j := by decide) (hg : Gl X x := by rfl)
    (hdb : (x == ("__debug__" : Str)) = false := by decide) (he : starEach (e :: es) X.env = (false, eval e X.env) :: starEach es X.env := by rfl) (hpl : (backTo pos (starEach es X.env)).any (·.1) = false := by rfl) :
    PE X (.Call (.Name x p) (e :: es) [] pos) (tCall sp dvs E0 t) := by
  obtain ⟨f, fd, ps, ds, F, hm, kp, b, d⟩ := c.ex
  exact pe_call F (hr.mono hk) hg hm kp b d pass0 ha hdb he hpl
end
/-- from what the top has left -/
theorem def_mk {K : PySem.W.Frag} {mg : Str → Option Value} {h : Heap} {x : Str} {st : Stmt} {ps : List Str} {f : Addr} {oc : Value} {od an : Option Addr} {osl : Array (Option Value)} {kV doc pm cdv ct : Value} (X : K.In h) (G : h.Ns mainGlobals mg)
    (hb : ∀ (kV doc pm : Value) (an : Option Addr) (cdv ct : Value) (us : List Value), us.length = ps.length → bindArgs (PySem.W.fnOf x x (defArgs st) (defBody st) (defScope st) .none kV doc pm an cdv ct) ⟨us, []⟩ = pure (ps.zip us))
    (a : PySem.W.nsIn K mainGlobals x = some (some (.ref f))) (l : K.lookup f = some ⟨oc, od, .func (PySem.W.fnOf x x (defArgs st) (defBody st) (defScope st) .none kV doc pm an cdv ct), osl⟩)
    (c : PySem.W.codeIn K cdv x = true) (k : PySem.W.keepIn K (.ref f) = true) : Def K mg x st ps :=
  have F := fun_mk (st := st) l c k
  ⟨f, _, F, PySem.W.mg_of X G a, F.binds hb⟩
theorem defD_mk {K : PySem.W.Frag} {mg : Str → Option Value} {h : Heap} {x : Str} {st : Stmt} {ps : List Str} {f T : Addr} {oc tc : Value} {od an td : Option Addr} {osl tsl : Array (Option Value)} {kV doc pm cdv ct : Value} {n m : Nat} (X : K.In h) (G : h.Ns mainGlobals mg)
    (hn : ps.length = m + 1)
    (hb2 : ∀ (T : Addr) (kV doc pm : Value) (an : Option Addr) (cdv ct : Value) (us its : List Value), us.length = m + 1 → its.length = 1 →
      ∃ k, bindArgs (PySem.W.fnOf x x (defArgs st) (defBody st) (defScope st) (.ref T) kV doc pm an cdv ct) ⟨us, []⟩ = seqItems? (.ref T) >>= k ∧ k (some its.toArray) = pure (ps.zip (us ++ its.drop 1)))
    (hb1 : ∀ (T : Addr) (kV doc pm : Value) (an : Option Addr) (cdv ct : Value) (us its : List Value), us.length = m → its.length = 1 →
      ∃ k, bindArgs (PySem.W.fnOf x x (defArgs st) (defBody st) (defScope st) (.ref T) kV doc pm an cdv ct) ⟨us, []⟩ = seqItems? (.ref T) >>= k ∧ k (some its.toArray) = pure (ps.zip (us ++ its.drop 0)))
    (a : PySem.W.nsIn K mainGlobals x = some (some (.ref f))) (l : K.lookup f = some ⟨oc, od, .func (PySem.W.fnOf x x (defArgs st) (defBody st) (defScope st) (.ref T) kV doc pm an cdv ct), osl⟩)
    (c : PySem.W.codeIn K cdv x = true) (k : PySem.W.keepIn K (.ref f) = true) (lT : K.lookup T = some ⟨tc, td, .seq #[.none] n, tsl⟩) : DefD K mg x st ps := by
  have F : FunD K x x (defArgs st) (defBody st) (defScope st) [V.non] [] f (PySem.W.fnOf x x (defArgs st) (defBody st) (defScope st) (.ref T) kV doc pm an cdv ct) :=
    ⟨⟨oc, od, .ref T, kV, doc, pm, an, cdv, ct, osl, rfl, l, c, .inr ⟨List.cons_ne_nil _ _, T, _, [.none], n, rfl, lT, rfl, .cons rfl .nil⟩, .inl rfl⟩, k⟩
  obtain ⟨d2, v2, b2⟩ := F.binds1 (m + 1) 1 (List.cons_ne_nil _ _) (by rw [hn]; rfl) (fun T kV doc pm an cdv ct us its h1 h2 => hb2 T kV doc pm an cdv ct us its h1 h2)
  obtain ⟨d1, v1, b1⟩ := F.binds1 m 0 (List.cons_ne_nil _ _) (by rw [hn]; rfl) (fun T kV doc pm an cdv ct us its h1 h2 => hb1 T kV doc pm an cdv ct us its h1 h2)
  have e2 : d2 = [] := by
    cases v2
    rfl
  subst e2
  exact ⟨f, _, F, PySem.W.mg_of X G a, b2, d1, v1, b1⟩
theorem defV_mk {K : PySem.W.Frag} {mg : Str → Option Value} {h : Heap} {x : Str} {st : Stmt} {ps : List Str} {dv : V} {u : Value} {f T : Addr} {oc tc : Value} {od an td : Option Addr} {osl tsl : Array (Option Value)} {kV doc pm cdv ct : Value} {n m : Nat} (X : K.In h) (G : h.Ns mainGlobals mg)
    (hn : ps.length = m + 1)
    (hb2 : ∀ (T : Addr) (kV doc pm : Value) (an : Option Addr) (cdv ct : Value) (us its : List Value), us.length = m + 1 → its.length = 1 →
      ∃ k, bindArgs (PySem.W.fnOf x x (defArgs st) (defBody st) (defScope st) (.ref T) kV doc pm an cdv ct) ⟨us, []⟩ = seqItems? (.ref T) >>= k ∧ k (some its.toArray) = pure (ps.zip (us ++ its.drop 1)))
    (hb1 : ∀ (T : Addr) (kV doc pm : Value) (an : Option Addr) (cdv ct : Value) (us its : List Value), us.length = m → its.length = 1 →
      ∃ k, bindArgs (PySem.W.fnOf x x (defArgs st) (defBody st) (defScope st) (.ref T) kV doc pm an cdv ct) ⟨us, []⟩ = seqItems? (.ref T) >>= k ∧ k (some its.toArray) = pure (ps.zip (us ++ its.drop 0)))
    (a : PySem.W.nsIn K mainGlobals x = some (some (.ref f))) (l : K.lookup f = some ⟨oc, od, .func (PySem.W.fnOf x x (defArgs st) (defBody st) (defScope st) (.ref T) kV doc pm an cdv ct), osl⟩)
    (c : PySem.W.codeIn K cdv x = true) (k : PySem.W.keepIn K (.ref f) = true) (hu : RelV dv u) (lT : K.lookup T = some ⟨tc, td, .seq #[u] n, tsl⟩) : DefV K mg x st ps dv := by
  have F : FunD K x x (defArgs st) (defBody st) (defScope st) [dv] [] f (PySem.W.fnOf x x (defArgs st) (defBody st) (defScope st) (.ref T) kV doc pm an cdv ct) :=
    ⟨⟨oc, od, .ref T, kV, doc, pm, an, cdv, ct, osl, rfl, l, c, .inr ⟨List.cons_ne_nil _ _, T, _, [u], n, rfl, lT, rfl, .cons hu .nil⟩, .inl rfl⟩, k⟩
  obtain ⟨d2, v2, b2⟩ := F.binds1 (m + 1) 1 (List.cons_ne_nil _ _) (by rw [hn]; rfl) (fun T kV doc pm an cdv ct us its h1 h2 => hb2 T kV doc pm an cdv ct us its h1 h2)
  obtain ⟨d1, v1, b1⟩ := F.binds1 m 0 (List.cons_ne_nil _ _) (by rw [hn]; rfl) (fun T kV doc pm an cdv ct us its h1 h2 => hb1 T kV doc pm an cdv ct us its h1 h2)
  have e2 : d2 = [] := by
    cases v2
    rfl
  subst e2
  exact ⟨f, _, F, PySem.W.mg_of X G a, b2, d1, v1, b1⟩
end Hr
/-! ### the text of this law -/
namespace Hr
open PySem PySem.Spec PyProof.Rows L2
def topS (i : Nat) : Stmt := PySem.Challenge.pw_hillrows_k11_joined_lifted_mirrored.main.body.getD i (.Pass ⟨0, 0, 0, 0⟩)
abbrev sIsNum : Stmt := topS 11
abbrev sChNum : Stmt := topS 12
abbrev sHeights : Stmt := topS 16
abbrev sIsHill : Stmt := topS 17
abbrev sIsRow : Stmt := topS 18
abbrev sChHill : Stmt := topS 19
abbrev s_joined : Stmt := topS 22
abbrev s_lifted : Stmt := topS 23
abbrev s_mirrored : Stmt := topS 24
abbrev sMixed : Stmt := topS 26
abbrev sNumber : Stmt := topS 27
abbrev sLRow : Stmt := topS 28
abbrev sWord : Stmt := topS 29
abbrev sAsked : Stmt := topS 30
abbrev sLaw : Stmt := topS 31
end Hr
/-! ### errors that are caught and kept -/
namespace Hr
open PySem PySem.Spec PyProof.Rows L2
/-- an exception's object at a: its class, its own dict -/
def ExT (cls : Value) (d : Option Addr) (a : Addr) : HO := .ext fun h => ∃ (oe : Obj) (vs : Array Value), h.get? a = some oe ∧ Zc cls d oe ∧ oe.data = .fields vs
theorem exT_ok {P : Program} {w : World} {H : Hp} {h : Heap} {a : Addr} {cls : Value} {d : Option Addr} {oe : Obj} {vs : Array Value} (e : h.get? a = some oe) (z : Zc cls d oe) (dd : oe.data = .fields vs) : ObjOk P w H h a (ExT cls d a) :=
  ⟨⟨oe, vs, e, z, dd⟩, ⟨oe, e⟩, fun _ _ ⟨o, v, q, r⟩ k => ⟨o, v, k o q, r⟩⟩
/-- the wish of a try whose clause takes every error of its body and keeps it -/
def wKept (K : PySem.W.Frag) (c : Value) (i : Nat) (ts : Addr → TS) (D : Ends) : WX := fun cls d σ H =>
  PySem.W.exmOne K cls c = some true ∧ ∀ a, H a = none →
    ts a ⟨fun σ1 H1 => D.nx (σ1.set i none) (upd H1 a (ExT cls d a)), fun _ _ => False, fun _ _ => False, fun _ _ => False⟩ (σ.set i (some (.ref a))) H
section
variable {X : Cx} {x n : Str} {c : Value} {i : Nat} {body suite : List Stmt} {b₀ : Stmt} {np pos pos' : Pos} {tb : WX → TS} {ts : Addr → TS}
theorem unsuite2 {pins : List (Addr × Obj)} {σ : L2.St} {H : Hp} {s : Shared} {a : Addr} {oe : Obj} (I : Inv (X.suite a ((a, oe) :: (X.pn ++ pins))) [] σ H s) (ok : X.Ok) : Inv X ((a, oe) :: pins) σ H s :=
  ⟨ok, I.os, I.bare, I.base, I.loc, I.cell, I.free, I.freeC, fun p hp => I.pin p (List.mem_append_left _ (by
    rcases List.mem_append.mp hp with z | z
    · exact List.mem_cons_of_mem _ (List.mem_append_left _ z)
    · rcases List.mem_cons.mp z with z | z
      · rw [z]
        exact List.mem_cons_self
      · exact List.mem_cons_of_mem _ (List.mem_append_right _ z))), I.hok, I.len⟩
theorem track {pins : List (Addr × Obj)} {σ : L2.St} {H : Hp} {s : Shared} {a : Addr} {oe : Obj} {vs : Array Value} {cls : Value} {d : Option Addr} (I : Inv X ((a, oe) :: pins) σ H s) (hz : Zc cls d oe) (hd : oe.data = .fields vs) (n0 : X.s_0.heap.get? a = none)
    (np : ∀ p ∈ X.pn ++ pins, p.1 ≠ a) : Inv X pins σ (upd H a (ExT cls d a)) s := by
  obtain ⟨ha, na, nL, nF, _⟩ := I.pin (a, oe) (List.mem_append_right _ List.mem_cons_self)
  have ha : s.heap.get? a = some oe := ha
  have na : H a = none := na
  have nb0 : ∀ b o, X.s_0.heap.get? b = some o → b ≠ a := fun b o e z => by
    rw [z, n0] at e
    cases e
  refine ⟨I.ok, I.os, I.bare, ⟨I.base.keep, I.base.slot, fun b o e n hx => ?_, I.base.there, fun b xs e => ?_, fun b o u e => ?_, fun b ps e => ?_⟩, I.loc, I.cell, ?_, fun y cc e => ?_, fun p hp => ?_, ?_, I.len⟩
  · rw [upd_ne (nb0 b o e)]
    exact I.base.free b o e n hx
  · have q := I.base.tups b xs e
    rw [upd_ne (ne_of_none q na)]
    exact q
  · have q := I.base.frzs b o u e
    rw [upd_ne (ne_of_none q na)]
    exact q
  · obtain ⟨m, q⟩ := I.base.tbls b ps e
    exact ⟨m, by rw [upd_ne (ne_of_none q na)]; exact q⟩
  · rw [upd_ne (Ne.symm nL)]
    exact I.free
  · obtain ⟨v, o, q1, q2⟩ := I.cell y cc e
    have nc : cc ≠ a := fun z => by
      rw [z, ha] at q1
      cases q1
      rw [hd] at q2
      cases q2
    rw [upd_ne nc]
    exact I.freeC y cc e
  · obtain ⟨q1, q2, q3, q4, q5⟩ := I.pin p (by
      rcases List.mem_append.mp hp with z | z
      · exact List.mem_append_left _ z
      · exact List.mem_append_right _ (List.mem_cons_of_mem _ z))
    exact ⟨q1, by rw [upd_ne (np p hp)]; exact q2, q3, q4, q5⟩
  · exact I.hok.laidN (fun _ _ z => z) na (exT_ok ha hz hd)
/-- what is caught is new since the def began -/
theorem caught_new {pins : List (Addr × Obj)} {σ : L2.St} {H : Hp} {g : Shared} {G : Heap} {a : Addr} (J : Inv X pins σ H g)
    (kp : ∀ b o, g.heap.get? b = some o → b ∉ frs X.stack → G.get? b = some o) (out : G.get? a = none) (nf : a ∉ frs X.stack) (hex : X.ex = []) :
    X.s_0.heap.get? a = none ∧ ∀ p ∈ X.pn ++ pins, p.1 ≠ a := by
  have g0 : g.heap.get? a = none := by
    cases e : g.heap.get? a with
    | none => rfl
    | some o => exact absurd ((kp a o e nf).symm.trans out) (fun z => nomatch z)
  refine ⟨?_, fun p hp z => ?_⟩
  · cases e : X.s_0.heap.get? a with
    | none => rfl
    | some o =>
      obtain ⟨u, hu⟩ := J.base.there a o e (hex ▸ fun z => nomatch z)
      exact absurd (hu.symm.trans g0) (fun z => nomatch z)
  · have hp1 := (J.pin p hp).1
    rw [z, g0] at hp1
    exact nomatch hp1
theorem kept_try (hs : X.stack = X.env :: X.outer) (hf : X.env.frame = some X.env.locals)
    (hex : X.ex = []) (hN : X.N.Nodup) (hi : X.N[i]? = some n)
    (hln : X.env.kindOf n = some .local) (hc : Names X x c)
    (inner : ∀ W pn xe, Takes (X.tr pn xe) W → PassesOwn (model X.prog X.w) X.A X.env xe → PSs (X.tr pn xe) body (tb W))
    (clause : ∀ a q, PSs (X.suite a q) (b₀ :: suite) (ts a)) :
    PS X (.Try body [.ExceptHandler (some (.Name x np)) (some n) (b₀ :: suite) pos'] [] [] pos)
      (fun D σ H => tb (wKept X.K c i ts D) D σ H) := by
  constructor
  intro pins s σ H D I h
  have frames : X.A.frames = some (X.env :: X.outer) := by
    rw [← hs]
    exact I.ok.frames
  apply wpAny_Try_except
  refine wpAny_mono ((inner (wKept X.K c i ts D) (X.pn ++ pins) _ ?later PassesOwn.looking).run
    [] s σ H D (I.toTry _) h) ?done fun _ _ z => z
  case later =>
    rintro u t ⟨a, G, g, pq, σ1, H1, cls, d, rfl, J0, kp, up, sky, na, os, ag, hb, go⟩
    have J := J0.ofTry I.ok
    rw [hs] at sky
    refine Sky.land Zc.steady frames hf sky fun h3 f3 u3 => ?_
    obtain ⟨e3, v3, at3, z3, d3⟩ := f3.there
    -- it is none of the frames
    have away : a ∉ frs (X.env :: X.outer) := by
      intro z
      obtain ⟨_, o, ho, no⟩ := f3.2.2.1.mem z
      rw [at3] at ho
      injection ho with ho
      subst ho
      exact no _ d3
    have a1 : a ≠ X.env.locals := fun z =>
      away (List.mem_filterMap.mpr ⟨X.env, .head _, z ▸ hf⟩)
    have a2 : a ∉ X.fs := by
      intro z
      obtain ⟨e, he, q⟩ := List.mem_filterMap.mp z
      exact away (List.mem_filterMap.mpr ⟨e, .tail _ he, q⟩)
    obtain ⟨n0, apart⟩ := caught_new J kp f3.2.1 (hs ▸ away) hex
    have J3 := J.landed (s' := { t with heap := h3 }) kp f3.1 (up.trans u3) os ag
    have S3 := J3.suite at3 d3 na a1 a2
    refine wpAny_handleBy_cons (codeAny_handlers_test ?_) (fun z => nomatch z)
    have ty : PySem.W.Looks (model X.prog X.w) h3 (typeOf (.ref a)) cls := fun _ _ _ _ k q =>
      wpAny_typeOf_ref (k _ _ at3) (z3.1 ▸ q)
    have hit := PySem.W.exm_one J3.kIn ty hb
    have named : ∀ {Q E : Value → Shared → Prop}, Q c { t with heap := h3 } →
        wpAny (model X.prog X.w) (X.A.mark (some (.ref a))) (eval (.Name x np) X.env) Q E { t with heap := h3 } := by
      intro Q E q
      obtain ⟨gl, dbg, mine | ⟨none', boot, other⟩⟩ := hc
      · exact ld_glob S3 gl mine q dbg
      · exact ld_blt S3 gl none' boot q other dbg
    refine named (hit.here (codeAny_handlers_suite_as ?_))
    refine HandSPX.lands_againZ f3 fun h4 f4 u4 => ?_
    obtain ⟨e4, v4, at4, z4, d4⟩ := f4.there
    have J4 := J.landed (s' := { t with heap := h4 }) kp f4.1 ((up.trans u3).trans u4) os ag
    refine store_ok (X := X.suite a ((a, e4) :: (X.pn ++ pins)))
      (J4.suite at4 d4 na a1 a2) (v := .ref a) hN hi (.inl hln) rfl (fun s5 S5 => ?_) (.inr hln)
    have fin := (clause a ((a, e4) :: (X.pn ++ pins))).run [] s5 _ H1 _ S5 (go a na)
    refine wpAny_mono fin (fun fl s6 done => ?_) fun _ _ z => z.elim
    cases fl with
    | next =>
      obtain ⟨σ6, H6, S6, q6⟩ := done
      refine gone_ok (unsuite2 S6 I.ok) hN hi hln fun s7 J7 => ?_
      exact ⟨_, _, track J7 z4 d4 n0 apart, q6⟩
    | brk => exact (let ⟨_, _, _, z⟩ := done; z.elim)
    | cont => exact (let ⟨_, _, _, z⟩ := done; z.elim)
    | ret u => exact (let ⟨_, _, _, _, _, z⟩ := done; z.elim)
  intro fl s1 done
  cases fl with
  | next => exact (let ⟨_, _, J, z⟩ := done; wpAny_execs_nil ⟨_, _, J.ofTry I.ok, z⟩)
  | brk => exact (let ⟨_, _, J, z⟩ := done; ⟨_, _, J.ofTry I.ok, z⟩)
  | cont => exact (let ⟨_, _, J, z⟩ := done; ⟨_, _, J.ofTry I.ok, z⟩)
  | ret u => exact (let ⟨_, _, _, J, r, z⟩ := done; ⟨_, _, _, J.ofTry I.ok, r, z⟩)
/-- isinstance(e, c), e an error that was kept -/
def rIsT (K : PySem.W.Frag) : List V → Hp → VK → Prop := fun xs H Q => ∃ (a D : Addr) (cc : V) (cv : Value) (b : Bool), xs = [.ref a, cc] ∧ H a = some (ExT (.ref D) none a) ∧ ExcC K D ∧ (∀ u, RelV cc u → u = cv) ∧ PySem.W.kitOne K (.ref D) cv = some b ∧ Q (.bl b) H
theorem call_isT : CallR X (.builtin "isinstance") (rIsT X.K) := by
  intro pins s σ H xs us Q I r h
  obtain ⟨a, D, cc, cv, b, rfl, ea, C, hcv, e, q⟩ := h
  cases r with
  | cons rx rr =>
    cases rr with
    | cons rt rr =>
      cases rr
      cases rx
      have ec := hcv _ rt
      subst ec
      obtain ⟨⟨oe, vs, hget, hz, hv⟩, _⟩ := I.hok a _ ea
      have J : PySem.W.InstAt s.heap a oe D none := by
        obtain ⟨oc, od, oda, osl⟩ := oe
        obtain ⟨h1, h2⟩ := hz
        dsimp only at h1 h2 hv
        subst h1 h2 hv
        exact ⟨hget, rfl, rfl, trivial⟩
      exact PySem.W.kia_one (PySem.W.handS_kitx_exc C.hg C.hk C.hs C.hd C.ha C.hn C.ht C.hm) I.kIn J e (fun z => nomatch z) fun tk => ⟨.bl b, H, I.kept (t' := tk) fun _ _ z => z, rfl, q⟩
end
section
variable {X : Cx}
/-- a def that may raise, called where it does not -/
theorem pe_cL {k j : Nat} {x : Str} {dvs : List V} {sp : Sp} {e : Expr} {es : List Expr} {t : TA} {p pos : Pos} (c : Cal X.K X.mg (L2.CX X.prog X.w) X.prog X.w X.base k x dvs sp) (hr : Room j X.A) (ha : PA X (e :: es) t) (hk : k ≤ j := by decide) (hg : Gl X x := by rfl)
    (hdb : (x == ("__debug__" : Str)) = false := by decide) (he : starEach (e :: es) X.env = (false, eval e X.env) :: starEach es X.env := by rfl) (hpl : (backTo pos (starEach es X.env)).any (·.1) = false := by rfl) :
    PE X (.Call (.Name x p) (e :: es) [] pos) (tCall sp dvs E0 t) := by
  obtain ⟨f, fd, ps, ds, F, hm, kp, b, d⟩ := c.ex
  exact pe_call F (hr.mono hk) hg hm kp b d passL ha hdb he hpl
/-- .. in a def that lets it out -/
theorem pe_cX {k j : Nat} {x : Str} {dvs : List V} {sp : Sp} {E : XK} {e : Expr} {es : List Expr} {t : TA} {p pos : Pos} (c : Cal X.K X.mg (L2.CX X.prog X.w) X.prog X.w X.base k x dvs sp) (hr : Room j X.A) (tk : Takes X fun cls d _ H => E cls d H) (ha : PA X (e :: es) t) (hk : k ≤ j := by decide) (hg : Gl X x := by rfl)
    (hdb : (x == ("__debug__" : Str)) = false := by decide) (he : starEach (e :: es) X.env = (false, eval e X.env) :: starEach es X.env := by rfl) (hpl : (backTo pos (starEach es X.env)).any (·.1) = false := by rfl) :
    PE X (.Call (.Name x p) (e :: es) [] pos) (tCall sp dvs E t) := by
  obtain ⟨f, fd, ps, ds, F, hm, kp, b, d⟩ := c.ex
  exact pe_call F (hr.mono hk) hg hm kp b d (passes_call tk fun _ _ _ _ h => h) ha hdb he hpl
/-- .. in a try's body, at the slots -/
def tCallT (sp : Sp) (dvs : List V) (E : L2.St → XK) (t : TA) : TE := fun σ H Q => t σ H fun vs H1 => sp (vs ++ dvs) H1 Q (E σ)
end
end Hr
/-! ### errors of the text, defs that raise them -/
namespace Hr
open PySem PySem.Spec PyProof.Rows L2
/-- the class x of errors at C -/
structure Err (K : PySem.W.Frag) (mg : Str → Option Value) (x : Str) (C : Addr) : Prop where
  g : mg x = some (.ref C)
  x : PySem.W.excIn K C [.type "ValueError", .type "Exception", .type "BaseException", .type "object"] "ValueError.__new__" = true
  k : PySem.W.keepIn K (.ref C) = true
  b : PySem.W.subIn K (.ref C) (.type "BaseException") = some true
  t : PySem.W.typeIn K (.ref C) = some (.type "type")
section
variable {P : Program} {w : World} {K : PySem.W.Frag} {mg : Str → Option Value} {base : Heap}
theorem Def.calX {x : Str} {st : Stmt} {N ps : List Str} {k : Nat} {sp : Sp} (D : Def K mg x st ps) (S : FnScope N ps (defScope st)) (len : ∀ vs H Q E, sp vs H Q E → vs.length = ps.length)
    (hbody : ∀ (f : Addr) (cdv : Value) (A : Around) (outer : List Env) (s : Shared) (H : Hp) (vs : List V) (Q : VK) (E : XK), Room k (A.deeper (envOfC x (defScope st) s.heap.objs.size f cdv)) → sp vs H Q E →
      ∃ t, PSs (cxOf (L2.CX P w) P w K mg base N x (defScope st) f cdv A outer s H E) (defBody st) t ∧ t { nx := fun _ H' => Q .non H', rt := Q } (start N vs) H) : Cal K mg (L2.CX P w) P w base (k + 1) x [] sp := by
  obtain ⟨f, fd, F, hm, b⟩ := D.ex
  exact ⟨f, fd, ps, [], F.okX S len (hbody f), hm, F.kp, b, .nil⟩
theorem DefD.okX {x : Str} {st : Stmt} {N ps : List Str} {k : Nat} {sp : Sp} (D : DefD K mg x st ps) (S : FnScope N ps (defScope st)) (len : ∀ vs H Q E, sp vs H Q E → vs.length = ps.length)
    (hbody : ∀ (f : Addr) (cdv : Value) (A : Around) (outer : List Env) (s : Shared) (H : Hp) (vs : List V) (Q : VK) (E : XK), Room k (A.deeper (envOfC x (defScope st) s.heap.objs.size f cdv)) → sp vs H Q E →
      ∃ t, PSs (cxOf (L2.CX P w) P w K mg base N x (defScope st) f cdv A outer s H E) (defBody st) t ∧ t { nx := fun _ H' => Q .non H', rt := Q } (start N vs) H) :
    Cal K mg (L2.CX P w) P w base (k + 1) x [] sp ∧ Cal K mg (L2.CX P w) P w base (k + 1) x [.non] sp := by
  obtain ⟨f, fd, F, hm, b, ds, vd, b2⟩ := D.ex
  have G : FnOk P w K mg base (L2.CX P w) (k + 1) f fd ps sp := F.ok S len (hbody f)
  exact ⟨⟨f, fd, ps, [], G, hm, F.kp, b, .nil⟩, ⟨f, fd, ps, ds, G, hm, F.kp, b2, vd⟩⟩
theorem DefV.okX {x : Str} {st : Stmt} {N ps : List Str} {k : Nat} {sp : Sp} {dv : V} (D : DefV K mg x st ps dv) (S : FnScope N ps (defScope st)) (len : ∀ vs H Q E, sp vs H Q E → vs.length = ps.length)
    (hbody : ∀ (f : Addr) (cdv : Value) (A : Around) (outer : List Env) (s : Shared) (H : Hp) (vs : List V) (Q : VK) (E : XK), Room k (A.deeper (envOfC x (defScope st) s.heap.objs.size f cdv)) → sp vs H Q E →
      ∃ t, PSs (cxOf (L2.CX P w) P w K mg base N x (defScope st) f cdv A outer s H E) (defBody st) t ∧ t { nx := fun _ H' => Q .non H', rt := Q } (start N vs) H) :
    Cal K mg (L2.CX P w) P w base (k + 1) x [] sp ∧ Cal K mg (L2.CX P w) P w base (k + 1) x [dv] sp := by
  obtain ⟨f, fd, F, hm, b, ds, vd, b2⟩ := D.ex
  have G : FnOk P w K mg base (L2.CX P w) (k + 1) f fd ps sp := F.ok S len (hbody f)
  exact ⟨⟨f, fd, ps, [], G, hm, F.kp, b, .nil⟩, ⟨f, fd, ps, ds, G, hm, F.kp, b2, vd⟩⟩
end
end Hr
/-! ### the law's own numbers -/
namespace Hr
open PySem PySem.Spec PyProof.Rows L2
/-- what _law_mixed makes of a cell at its place -/
def mixed (z k : Int) : Int :=
  let m := (z % 2147483629 + 104729 * (k + 1)) * 16807 % 2147483647
  m * m % 2147483629 * 48271 % 2147483647
theorem mixed_nonneg (z k : Int) : 0 ≤ mixed z k := Int.emod_nonneg _ (by decide)
theorem mixed_lt (z k : Int) : mixed z k < 2147483647 := Int.emod_lt_of_pos _ (by decide)
theorem scMixed : FnScope ["_law_cell", "_law_k", "_law_mark"] ["_law_cell", "_law_k"] (defScope sMixed) := ⟨rfl, rfl, rfl, by decide +kernel, rfl, by decide +kernel, by decide +kernel⟩
section
variable {P : Program} {w : World} {K : PySem.W.Frag} {mg : Str → Option Value} {base : Heap}
def spMixed : Sp := fun vs H Q _ => ∃ (z k : Int), vs = [.int z, .int k] ∧ Q (.int (mixed z k)) H
theorem cal_mixed (D : Def K mg "_law_mixed" sMixed ["_law_cell", "_law_k"]) : Cal K mg CX0 P w base 1 "_law_mixed" [] spMixed := by
  refine D.cal scMixed (fun vs H Q E h => ?_) (fun f cdv A outer s H vs Q E hr h => ?_)
  · obtain ⟨z, k, rfl, _⟩ := h
    rfl
  · obtain ⟨z, k, rfl, q⟩ := h
    refine ⟨_, pss_cons (ps_set (i := 2) scMixed.nd rfl (.inl rfl) (pe_op op_mod (pe_op op_mul (pe_op op_add (pe_op op_mod (pv 0) pe_int) (pe_op op_mul pe_int (pe_op op_add (pv 1) pe_int))) pe_int) pe_int))
      (pss_one (ps_ret (pe_op op_mod (pe_op op_mul (pe_op op_mod (pe_op op_mul (pv 2) (pv 2)) pe_int) pe_int) pe_int))), ?_⟩
    refine ⟨.int z, rfl, z, 2147483629, rfl, rfl, (by show (0 : Int) < 2147483629; decide), .int k, rfl, k, 1, rfl, rfl, 104729, k + 1, rfl, rfl, .inl ⟨by decide, by decide⟩, z % 2147483629, 104729 * (k + 1), rfl, rfl, _, 16807, rfl, rfl, .inr ⟨by decide, by decide⟩,
      _, 2147483647, rfl, rfl, (by show (0 : Int) < 2147483647; decide), ?_⟩
    have h0 : 0 ≤ (z % 2147483629 + 104729 * (k + 1)) * 16807 % 2147483647 := Int.emod_nonneg _ (by decide)
    have h1 : (z % 2147483629 + 104729 * (k + 1)) * 16807 % 2147483647 < 2147483647 := Int.emod_lt_of_pos _ (by decide)
    refine ⟨_, rfl, _, rfl, _, _, rfl, rfl, .inl ⟨by omega, by omega⟩, _, 2147483629, rfl, rfl, (by show (0 : Int) < 2147483629; decide), _, 48271, rfl, rfl, .inr ⟨by decide, by decide⟩, _, 2147483647, rfl, rfl, (by show (0 : Int) < 2147483647; decide), ?_⟩
    exact q
end
end Hr
namespace Hr
open PySem PySem.Spec PyProof.Rows L2
/-- a ceiling as a value -/
def cV : Option Nat → V
  | none => .non
  | some k => .int (k : Int)
/-- a ceiling in its bounds -/
def cOk (m : Nat) : Option Nat → Prop
  | none => True
  | some k => k ≤ m
end Hr
/-! ### counts and ranks, with what they refuse -/
namespace Hr
open PySem PySem.Spec PyProof.Rows L2
/-- a whole number from 0 to m -/
def numL : V → Int → Int → Bool
  | .int i, l, m => decide (l ≤ i ∧ i ≤ m)
  | _, _, _ => false
def numB (v : V) (m : Int) : Bool := numL v 0 m
def ceilB : V → Bool
  | .non => true
  | v => numB v 200
theorem numB_of {v : V} {m : Int} (h : numB v m = true) : ∃ n : Nat, v = .int (n : Int) ∧ (n : Int) ≤ m := by
  cases v with
  | int i =>
    have := of_decide_eq_true h
    exact ⟨i.toNat, by rw [Int.toNat_of_nonneg this.1], by omega⟩
  | _ => cases h
theorem numB_nat {n : Nat} {m : Int} (h : (n : Int) ≤ m) : numB (.int (n : Int)) m = true := decide_eq_true ⟨by omega, h⟩
theorem ceilB_of {v : V} (h : ceilB v = true) : ∃ c : Option Nat, v = cV c ∧ cOk 200 c := by
  cases v with
  | non => exact ⟨none, rfl, trivial⟩
  | int i =>
    obtain ⟨n, e, hn⟩ := numB_of (v := .int i) (m := 200) h
    exact ⟨some n, e, by show n ≤ 200; omega⟩
  | _ => cases h
theorem ceilB_cV {c : Option Nat} (h : cOk 200 c) : ceilB (cV c) = true := by
  cases c with
  | none => rfl
  | some k =>
    have h : k ≤ 200 := h
    exact numB_nat (by omega)
theorem flat_cV (c : Option Nat) : flatV (cV c) = true := by cases c <;> rfl
theorem scIsNum : FnScope ["value", "most", "least"] ["value", "most", "least"] (defScope sIsNum) := ⟨rfl, rfl, rfl, by decide +kernel, rfl, by decide +kernel, by decide +kernel⟩
theorem scChNum : FnScope ["value", "most", "least"] ["value", "most", "least"] (defScope sChNum) := ⟨rfl, rfl, rfl, by decide +kernel, rfl, by decide +kernel, by decide +kernel⟩
section
variable {P : Program} {w : World} {K : PySem.W.Frag} {mg : Str → Option Value} {base : Heap} {CC CN CR CP : Addr}
def spIsNumV : Sp := fun vs H Q _ => ∃ (v : V) (m : Int), vs = [v, .int m, .int 0] ∧ flatV v = true ∧ Q (.bl (numB v m)) H
def spIsNumL : Sp := fun vs H Q _ => ∃ (v : V) (m l : Int), vs = [v, .int m, .int l] ∧ flatV v = true ∧ Q (.bl (numL v l m)) H
theorem cal_isNumL (D : DefV K mg "is_number" sIsNum ["value", "most", "least"] (.int 0)) (misi : mg "isinstance" = none) (mint : mg "int" = none) (mbool : mg "bool" = none) : Cal K mg CX0 P w base 1 "is_number" [] spIsNumL ∧ Cal K mg CX0 P w base 1 "is_number" [.int 0] spIsNumL := by
  refine D.ok scIsNum (fun vs H Q E h => ?_) (fun f cdv A outer s H vs Q E hr h => ?_)
  · obtain ⟨i, m, l, rfl, _⟩ := h
    rfl
  · obtain ⟨v, m, l, rfl, hv, q⟩ := h
    refine ⟨_, pss_one (ps_ret (pe_and (pe_callB call_isi (by rfl) misi (by decide +kernel) (pa_cons (pv 0) (pa_cons (pe_bltn (v := .ty "int") (u := .type "int") (by rfl) mint (by decide +kernel) rfl) pa_nil)))
      (pe_and (pe_not (pe_callB call_isi (by rfl) misi (by decide +kernel) (pa_cons (pv 0) (pa_cons (pe_bltn (v := .ty "bool") (u := .type "bool") (by rfl) mbool (by decide +kernel) rfl) pa_nil))))
      (pe_one (pe_chain op_le op_le (pv 2) (pv 0) (pv 1)))))), ?_⟩
    cases v with
    | int i =>
      refine ⟨.int i, rfl, .int i, .ty "int", _, _, true, rfl, .ty "int", .base (.int i), kit_ty (by decide +kernel), true, rfl, iteT ?_⟩
      refine ⟨.int i, rfl, .int i, .ty "bool", _, _, false, rfl, .ty "bool", .base (.int i), kit_ty (by decide +kernel), false, rfl, true, rfl, iteT ?_⟩
      refine ⟨.int l, rfl, .int i, rfl, l, i, rfl, rfl, decide (l ≤ i), rfl, ite2 (fun e => ?_) (fun e => ?_)⟩
      · refine ⟨.int m, rfl, i, m, rfl, rfl, ?_⟩
        have e0 : l ≤ i := of_decide_eq_true e
        show Q (.bl (decide (i ≤ m))) H
        rw [show decide (i ≤ m) = decide (l ≤ i ∧ i ≤ m) from decide_eq_decide.mpr ⟨fun z => ⟨e0, z⟩, fun z => z.2⟩]
        exact q
      · have e0 : ¬ l ≤ i := fun z => e (decide_eq_true z)
        have en : numL (.int i) l m = false := decide_eq_false (fun z => e0 z.1)
        rw [en] at q
        exact q
    | bl b =>
      refine ⟨.bl b, rfl, .bl b, .ty "int", _, _, true, rfl, .ty "int", .base (.bl b), kit_ty (by decide +kernel), true, rfl, iteT ?_⟩
      refine ⟨.bl b, rfl, .bl b, .ty "bool", _, _, true, rfl, .ty "bool", .base (.bl b), kit_ty (by decide +kernel), true, rfl, false, rfl, iteF ?_⟩
      exact q
    | non =>
      refine ⟨.non, rfl, .non, .ty "int", _, _, false, rfl, .ty "int", .base .non, kit_ty (by decide +kernel), false, rfl, iteF ?_⟩
      exact q
    | str z =>
      refine ⟨.str z, rfl, .str z, .ty "int", _, _, false, rfl, .ty "int", .base (.str z), kit_ty (by decide +kernel), false, rfl, iteF ?_⟩
      exact q
    | byt _ => cases hv
    | flt _ => cases hv
    | ref _ => cases hv
    | ty _ => cases hv
theorem cal_isNumV (D : DefV K mg "is_number" sIsNum ["value", "most", "least"] (.int 0)) (misi : mg "isinstance" = none) (mint : mg "int" = none) (mbool : mg "bool" = none) : Cal K mg CX0 P w base 1 "is_number" [] spIsNumL ∧ Cal K mg CX0 P w base 1 "is_number" [.int 0] spIsNumV := by
  obtain ⟨C1, C2⟩ := cal_isNumL (P := P) (w := w) (base := base) D misi mint mbool
  exact ⟨C1, C2.imp fun vs H Q E ⟨v, m, e, hv, q⟩ => ⟨v, m, 0, e, hv, q⟩⟩
def spChNumX (CC : Addr) : Sp := fun vs H Q E => ∃ (v : V) (m : Int), vs = [v, .int m, .int 0] ∧ flatV v = true ∧ (m = 200 ∨ m = 400) ∧ (numB v m = true → Q .non H) ∧ (numB v m = false → E (.ref CC) none H)
def spChNumL (CC : Addr) : Sp := fun vs H Q E => ∃ (v : V) (m l : Int), vs = [v, .int m, .int l] ∧ flatV v = true ∧ (0 ≤ m ∧ m ≤ 400) ∧ (0 ≤ l ∧ l ≤ 400) ∧ (numL v l m = true → Q .non H) ∧ (numL v l m = false → E (.ref CC) none H)
theorem num_fits : ∀ k : Fin 401, (Str.ofString (toString ((k.val : Nat) : Int))).length ≤ 1000 ∧ ((k.val : Nat) : Int).natAbs.log2 < 1920 := by decide +kernel
theorem num_fit {m : Int} (h : 0 ≤ m ∧ m ≤ 400) : (Str.ofString (toString m)).length ≤ 1000 ∧ m.natAbs.log2 < 1920 := by
  have := num_fits ⟨m.toNat, by omega⟩
  have e : ((m.toNat : Nat) : Int) = m := Int.toNat_of_nonneg h.1
  dsimp only at this
  rw [e] at this
  exact this
theorem cal_chNumL (er : Err K mg "NoCount" CC) (D : DefV K mg "check_number" sChNum ["value", "most", "least"] (.int 0)) (C : Cal K mg CX0 P w base 1 "is_number" [] spIsNumL) : Cal K mg (L2.CX P w) P w base 2 "check_number" [] (spChNumL CC) ∧ Cal K mg (L2.CX P w) P w base 2 "check_number" [.int 0] (spChNumL CC) := by
  refine D.okX scChNum (fun vs H Q E h => ?_) (fun f cdv A outer s H vs Q E hr h => ?_)
  · obtain ⟨i, m, l, rfl, _⟩ := h
    rfl
  · obtain ⟨v, m, l, rfl, hv, hm, hl, q, qe⟩ := h
    refine ⟨_, pss_one (ps_if (pt_not (pt_val (pe_c C hr (pa_cons (pv 0) (pa_cons (pv 1) (pa_cons (pv 2) pa_nil)))))) (pss_one (ps_raise rfl (takes_of rfl rfl rfl rfl) (SkE.pmk_own1 PySem.F.excBase_ValueError er.x er.g er.k (raises_own er.b er.t) rfl (pe_joined (.cons pe_str (.cons (pe_fmt (pv 2)) (.cons pe_str (.cons (pe_fmt (pv 1)) .nil)))))))) pss_nil), ?_⟩
    refine ⟨v, rfl, .int m, rfl, .int l, rfl, v, m, l, rfl, hv, numL v l m, rfl, ?_⟩
    cases hn : numL v l m with
    | true =>
      refine iteF ?_
      exact q hn
    | false =>
      refine iteT ?_
      have f1 := num_fit hm
      have f2 := num_fit hl
      have h1 : (Str.empty ++ ("no whole number from " : Str)).length ≤ 100 := by decide +kernel
      have h2 : ((" to " : Str)).length ≤ 100 := by decide +kernel
      refine ⟨_, rfl, by decide +kernel, _, rfl, .inr ⟨l, rfl, f2.2, _, rfl, ?_, _, rfl, ?_, _, rfl, .inr ⟨m, rfl, f1.2, _, rfl, ?_, qe hn⟩⟩⟩
      · rw [PySem.Str.length_append]
        refine sz ?_
        have := f2.1
        omega
      · rw [PySem.Str.length_append, PySem.Str.length_append]
        refine sz ?_
        have := f2.1
        omega
      · rw [PySem.Str.length_append, PySem.Str.length_append, PySem.Str.length_append]
        refine sz ?_
        have := f2.1
        have := f1.1
        omega
theorem cal_chNumX (er : Err K mg "NoCount" CC) (D : DefV K mg "check_number" sChNum ["value", "most", "least"] (.int 0)) (C : Cal K mg CX0 P w base 1 "is_number" [] spIsNumL) : Cal K mg (L2.CX P w) P w base 2 "check_number" [] (spChNumL CC) ∧ Cal K mg (L2.CX P w) P w base 2 "check_number" [.int 0] (spChNumX CC) := by
  obtain ⟨C1, C2⟩ := cal_chNumL (P := P) (w := w) (base := base) er D C
  refine ⟨C1, C2.imp fun vs H Q E ⟨v, m, e, hv, hm, q, qe⟩ => ⟨v, m, 0, e, hv, ?_, by omega, q, qe⟩⟩
  omega
end
end Hr
/-! ### rows as texts -/
namespace Hr
open PySem PySem.Spec PyProof.Rows L2
def code (b : Bool) : Nat := if b = true then 117 else 100
def txt (l : List Bool) : Str := ⟨(l.map code).toArray⟩
def sgn (b : Bool) : Str := ⟨#[code b]⟩
theorem txt_len (l : List Bool) : (txt l).length = l.length := by
  show ((l.map code).toArray).size = _
  rw [List.size_toArray, List.length_map]
theorem txt_size (l : List Bool) : (txt l).cps.size = l.length := txt_len l
theorem txt_at (l : List Bool) (i : Nat) : (txt l).cps[i]? = (l[i]?).map code := by
  show ((l.map code).toArray)[i]? = _
  rw [List.getElem?_toArray, List.getElem?_map]
theorem code_inj {a b : Bool} (h : code a = code b) : a = b := by
  cases a <;> cases b <;> first | rfl | (exact absurd h (by decide))
theorem map_code_inj : ∀ {a b : List Bool}, a.map code = b.map code → a = b
  | [], [], _ => rfl
  | [], _ :: _, e => by cases e
  | _ :: _, [], e => by cases e
  | x :: a, y :: b, e => by
    rw [List.map_cons, List.map_cons] at e
    injection e with e1 e2
    rw [code_inj e1, map_code_inj e2]
theorem txt_inj {a b : List Bool} (h : txt a = txt b) : a = b := by
  have := congrArg (fun z : Str => z.cps.toList) h
  exact map_code_inj (by simpa [txt] using this)
theorem txt_append (a b : List Bool) : txt a ++ txt b = txt (a ++ b) := by
  have := SX.S_cat (a.map code) (b.map code)
  rw [← List.map_append] at this
  exact this
theorem eU : ("u" : Str) = ⟨#[117]⟩ := by decide +kernel
theorem eD : ("d" : Str) = ⟨#[100]⟩ := by decide +kernel
theorem eE : ("" : Str) = ⟨#[]⟩ := by decide +kernel
theorem sgn_u : sgn true = ("u" : Str) := eU.symm
theorem sgn_d : sgn false = ("d" : Str) := eD.symm
theorem one_inj {a b : Nat} : ((⟨#[a]⟩ : Str) = ⟨#[b]⟩) ↔ a = b := by
  constructor
  · intro h
    have := congrArg (fun z : Str => z.cps.toList) h
    simpa using this
  · intro h
    rw [h]
theorem is_u (c : Nat) : decide (V.str ⟨#[c]⟩ = V.str ("u" : Str)) = decide (c = 117) := by
  refine decide_eq_decide.mpr ?_
  rw [eU]
  exact ⟨fun z => one_inj.mp (V.str.inj z), fun z => by rw [z]⟩
theorem code_u (b : Bool) : decide (code b = 117) = b := by cases b <;> rfl
/-- a text of ups and downs alone -/
def isS (c : Nat) : Bool := decide (c = 117) || decide (c = 100)
def isRowB (z : Str) : Bool := z.cps.toList.all isS
theorem isRowB_txt (l : List Bool) : isRowB (txt l) = true := by
  show (l.map code).toArray.toList.all isS = true
  rw [List.all_eq_true]
  intro c hc
  have hc : c ∈ l.map code := hc
  obtain ⟨b, _, rfl⟩ := List.mem_map.mp hc
  cases b <;> rfl
/-- the signs of a text -/
def signs (z : Str) : List Bool := z.cps.toList.map fun c => decide (c = 117)
theorem signs_txt (l : List Bool) : signs (txt l) = l := by
  show (l.map code).map _ = l
  rw [List.map_map]
  refine (List.map_congr_left fun b _ => ?_).trans (List.map_id l)
  exact code_u b
theorem txt_signs {z : Str} (h : isRowB z = true) : txt (signs z) = z := by
  obtain ⟨⟨l⟩⟩ := z
  have h : l.all isS = true := h
  show (⟨((l.map fun c => decide (c = 117)).map code).toArray⟩ : Str) = ⟨l.toArray⟩
  congr 2
  rw [List.map_map]
  refine (List.map_congr_left fun c hc => ?_).trans (List.map_id l)
  have := List.all_eq_true.mp h c hc
  unfold isS at this
  show code (decide (c = 117)) = c
  by_cases e : c = 117
  · rw [e]
    rfl
  · have e2 : c = 100 := by simpa [e] using this
    rw [e2]
    rfl
theorem signs_len (z : Str) : (signs z).length = z.length := by
  unfold signs
  rw [List.length_map, Array.length_toList]
  rfl
/-- whether a text is a hill row under a ceiling -/
def hillB (c : Option Nat) (z : Str) : Bool := isRowB z && okb c 0 (signs z)
theorem hillB_txt (c : Option Nat) (l : List Bool) : hillB c (txt l) = okb c 0 l := by
  unfold hillB
  rw [isRowB_txt, signs_txt, Bool.true_and]
theorem in_signs (c : Nat) : inV (.str ⟨#[c]⟩) [.str "u", .str "d"] = isS c := by
  have e : ∀ (k : Nat), ((⟨#[k]⟩ : Str) == ⟨#[c]⟩) = decide (c = k) := fun k => by
    by_cases h : c = k
    · rw [h]
      simp
    · rw [decide_eq_false h]
      refine beq_eq_false_iff_ne.mpr fun z => h (one_inj.mp z).symm
  show (("u" : Str) == ⟨#[c]⟩ || (("d" : Str) == ⟨#[c]⟩ || false)) = _
  rw [eU, eD, e, e, Bool.or_false]
  rfl
theorem take_snoc {α : Type} {l : List α} {i : Nat} {x : α} (h : l[i]? = some x) : l.take (i + 1) = l.take i ++ [x] := by
  rw [List.take_add_one, h]
  rfl
theorem scIsRow : FnScope ["text", "sign"] ["text"] (defScope sIsRow) := ⟨rfl, rfl, rfl, by decide +kernel, rfl, by decide +kernel, by decide +kernel⟩
theorem scHeights : FnScope ["row", "height", "found", "sign"] ["row"] (defScope sHeights) := ⟨rfl, rfl, rfl, by decide +kernel, rfl, by decide +kernel, by decide +kernel⟩
theorem scIsHill : FnScope ["row", "ceiling", "found"] ["row", "ceiling"] (defScope sIsHill) := ⟨rfl, rfl, rfl, by decide +kernel, rfl, by decide +kernel, by decide +kernel⟩
section
variable {P : Program} {w : World} {K : PySem.W.Frag} {mg : Str → Option Value} {base : Heap}
def spIsRow : Sp := fun vs H Q _ => ∃ (z : Str), vs = [.str z] ∧ z.length ≤ 1000 ∧ ∀ H', Same H H' → Q (.bl (isRowB z)) H'
theorem cal_isRow (D : Def K mg "is_row" sIsRow ["text"]) (misi : mg "isinstance" = none) (mstr : mg "str" = none) (mall : mg "all" = none) {t1 t2 : Tok} (gU : mg "UP" = some (.str "u" t1)) (gD : mg "DOWN" = some (.str "d" t2)) : Cal K mg CX0 P w base 1 "is_row" [] spIsRow := by
  refine D.cal scIsRow (fun vs H Q E h => ?_) (fun f cdv A outer s H vs Q E hr h => ?_)
  · obtain ⟨z, rfl, _⟩ := h
    rfl
  · obtain ⟨z, rfl, hz, q⟩ := h
    refine ⟨_, pss_one (ps_ret (pe_and (pe_callB call_isi (by rfl) misi (by decide +kernel) (pa_cons (pv 0) (pa_cons (pe_bltn (v := .ty "str") (u := .type "str") (by rfl) mstr (by decide +kernel) rfl) pa_nil)))
      (pe_one (pe_callB (cr_all rfl) (by rfl) mall (by decide +kernel) (pa_cons (pe_lc (own := [("sign", 1)]) (g := gName 1) (tt := tYes) rfl scIsRow.nd (pi_str (pv 0))
        (blkOk_by (N := ["text", "sign"]) (sc := defScope sIsRow) (by decide +kernel)) (fun _ _ _ _ _ => pg_name (i := 1) scIsRow.nd rfl (Or.inl rfl)) (fun _ _ _ _ _ => pts_nil)
        (fun _ _ _ _ _ => pe_cmpR (r := rIn K false) op_in_seq (pv 1) (pe_tup (pa_cons (pe_glob (v := .str "u") (by rfl) gU ⟨_, rfl⟩) (pa_cons (pe_glob (v := .str "d") (by rfl) gD ⟨_, rfl⟩) pa_nil))) (by rfl))) pa_nil))))), ?_⟩
    refine ⟨.str z, rfl, .str z, .ty "str", _, _, true, rfl, .ty "str", .base (.str z), kit_ty (by decide +kernel), true, rfl, iteT ?_⟩
    refine ⟨.str z, rfl, z, rfl, fun D nD => ?_⟩
    refine lc_it walk_str (fun i H' => Same H H' ∧ H' D = some (.lst (((z.cps.toList.take i).map isS).map V.bl))) ⟨same_upd nD, upd_same⟩ (fun _ _ _ _ => trivial) ?_ ?_
    · rintro i x H1 H2 hi ⟨sm, eD⟩ ⟨rfl, c, hc, rfl⟩
      have hc' : z.cps.toList[i]? = some c := by rw [Array.getElem?_toList]; exact hc
      refine ⟨rfl, ?_⟩
      unfold tYes
      refine iteT ?_
      refine ⟨_, rfl, sz (show 2 ≤ 1000000 by decide), fun t nt => ?_⟩
      have nDt : D ≠ t := ne_of_none eD nt
      refine ⟨t, _, rfl, .inr (.inl (.inl upd_same)), rfl, rfl, _, by rw [upd_ne nDt]; exact eD, szl ?_, same_updN (sm.trans (same_upd nt)) nD, ?_⟩
      · rw [List.length_map, List.length_map, List.length_take]
        have : z.cps.toList.length = z.length := rfl
        omega
      · rw [upd_same, take_snoc hc', List.map_append, List.map_append]
        show some (HO.lst (_ ++ [V.bl (inV (.str ⟨#[c]⟩) [.str "u", .str "d"])])) = _
        rw [in_signs]
        rfl
    · rintro H1 ⟨sm, eD⟩
      refine ⟨D, _, rfl, .inl (.inl eD), ?_⟩
      have e : (((z.cps.toList.take z.cps.size).map isS).all id) = isRowB z := by
        rw [List.take_of_length_le (by rw [Array.length_toList]; exact Nat.le_refl _), List.all_map]
        rfl
      rw [e]
      exact q H1 sm
end
end Hr
namespace Hr
open PySem PySem.Spec PyProof.Rows L2
section
variable {P : Program} {w : World} {K : PySem.W.Frag} {mg : Str → Option Value} {base : Heap}
def spHeightsX (CN : Addr) : Sp := fun vs H Q E => ∃ (z : Str), vs = [.str z] ∧ z.length ≤ 1000 ∧ (isRowB z = true → ∀ H' p, Same H H' → H p = none → H' p = some (.lst ((hts 0 (signs z)).map V.int)) → Q (.ref p) H') ∧ (isRowB z = false → ∀ H', Same H H' → E (.ref CN) none H')
theorem cal_heightsX {CN : Addr} (er : Err K mg "NoRow" CN) (D : Def K mg "heights" sHeights ["row"]) (C : Cal K mg CX0 P w base 1 "is_row" [] spIsRow) {t1 : Tok} (gU : mg "UP" = some (.str "u" t1)) : Cal K mg (L2.CX P w) P w base 2 "heights" [] (spHeightsX CN) := by
  refine D.calX scHeights (fun vs H Q E h => ?_) (fun f cdv A outer s H vs Q E hr h => ?_)
  · obtain ⟨z, rfl, _⟩ := h
    rfl
  · obtain ⟨z, rfl, hz, q, qe⟩ := h
    have nd := scHeights.nd
    refine ⟨_, pss_cons (ps_if (pt_not (pt_val (pe_c C hr (pa_cons (pv 0) pa_nil)))) (pss_one (ps_raise rfl (takes_of rfl rfl rfl rfl) (pmk_own PySem.F.excBase_ValueError er.x er.g er.k (raises_own er.b er.t) rfl))) pss_nil)
      (pss_cons (ps_set (i := 1) nd rfl (.inl rfl) pe_int)
      (pss_cons (ps_set (i := 2) nd rfl (.inl rfl) (pe_lst (pa_cons (pv 1) pa_nil)))
      (pss_cons (ps_for PassesOwn.leaving rfl (pi_str (pv 0)) (pg_name (i := 3) nd rfl (.inl rfl))
        (pss_cons (ps_aug (i := 1) nd rfl (.inl rfl) (pe_ifExp (pt_cmpR op_eq (pv 3) (pe_glob (v := .str "u") (by rfl) gU ⟨_, rfl⟩) (nomark _)) pe_int (pe_un un_neg pe_int)) ip_add)
        (pss_one (ps_expr (pe_bm PySem.F.plainAttrs_list PySem.F.slot_list_append PySem.F.type_list_append mt_append (pv 2) (pa_cons (pv 1) pa_nil))))))
      (pss_one (ps_ret (pv 2)))))), ?_⟩
    refine ⟨.str z, rfl, z, rfl, hz, fun H1 s1 => ⟨isRowB z, rfl, ?_⟩⟩
    by_cases hrow : isRowB z = true
    rotate_left
    · have hrow : isRowB z = false := by simpa using hrow
      rw [hrow]
      refine iteT ?_
      exact qe hrow H1 s1
    rw [hrow]
    refine iteF ?_
    obtain ⟨l, rfl⟩ : ∃ l, z = txt l := ⟨signs z, (txt_signs hrow).symm⟩
    rw [txt_len] at hz
    have hl := hz
    have q := q hrow
    rw [signs_txt] at q
    refine ⟨.int 0, rfl, sz (show 1 ≤ 1000000 by decide), fun o no => ?_⟩
    have n0 : H o = none := s1.free no
    refine ⟨.str (txt l), rfl, txt l, rfl, ?_⟩
    refine for_it walk_str (fun i σ H' => ∃ y, σ = [some (.str (txt l)), some (.int ((l.take i).map sg).sum), some (.ref o), y] ∧ Same H H' ∧ H' o = some (.lst ((hts 0 (l.take i)).map V.int))) ?_ (fun _ _ _ _ _ => trivial) ?_ ?_
    · exact ⟨none, rfl, same_updN s1 n0, upd_same⟩
    · rintro i x σ H2 H3 hi ⟨y, rfl, sm, eo⟩ ⟨rfl, c, hc, rfl⟩
      rw [txt_at] at hc
      obtain ⟨b, hb, rfl⟩ := Option.map_eq_some_iff.mp hc
      have e1 : ((l.take (i + 1)).map sg).sum = ((l.take i).map sg).sum + sg b := by
        rw [take_snoc hb, List.map_append, List.sum_append]
        show _ + (sg b + 0) = _
        omega
      have e2 : hts 0 (l.take (i + 1)) = hts 0 (l.take i) ++ [((l.take (i + 1)).map sg).sum] := by
        rw [e1, take_snoc hb, hts_snoc, Int.zero_add]
      have hlen : ((hts 0 (l.take i)).map V.int).length < sizeLine := szl (by rw [List.length_map, hts_len, List.length_take]; omega)
      refine ⟨_, rfl, .str ⟨#[code b]⟩, rfl, rfl, decide (code b = 117), congrArg V.bl (is_u _), ?_⟩
      rw [code_u]
      cases b with
      | true =>
        refine iteT ?_
        refine ⟨_, 1, rfl, rfl, .ref o, rfl, .inl ⟨rfl, _, .inl (.inl eo)⟩, _, rfl, o, _, _, rfl, rfl, eo, hlen, some (.str ⟨#[code true]⟩), ?_, same_updN sm n0, ?_⟩
        · rw [e1]
          rfl
        · rw [upd_same, e2, e1, List.map_append]
          rfl
      | false =>
        refine iteF ?_
        refine ⟨1, rfl, _, -1, rfl, rfl, .ref o, rfl, .inl ⟨rfl, _, .inl (.inl eo)⟩, _, rfl, o, _, _, rfl, rfl, eo, hlen, some (.str ⟨#[code false]⟩), ?_, same_updN sm n0, ?_⟩
        · rw [e1]
          rfl
        · rw [upd_same, e2, e1, List.map_append]
          rfl
    · rintro σ H2 ⟨y, rfl, sm, eo⟩
      rw [txt_size, List.take_length] at eo
      exact ⟨.ref o, rfl, q H2 o sm n0 eo⟩
def spIsHill : Sp := fun vs H Q _ => ∃ (z : Str) (c : Option Nat), vs = [.str z, cV c] ∧ z.length ≤ 1000 ∧ ∀ H', Same H H' → Q (.bl (hillB c z)) H'
theorem cal_isHill {CN : Addr} (D : DefD K mg "is_hill" sIsHill ["row", "ceiling"]) (C : Cal K mg CX0 P w base 1 "is_row" [] spIsRow) (C2 : Cal K mg (L2.CX P w) P w base 2 "heights" [] (spHeightsX CN)) (mmin : mg "min" = none) (mmax : mg "max" = none) :
    Cal K mg CX0 P w base 3 "is_hill" [] spIsHill ∧ Cal K mg CX0 P w base 3 "is_hill" [.non] spIsHill := by
  refine D.ok scIsHill (fun vs H Q E h => ?_) (fun f cdv A outer s H vs Q E hr h => ?_)
  · obtain ⟨z, c, rfl, _⟩ := h
    rfl
  · obtain ⟨z, c, rfl, hz, q⟩ := h
    have nd := scIsHill.nd
    refine ⟨_, pss_cons (ps_if (pt_not (pt_val (pe_c C hr (pa_cons (pv 0) pa_nil)))) (pss_one (ps_ret pe_bl)) pss_nil)
      (pss_cons (ps_set (i := 2) nd rfl (.inl rfl) (pe_cL C2 hr (pa_cons (pv 0) pa_nil)))
      (pss_cons (ps_if (PW.pt (pw_or (pt_cmpR op_ne (pe_ix ix_list (pv 2) (pe_un un_neg pe_int) (fun _ _ => rfl)) pe_int (nomark _)) (pw_or1 (pt_cmpR op_lt (pe_callB (cr_min rfl) (by rfl) mmin boot_min (pa_cons (pv 2) pa_nil)) pe_int (nomark _))))) (pss_one (ps_ret pe_bl)) pss_nil)
      (pss_one (ps_ret (pe_or (pe_cmp (pc_isN (pv 1))) (pe_one (pe_cmpR op_le (pe_callB (cr_max rfl) (by rfl) mmax boot_max (pa_cons (pv 2) pa_nil)) (pv 1) (nomark _)))))))), ?_⟩
    refine ⟨.str z, rfl, z, rfl, hz, fun H1 s1 => ⟨isRowB z, rfl, ?_⟩⟩
    by_cases hrow : isRowB z = true
    · rw [hrow]
      refine iteF ?_
      obtain ⟨l, rfl⟩ : ∃ l, z = txt l := ⟨signs z, (txt_signs hrow).symm⟩
      rw [txt_len] at hz
      refine ⟨.str (txt l), rfl, txt l, rfl, by rw [txt_len]; exact hz, fun _ H2 p s2 np ep => ?_, fun z => absurd (z.symm.trans (isRowB_txt l)) (by decide)⟩
      rw [signs_txt] at ep
      have hS : SqL K H2 p ((hts 0 l).map V.int) := .inl (.inl ep)
      have hne : 0 < (hts 0 l).length := by rw [hts_len]; omega
      have hlast : (hts 0 l).map V.int = ((hts 0 l).dropLast).map V.int ++ [.int (l.map sg).sum] := by
        conv => lhs; rw [hts_last l 0]
        rw [List.map_append, Int.zero_add]
        rfl
      have iff := okb_iff c l 0 (fun k _ => Nat.zero_le _)
      have qq : ∀ b : Bool, (b = true ↔ okb c 0 l = true) → ∀ H', Same H H' → Q (.bl b) H' := fun b hb H' sm => by
        have := q H' sm
        rw [hillB_txt] at this
        have e : b = okb c 0 l := Bool.eq_iff_iff.mpr hb
        rw [e]
        exact this
      have sm := s1.trans s2
      refine ⟨.ref p, rfl, 1, rfl, p, _, -1, .int (l.map sg).sum, rfl, rfl, hS, by rw [hlast]; exact atI_last _ _, rfl, _, rfl, ite2 (fun e => ?_) (fun e => ?_)⟩
      · refine iteT ?_
        refine qq false ⟨fun z => (nomatch z), fun z => ?_⟩ H2 sm
        have := (iff.mp z).1
        have e' : ¬ (V.int (l.map sg).sum = V.int 0) := by simpa using e
        exact absurd (congrArg V.int (by have : ((0 : Nat) : Int) + (l.map sg).sum = 0 := this; omega)) e'
      · have e0 : (l.map sg).sum = 0 := by
          have : V.int (l.map sg).sum = V.int 0 := by simpa using e
          exact V.int.inj this
        refine ⟨.ref p, rfl, p, hts 0 l, rfl, hS, hne, fun m hm hmin => ⟨_, _, rfl, rfl, _, rfl, ite2 (fun g => ?_) (fun g => ?_)⟩⟩
        · have g0 : m < 0 := of_decide_eq_true g
          refine qq false ⟨fun z => (nomatch z), fun z => ?_⟩ H2 sm
          have := (iff.mp z).2.1 m hm
          omega
        · have g0 : ¬ m < 0 := fun z => g (decide_eq_true z)
          have hpos : ∀ x ∈ hts 0 l, 0 ≤ x := fun x hx => by
            have := hmin x hx
            omega
          cases c with
          | none =>
            refine ⟨.non, rfl, true, rfl, iteT ?_⟩
            refine qq true ⟨fun _ => iff.mpr ⟨by show ((0 : Nat) : Int) + _ = 0; omega, hpos, fun k z => by cases z⟩, fun _ => rfl⟩ H2 sm
          | some k =>
            refine ⟨.int (k : Int), rfl, false, rfl, iteF ?_⟩
            refine ⟨.ref p, rfl, p, hts 0 l, rfl, hS, hne, fun M hM hmax => ⟨.int (k : Int), rfl, M, (k : Int), rfl, rfl, ?_⟩⟩
            refine qq (decide (M ≤ (k : Int))) ⟨fun z => ?_, fun z => ?_⟩ H2 sm
            · have hk := of_decide_eq_true z
              refine iff.mpr ⟨by show ((0 : Nat) : Int) + _ = 0; omega, hpos, fun k' z' x hx => ?_⟩
              cases z'
              have := hmax x hx
              omega
            · exact decide_eq_true ((iff.mp z).2.2 k rfl M hM)
    · have hrow' : isRowB z = false := by simpa using hrow
      rw [hrow']
      refine iteT ?_
      have e : hillB c z = false := by
        unfold hillB
        rw [hrow', Bool.false_and]
      have := q H1 s1
      rw [e] at this
      exact this
end
end Hr
namespace Hr
open PySem PySem.Spec PyProof.Rows L2
theorem scChHill : FnScope ["row", "ceiling"] ["row", "ceiling"] (defScope sChHill) := ⟨rfl, rfl, rfl, by decide +kernel, rfl, by decide +kernel, by decide +kernel⟩
section
variable {P : Program} {w : World} {K : PySem.W.Frag} {mg : Str → Option Value} {base : Heap} {CC CN CR CP : Addr}
def spChHillX (CN : Addr) : Sp := fun vs H Q E => ∃ (z : Str) (c : Option Nat), vs = [.str z, cV c] ∧ z.length ≤ 1000 ∧ (hillB c z = true → ∀ H', Same H H' → Q .non H') ∧ (hillB c z = false → ∀ H', Same H H' → E (.ref CN) none H')
theorem cal_chHillX (er : Err K mg "NoRow" CN) (D : DefD K mg "check_hill" sChHill ["row", "ceiling"]) (C : Cal K mg CX0 P w base 3 "is_hill" [] spIsHill) : Cal K mg (L2.CX P w) P w base 4 "check_hill" [] (spChHillX CN) ∧ Cal K mg (L2.CX P w) P w base 4 "check_hill" [.non] (spChHillX CN) := by
  refine D.okX scChHill (fun vs H Q E h => ?_) (fun f cdv A outer s H vs Q E hr h => ?_)
  · obtain ⟨l, c, rfl, _⟩ := h
    rfl
  · obtain ⟨z, c, rfl, hz, q, qe⟩ := h
    refine ⟨_, pss_one (ps_if (pt_not (pt_val (pe_c C hr (pa_cons (pv 0) (pa_cons (pv 1) pa_nil))))) (pss_one (ps_raise rfl (takes_of rfl rfl rfl rfl) (pmk_own PySem.F.excBase_ValueError er.x er.g er.k (raises_own er.b er.t) rfl))) pss_nil), ?_⟩
    refine ⟨.str z, rfl, cV c, rfl, z, c, rfl, hz, fun H' sm => ⟨hillB c z, rfl, ?_⟩⟩
    cases hh : hillB c z with
    | true =>
      refine iteF ?_
      exact q hh H' sm
    | false =>
      refine iteT ?_
      exact qe hh H' sm
end
end Hr
/-! ### cut texts -/
namespace Hr
open PySem PySem.Spec PyProof.Rows L2
theorem cutS_from {l : List Bool} {k : Nat} (h : k ≤ l.length) : cutS (txt l) (some (k : Int)) none = txt (l.drop k) := by
  unfold cutS
  rw [txt_len, HT.sIx_nat, Nat.min_eq_left h]
  show (⟨(((l.map code).drop k).take (l.length - k)).toArray⟩ : Str) = _
  rw [List.take_of_length_le (by rw [List.length_drop, List.length_map]; exact Nat.le_refl _), ← List.map_drop]
  rfl
theorem cutS_to {l : List Bool} {k : Nat} (h : k ≤ l.length) : cutS (txt l) none (some (k : Int)) = txt (l.take k) := by
  unfold cutS
  rw [txt_len, HT.sIx_nat, Nat.min_eq_left h]
  show (⟨(((l.map code).drop 0).take (k - 0)).toArray⟩ : Str) = _
  rw [List.drop_zero, Nat.sub_zero, ← List.map_take]
  rfl
theorem is_d (b : Bool) : decide (V.str ⟨#[code b]⟩ = V.str ("d" : Str)) = !b := by
  cases b
  · exact decide_eq_true (by rw [eD]; rfl)
  · refine decide_eq_false fun z => ?_
    rw [eD] at z
    exact absurd (one_inj.mp (V.str.inj z)) (by decide)
theorem cutS_mid {l : List Bool} {a b : Nat} (ha : a ≤ b) (hb : b ≤ l.length) : cutS (txt l) (some (a : Int)) (some (b : Int)) = txt ((l.drop a).take (b - a)) := by
  unfold cutS
  rw [txt_len, HT.sIx_nat, HT.sIx_nat, Nat.min_eq_left hb, Nat.min_eq_left (Nat.le_trans ha hb)]
  show (⟨(((l.map code).drop a).take (b - a)).toArray⟩ : Str) = _
  rw [← List.map_drop, ← List.map_take]
  rfl
/-- text[1:-1] -/
theorem cutS_in (x y : Bool) (l : List Bool) : cutS (txt (x :: (l ++ [y]))) (some 1) (some (-1)) = txt l := by
  unfold cutS
  have e1 : (txt (x :: (l ++ [y]))).length = l.length + 2 := by
    rw [txt_len, List.length_cons, List.length_append]
    rfl
  have e2 : HT.sIx (l.length + 2) 0 (some 1) = 1 := by
    rw [show (1 : Int) = ((1 : Nat) : Int) from rfl, HT.sIx_nat]
    omega
  have e3 : HT.sIx (l.length + 2) (l.length + 2) (some (-1)) = l.length + 1 := by
    show (if (-1 : Int) < 0 then ((-1 : Int) + ((l.length + 2 : Nat) : Int)).toNat else min (-1 : Int).toNat (l.length + 2)) = _
    rw [if_pos (by decide)]
    omega
  rw [e1, e2, e3]
  show (⟨((((x :: (l ++ [y])).map code).drop 1).take (l.length + 1 - 1)).toArray⟩ : Str) = _
  rw [← List.map_drop, ← List.map_take, List.drop_succ_cons, List.drop_zero, Nat.add_sub_cancel, List.take_left']
  · rfl
  · rfl
end Hr
/-! ### which error it is -/
namespace Hr
open PySem PySem.Spec PyProof.Rows L2
section
variable {X : Cx}
/-- a call in a try's body -/
theorem pe_cT {k j : Nat} {x : Str} {sp : Sp} {W : WX} {e : Expr} {es : List Expr} {t : TA} {p pos : Pos} (c : Cal X.K X.mg (L2.CX X.prog X.w) X.prog X.w X.base k x [] sp) (hr : Room j X.A) (tk : Takes X W) (ha : PA X (e :: es) t) (hk : k ≤ j := by decide) (hg : Gl X x := by rfl)
    (hdb : (x == ("__debug__" : Str)) = false := by decide) (he : starEach (e :: es) X.env = (false, eval e X.env) :: starEach es X.env := by rfl) (hpl : (backTo pos (starEach es X.env)).any (·.1) = false := by rfl) :
    PE X (.Call (.Name x p) (e :: es) [] pos) (tCallS sp (WE W) t) := by
  obtain ⟨f, fd, ps, ds, F, hm, kp, b, d⟩ := c.ex
  cases d
  exact pe_callS F (hr.mono hk) hg hm kp b (fun σ => passAt tk σ) ha hdb he hpl
end
def errWords : List Str := ["row", "count", "rank", "place", "tree", "pairs", "turn", "text"]
def wordAt (k : Nat) : Str := errWords.getD k ""
theorem errWords_at {i : Nat} (h : i < 8) : (errWords.map V.str)[i]? = some (.str (wordAt i)) := by
  have h' : i < errWords.length := h
  unfold wordAt
  rw [List.getElem?_map, List.getElem?_eq_getElem h', List.getD_eq_getElem?_getD, List.getElem?_eq_getElem h']
  rfl
def flagsOf (k : Nat) : List V := (List.range 8).map fun j => V.bl (decide (j = k))
theorem flags_at {i k : Nat} (h : i < 8) : (flagsOf k)[i]? = some (.bl (decide (i = k))) := by
  unfold flagsOf
  rw [List.getElem?_map, List.getElem?_range h]
  rfl
theorem join_one (y w : Str) : Txt.join y [w] = w := by
  rw [TL.join_eq]
  rfl
/-- an error of the k-th class among the eight at cs -/
structure IsErr (K : PySem.W.Frag) (cs : Nat → Addr) (k : Nat) : Prop where
  lt : k < 8
  c : ExcC K (cs k)
  kit : ∀ j, j < 8 → PySem.W.kitOne K (.ref (cs k)) (.ref (cs j)) = some (decide (j = k))
  ve : PySem.W.kitOne K (.ref (cs k)) (.type "ValueError") = some true
theorem ref_only {C : Addr} : ∀ u, RelV (.ref C) u → u = Value.ref C := fun _ h => h
theorem scWord : FnScope ["_law_error", "_law_words", "_law_one", "_law_other", "_law_flags", "_law_word_here", "_law_flag"] ["_law_error"] (defScope sWord) := ⟨rfl, rfl, rfl, by decide +kernel, rfl, by decide +kernel, by decide +kernel⟩
section
variable {P : Program} {w : World} {K : PySem.W.Frag} {mg : Str → Option Value} {base : Heap} {cs : Nat → Addr}
def spWord (K : PySem.W.Frag) (cs : Nat → Addr) : Sp := fun vs H Q _ => ∃ (a : Addr) (k : Nat), vs = [.ref a] ∧ H a = some (ExT (.ref (cs k)) none a) ∧ IsErr K cs k ∧ ∀ H', Same H H' → Q (.str (wordAt k)) H'
theorem cal_word (D : Def K mg "_law_word" sWord ["_law_error"]) (g0 : mg "NoRow" = some (.ref (cs 0))) (g1 : mg "NoCount" = some (.ref (cs 1))) (g2 : mg "NoRank" = some (.ref (cs 2))) (g3 : mg "NoPlace" = some (.ref (cs 3)))
    (g4 : mg "NoTree" = some (.ref (cs 4))) (g5 : mg "NoPairs" = some (.ref (cs 5))) (g6 : mg "NoTurn" = some (.ref (cs 6))) (g7 : mg "NoText" = some (.ref (cs 7))) (misi : mg "isinstance" = none) (mzip : mg "zip" = none) : Cal K mg CX0 P w base 1 "_law_word" [] (spWord K cs) := by
  refine D.cal scWord (fun vs H Q E h => ?_) (fun f cdv A outer s H vs Q E hr h => ?_)
  · obtain ⟨a, k, rfl, _⟩ := h
    rfl
  · obtain ⟨a, k, rfl, ea, er, q⟩ := h
    have nd := scWord.nd
    refine ⟨_, (pss_cons (ps_set (i := 1) nd rfl (.inl rfl) (pe_lst (pa_cons pe_str (pa_cons pe_str (pa_cons pe_str (pa_cons pe_str (pa_cons pe_str (pa_cons pe_str (pa_cons pe_str (pa_cons pe_str pa_nil))))))))))
    (pss_cons (ps_set (i := 2) nd rfl (.inl rfl) (pe_lst (pa_cons (pe_callB call_isT (by rfl) misi (by decide +kernel) (pa_cons (pv 0) (pa_cons (pe_glob (v := .ref (cs 0)) (by rfl) g0 rfl) pa_nil)))
      (pa_cons (pe_callB call_isT (by rfl) misi (by decide +kernel) (pa_cons (pv 0) (pa_cons (pe_glob (v := .ref (cs 1)) (by rfl) g1 rfl) pa_nil)))
      (pa_cons (pe_callB call_isT (by rfl) misi (by decide +kernel) (pa_cons (pv 0) (pa_cons (pe_glob (v := .ref (cs 2)) (by rfl) g2 rfl) pa_nil)))
      (pa_cons (pe_callB call_isT (by rfl) misi (by decide +kernel) (pa_cons (pv 0) (pa_cons (pe_glob (v := .ref (cs 3)) (by rfl) g3 rfl) pa_nil))) pa_nil))))))
    (pss_cons (ps_set (i := 3) nd rfl (.inl rfl) (pe_lst (pa_cons (pe_callB call_isT (by rfl) misi (by decide +kernel) (pa_cons (pv 0) (pa_cons (pe_glob (v := .ref (cs 4)) (by rfl) g4 rfl) pa_nil)))
      (pa_cons (pe_callB call_isT (by rfl) misi (by decide +kernel) (pa_cons (pv 0) (pa_cons (pe_glob (v := .ref (cs 5)) (by rfl) g5 rfl) pa_nil)))
      (pa_cons (pe_callB call_isT (by rfl) misi (by decide +kernel) (pa_cons (pv 0) (pa_cons (pe_glob (v := .ref (cs 6)) (by rfl) g6 rfl) pa_nil))) pa_nil)))))
    (pss_cons (ps_set (i := 4) nd rfl (.inl rfl) (pe_op op_cat (pe_op op_cat (pv 2) (pv 3)) (pe_lst (pa_cons (pe_callB call_isT (by rfl) misi (by decide +kernel) (pa_cons (pv 0) (pa_cons (pe_glob (v := .ref (cs 7)) (by rfl) g7 rfl) pa_nil))) pa_nil))))
    (pss_one (ps_ret (pe_join pe_str (pe_lc (own := [("_law_word_here", 5), ("_law_flag", 6)]) (g := gTup K 2 (gCons (gName 5) (gCons (gName 6) gNil))) rfl nd (pi_zip (by rfl) mzip (pa_cons (pv 1) (pa_cons (pv 4) pa_nil)))
      (blkOk_by (N := ["_law_error", "_law_words", "_law_one", "_law_other", "_law_flags", "_law_word_here", "_law_flag"]) (sc := defScope sWord) (by decide +kernel))
      (fun _ _ _ _ _ => (pg_tup rfl (pgs_cons (pg_name (i := 5) nd rfl (Or.inl rfl) (Or.inr rfl)) (pgs_cons (pg_name (i := 6) nd rfl (Or.inl rfl) (Or.inr rfl)) pgs_nil)))) (fun _ _ _ _ _ => pts_one (pt_val (pv 6))) (fun _ _ _ _ _ => (pv 5)))))))))), ?_⟩
    have S8 : ∀ {n : Nat}, n ≤ 100 → n ≤ sizeLine := fun h => sz (by omega)
    refine ⟨S8 (show 8 ≤ 100 by decide), fun p1 n1 => ?_⟩
    have s1 := same_upd (o := .lst (errWords.map V.str)) n1
    refine ⟨.ref a, rfl, a, cs k, _, _, _, rfl, s1 _ _ ea, er.c, ref_only, er.kit 0 (by decide), .ref a, rfl, a, cs k, _, _, _, rfl, s1 _ _ ea, er.c, ref_only, er.kit 1 (by decide), .ref a, rfl, a, cs k, _, _, _, rfl, s1 _ _ ea, er.c, ref_only, er.kit 2 (by decide), .ref a, rfl, a, cs k, _, _, _, rfl, s1 _ _ ea, er.c, ref_only, er.kit 3 (by decide), S8 (show 4 ≤ 100 by decide), fun p2 n2 => ?_⟩
    have e12 : p1 ≠ p2 := ne_of_none upd_same n2
    have s2 := s1.trans (same_upd (o := .lst [.bl (decide (0 = k)), .bl (decide (1 = k)), .bl (decide (2 = k)), .bl (decide (3 = k))]) n2)
    refine ⟨.ref a, rfl, a, cs k, _, _, _, rfl, s2 _ _ ea, er.c, ref_only, er.kit 4 (by decide), .ref a, rfl, a, cs k, _, _, _, rfl, s2 _ _ ea, er.c, ref_only, er.kit 5 (by decide), .ref a, rfl, a, cs k, _, _, _, rfl, s2 _ _ ea, er.c, ref_only, er.kit 6 (by decide), S8 (show 3 ≤ 100 by decide), fun p3 n3 => ?_⟩
    have e23 : p2 ≠ p3 := ne_of_none upd_same n3
    have e13 : p1 ≠ p3 := ne_of_none (by rw [upd_ne e12]; exact upd_same) n3
    have s3 := s2.trans (same_upd (o := .lst [.bl (decide (4 = k)), .bl (decide (5 = k)), .bl (decide (6 = k))]) n3)
    refine ⟨.ref p2, rfl, .ref p3, rfl, p2, p3, _, _, rfl, rfl, (upd_ne e23).trans upd_same, upd_same, S8 (show 7 ≤ 100 by decide), fun p4 n4 => ?_⟩
    have e14 : p1 ≠ p4 := ne_of_none (by rw [upd_ne e13, upd_ne e12]; exact upd_same) n4
    have s4 := s3.trans (same_upd (o := .lst ([.bl (decide (0 = k)), .bl (decide (1 = k)), .bl (decide (2 = k)), .bl (decide (3 = k))] ++ [.bl (decide (4 = k)), .bl (decide (5 = k)), .bl (decide (6 = k))])) n4)
    refine ⟨.ref a, rfl, a, cs k, _, _, _, rfl, s4 _ _ ea, er.c, ref_only, er.kit 7 (by decide), S8 (show 1 ≤ 100 by decide), fun p5 n5 => ?_⟩
    have e15 : p1 ≠ p5 := ne_of_none (by rw [upd_ne e14, upd_ne e13, upd_ne e12]; exact upd_same) n5
    have e45 : p4 ≠ p5 := ne_of_none upd_same n5
    have s5 := s4.trans (same_upd (o := .lst [.bl (decide (7 = k))]) n5)
    refine ⟨p4, p5, _, _, rfl, rfl, (upd_ne e45).trans upd_same, upd_same, S8 (show 8 ≤ 100 by decide), fun p6 n6 => ?_⟩
    have s6 := s5.trans (same_upd (o := .lst (flagsOf k)) n6)
    have e16 : p1 ≠ p6 := ne_of_none (by rw [upd_ne e15, upd_ne e14, upd_ne e13, upd_ne e12]; exact upd_same) n6
    have w6 : ∀ o, upd (upd (upd (upd (upd (upd H p1 (.lst (errWords.map V.str))) p2 (.lst [.bl (decide (0 = k)), .bl (decide (1 = k)), .bl (decide (2 = k)), .bl (decide (3 = k))])) p3 (.lst [.bl (decide (4 = k)), .bl (decide (5 = k)), .bl (decide (6 = k))]))
        p4 (.lst ([.bl (decide (0 = k)), .bl (decide (1 = k)), .bl (decide (2 = k)), .bl (decide (3 = k))] ++ [.bl (decide (4 = k)), .bl (decide (5 = k)), .bl (decide (6 = k))]))) p5 (.lst [.bl (decide (7 = k))])) p6 o p1 = some (.lst (errWords.map V.str)) := fun o => by
      rw [upd_ne e16, upd_ne e15, upd_ne e14, upd_ne e13, upd_ne e12]
      exact upd_same
    refine ⟨⟨_, rfl⟩, .ref p1, rfl, .ref p6, rfl, p1, p6, errWords.map V.str, flagsOf k, rfl, .inl (.inl (w6 _)), .inl (.inl upd_same), fun D nD => ?_⟩
    have w6 := w6 (.lst (flagsOf k))
    have s6 : Same H (upd (upd (upd (upd (upd (upd H p1 (.lst (errWords.map V.str))) p2 (.lst [.bl (decide (0 = k)), .bl (decide (1 = k)), .bl (decide (2 = k)), .bl (decide (3 = k))])) p3 (.lst [.bl (decide (4 = k)), .bl (decide (5 = k)), .bl (decide (6 = k))]))
        p4 (.lst ([.bl (decide (0 = k)), .bl (decide (1 = k)), .bl (decide (2 = k)), .bl (decide (3 = k))] ++ [.bl (decide (4 = k)), .bl (decide (5 = k)), .bl (decide (6 = k))]))) p5 (.lst [.bl (decide (7 = k))])) p6 (.lst (flagsOf k))) := s6
    have f6 : upd (upd (upd (upd (upd (upd H p1 (.lst (errWords.map V.str))) p2 (.lst [.bl (decide (0 = k)), .bl (decide (1 = k)), .bl (decide (2 = k)), .bl (decide (3 = k))])) p3 (.lst [.bl (decide (4 = k)), .bl (decide (5 = k)), .bl (decide (6 = k))]))
        p4 (.lst ([.bl (decide (0 = k)), .bl (decide (1 = k)), .bl (decide (2 = k)), .bl (decide (3 = k))] ++ [.bl (decide (4 = k)), .bl (decide (5 = k)), .bl (decide (6 = k))]))) p5 (.lst [.bl (decide (7 = k))])) p6 (.lst (flagsOf k)) p6 = some (.lst (flagsOf k)) := upd_same
    refine lc_it (walk_zip (K := K) (a := p1) (b := p6) (xs := errWords.map V.str) (ys := flagsOf k) (n := 8) rfl) (fun i H' => Same H H' ∧ H' p1 = some (.lst (errWords.map V.str)) ∧ H' p6 = some (.lst (flagsOf k)) ∧ H' D = some (.lst (if k < i then [V.str (wordAt k)] else []))) ?_ ?_ ?_ ?_
    · have nD' := nD
      refine ⟨same_updN s6 (s6.free nD), ?_, ?_, ?_⟩
      · rw [upd_ne (ne_of_none w6 nD)]
        exact w6
      · rw [upd_ne (ne_of_none f6 nD)]
        exact f6
      · rw [upd_same, if_neg (Nat.not_lt_zero _)]
    · rintro i H' _ ⟨_, h1, h2, _⟩
      exact ⟨.inl (.inl h1), .inl (.inl h2)⟩
    · rintro i x H1 H2 hi ⟨sm, h1, h2, hD⟩ ⟨T, u, v, rfl, nT, rfl, eu, ev⟩
      have eu : u = .str (wordAt i) := by
        have : (errWords.map V.str)[i]? = some u := eu
        rw [errWords_at hi] at this
        exact (Option.some.inj this).symm
      have ev : v = .bl (decide (i = k)) := by
        have : (flagsOf k)[i]? = some v := ev
        rw [flags_at hi] at this
        exact (Option.some.inj this).symm
      subst eu ev
      have st := same_upd (o := .tup [.str (wordAt i), .bl (decide (i = k))]) nT
      refine ⟨T, _, rfl, .inl (.inl upd_same), rfl, _, _, rfl, _, _, rfl, rfl, rfl, ?_⟩
      refine ⟨_, rfl, decide (i = k), rfl, ?_⟩
      have g1 := st _ _ h1
      have g2 := st _ _ h2
      have gD := st _ _ hD
      have sT := sm.trans st
      generalize upd H1 T (.tup [.str (wordAt i), .bl (decide (i = k))]) = H3 at g1 g2 gD sT ⊢
      have nD0 : H D = none := s6.free nD
      have d1 : p1 ≠ D := ne_of_none w6 nD
      have d6 : p6 ≠ D := ne_of_none f6 nD
      by_cases hk : i = k
      · rw [decide_eq_true hk]
        refine iteT ?_
        rw [if_neg (by omega)] at gD
        refine ⟨_, rfl, [], gD, szl (show 0 < 1000000 by decide), same_updN sT nD0, by rw [upd_ne d1]; exact g1, by rw [upd_ne d6]; exact g2, ?_⟩
        rw [upd_same, if_pos (by omega), hk]
        rfl
      · rw [decide_eq_false hk]
        refine iteF ?_
        refine ⟨sT, g1, g2, ?_⟩
        rw [gD]
        by_cases h : k < i
        · rw [if_pos h, if_pos (by omega)]
        · rw [if_neg h, if_neg (by omega)]
    · rintro H1 ⟨sm, h1, h2, hD⟩
      rw [if_pos er.lt] at hD
      refine ⟨_, D, [wordAt k], rfl, rfl, .inl (.inl (.inl hD)), ?_, ?_⟩
      · show ((wordAt k).length + 0) + 1 * _ ≤ 16777216
        have : (wordAt k).length ≤ 5 := by
          have hk := er.lt
          have : ∀ k, k < 8 → (wordAt k).length ≤ 5 := by decide +kernel
          exact this k hk
        have e1 : (" " : Str).length = 1 := by decide +kernel
        rw [e1]
        omega
      · rw [join_one]
        exact q H1 sm
end
end Hr
namespace Hr
open PySem PySem.Spec PyProof.Rows L2
theorem sgn_sum : ∀ l : List Bool, ((l.map sgn).map (·.length)).sum = l.length
  | [] => rfl
  | b :: r => by
    rw [List.map_cons, List.map_cons, List.sum_cons, sgn_sum r, List.length_cons]
    show 1 + _ = _
    omega
theorem join_signs (l : List Bool) : Txt.join ("" : Str) (l.map sgn) = txt l := by
  have h := SX.join_S [] (l.map fun b => [code b])
  have e1 : (l.map fun b => [code b]).map SX.S = l.map sgn := by
    rw [List.map_map]
    rfl
  rw [e1] at h
  have e2 : ∀ l : List Bool, TL.joinL [] (l.map fun b => [code b]) = l.map code := by
    intro l
    induction l with
    | nil => rfl
    | cons b l ih =>
      cases l with
      | nil => rfl
      | cons b2 l =>
        show [code b] ++ ([] ++ TL.joinL [] ((b2 :: l).map fun b => [code b])) = _
        rw [ih]
        rfl
  rw [e2] at h
  rw [eE]
  exact h
end Hr
/-! ### lists as data -/
namespace Hr
open PySem PySem.Spec PyProof.Rows L2
section
variable {K : PySem.W.Frag} {H : Hp}
theorem dp_ints : ∀ ns : List Int, DpAll K H (ns.map V.int) (ns.map PyData.int)
  | [] => .nil
  | n :: r => .cons (.int n) (dp_ints r)
theorem dp_strs : ∀ xs : List Str, DpAll K H (xs.map V.str) (xs.map PyData.str)
  | [] => .nil
  | x :: r => .cons (.str x) (dp_strs r)
end
theorem lay_ints : ∀ ns : List Int, PyData.canLayAll0 (ns.map PyData.int) = true
  | [] => rfl
  | n :: r => by
    show (true && PyData.canLayAll0 (r.map PyData.int)) = true
    rw [lay_ints r]
    rfl
theorem dep_ints : ∀ ns : List Int, PyData.depthAll (ns.map PyData.int) = 0
  | [] => rfl
  | n :: r => by
    show max 0 (PyData.depthAll (r.map PyData.int)) = 0
    rw [dep_ints r]
    rfl
theorem lay_txts : ∀ ls : List (List Bool), PyData.canLayAll0 ((ls.map txt).map PyData.str) = true
  | [] => rfl
  | l :: r => by
    show (PyData.strOk (txt l) && PyData.canLayAll0 ((r.map txt).map PyData.str)) = true
    rw [lay_txts r, Bool.and_true]
    show (l.map code).toArray.all (· < 0x110000) = true
    rw [List.all_toArray, List.all_eq_true]
    intro c hc
    obtain ⟨b, _, rfl⟩ := List.mem_map.mp hc
    cases b <;> rfl
theorem dep_strs : ∀ xs : List Str, PyData.depthAll (xs.map PyData.str) = 0
  | [] => rfl
  | n :: r => by
    show max 0 (PyData.depthAll (r.map PyData.str)) = 0
    rw [dep_strs r]
    rfl
theorem sh_ints (ns : List Int) : SeqAt.shaped (.list (ns.map PyData.int)) = true := by
  show (PyData.canLayAll0 (ns.map PyData.int) && decide (PyData.depthAll (ns.map PyData.int) + 1 ≤ 64)) = true
  rw [lay_ints, dep_ints]
  rfl
theorem sh_txts (ls : List (List Bool)) : SeqAt.shaped (.list ((ls.map txt).map PyData.str)) = true := by
  show (PyData.canLayAll0 ((ls.map txt).map PyData.str) && decide (PyData.depthAll ((ls.map txt).map PyData.str) + 1 ≤ 64)) = true
  rw [lay_txts, dep_strs]
  rfl
end Hr
namespace Hr
open PySem PySem.Spec PyProof.Rows L2
theorem scNumber : FnScope ["_law_script", "_law_k"] ["_law_script", "_law_k"] (defScope sNumber) := ⟨rfl, rfl, rfl, by decide +kernel, rfl, by decide +kernel, by decide +kernel⟩
section
variable {P : Program} {w : World} {K : PySem.W.Frag} {mg : Str → Option Value} {base : Heap}
def spNumber (K : PySem.W.Frag) : Sp := fun vs H Q _ => ∃ (a : Addr) (ns : List Int) (k : Nat), vs = [.ref a, .int (k : Int)] ∧ SqL K H a (ns.map V.int) ∧ Q (.int (mixed (ns.getD k 0) k)) H
theorem cal_number (D : Def K mg "_law_number" sNumber ["_law_script", "_law_k"]) (C : Cal K mg CX0 P w base 1 "_law_mixed" [] spMixed) (mlen : mg "len" = none) : Cal K mg CX0 P w base 2 "_law_number" [] (spNumber K) := by
  refine D.cal scNumber (fun vs H Q E h => ?_) (fun f cdv A outer s H vs Q E hr h => ?_)
  · obtain ⟨a, ns, k, rfl, _⟩ := h
    rfl
  · obtain ⟨a, ns, k, rfl, hS, q⟩ := h
    refine ⟨_, pss_one (ps_ret (pe_c C hr (pa_cons (pe_ifExp (pt_cmpR op_lt (pv 1) (pe_callB call_len_seq (by rfl) mlen PySem.boot_len (pa_cons (pv 0) pa_nil)) (nomark _)) (pe_ix ix_list (pv 0) (pv 1) (fun _ _ => rfl)) pe_int) (pa_cons (pv 1) pa_nil)))), ?_⟩
    refine ⟨.int (k : Int), rfl, .ref a, rfl, a, _, rfl, .inl hS, _, _, rfl, rfl, _, rfl, ite2 (fun e => ?_) (fun e => ?_)⟩
    · have hk : k < ns.length := by
        have := of_decide_eq_true e
        rw [List.length_map] at this
        omega
      refine ⟨.ref a, rfl, .int (k : Int), rfl, a, _, _, .int (ns.getD k 0), rfl, rfl, hS, atI_nat ?_, .int (k : Int), rfl, _, _, rfl, q⟩
      rw [List.getElem?_map, List.getElem?_eq_getElem hk, List.getD_eq_getElem?_getD, List.getElem?_eq_getElem hk]
      rfl
    · have hk : ns.length ≤ k := by
        have : ¬ (k : Int) < ((ns.map V.int).length : Int) := fun z => e (decide_eq_true z)
        rw [List.length_map] at this
        omega
      refine ⟨.int (k : Int), rfl, 0, (k : Int), rfl, ?_⟩
      rw [List.getD_eq_getElem?_getD, List.getElem?_eq_none hk] at q
      exact q
end
end Hr
/-! ### how often a sign stands in a text; a sign so many times -/
namespace Hr
open PySem PySem.Spec PyProof.Rows L2
open PySem.Builtin PySem.Builtin.Str in
theorem occ_run (x : Str) (c : Nat) : ∀ (m a : Nat) (acc : Array Nat) (free : Nat), a + m = x.length + 1 → free ≤ a → acc.size ≤ a →
    (forIn (List.range' a m) (acc, free) (StrLaws.occBody x ⟨#[c]⟩ x.length (x.length + 1))).run.fst.size = acc.size + ((x.cps.toList.drop a).filter fun k => k == c).length
  | 0, a, acc, free, e, _, _ => by
    have : x.cps.toList.drop a = [] := List.drop_eq_nil_of_le (by
      have : x.cps.toList.length = x.length := rfl
      omega)
    rw [this]
    rfl
  | m + 1, a, acc, free, e, hf, hs => by
    rw [List.range'_succ, List.forIn_cons]
    unfold StrLaws.occBody
    by_cases hc : x.cps.toList[a]? = some c
    · obtain ⟨h1, h2⟩ := (StrLaws.subAt_one x c a).mpr hc
      rw [if_pos ⟨⟨⟨(show acc.size < x.length + 1 by omega), hf⟩, h1⟩, h2⟩]
      have ih := occ_run x c m (a + 1) (acc.push a) (a + (⟨#[c]⟩ : Str).length) (by omega) (Nat.le_refl _) (by rw [Array.size_push]; omega)
      have hlt : a < x.cps.toList.length := (List.getElem?_eq_some_iff.mp hc).1
      rw [List.drop_eq_getElem_cons hlt, List.filter_cons_of_pos (by rw [(List.getElem?_eq_some_iff.mp hc).2]; simp), List.length_cons]
      rw [Array.size_push] at ih
      exact ih.trans (by omega)
    · rw [if_neg (fun z => hc ((StrLaws.subAt_one x c a).mp ⟨z.1.2, z.2⟩))]
      have ih := occ_run x c m (a + 1) acc free (by omega) (by omega) (by omega)
      have hd : ((x.cps.toList.drop a).filter fun k => k == c).length = ((x.cps.toList.drop (a + 1)).filter fun k => k == c).length := by
        by_cases hlt : a < x.cps.toList.length
        · rw [List.drop_eq_getElem_cons hlt, List.filter_cons_of_neg (by
            intro z
            have z : x.cps.toList[a] = c := by simpa using z
            exact hc (by rw [List.getElem?_eq_getElem hlt, z]))]
        · rw [List.drop_eq_nil_of_le (by omega), List.drop_eq_nil_of_le (by omega)]
      rw [hd]
      exact ih
theorem count_one (x : Str) (c : Nat) : Txt.count x ⟨#[c]⟩ = ((x.cps.toList.filter fun k => k == c).length : Nat) := by
  have h := occ_run x c (x.length + 1) 0 #[] 0 (by omega) (Nat.le_refl _) (Nat.le_refl _)
  show (((Builtin.Str.occurrences x ⟨#[c]⟩ 0 x.length (x.length + 1)).length : Nat) : Int) = _
  rw [StrLaws.occ_eq, Array.length_toList]
  rw [show x.length + 1 - 0 = x.length + 1 from rfl]
  have h2 : ((#[] : Array Nat).size + ((x.cps.toList.drop 0).filter fun k => k == c).length) = (x.cps.toList.filter fun k => k == c).length := by
    rw [List.drop_zero]
    exact Nat.zero_add _
  exact congrArg (fun n : Nat => (n : Int)) (h.trans h2)
theorem count_u (l : List Bool) : Txt.count (txt l) ("u" : Str) = ((l.filter id).length : Nat) := by
  rw [eU, count_one]
  show ((((l.map code).filter fun k => k == 117).length : Nat) : Int) = _
  rw [List.filter_map, List.length_map]
  congr 2
  refine List.filter_congr fun b _ => ?_
  cases b <;> rfl
theorem rep_txt (b : Bool) : ∀ k, (⟨(List.replicate k (sgn b).cps).foldl (· ++ ·) #[]⟩ : Str) = txt (List.replicate k b)
  | k => by
    have h : ∀ (k : Nat) (acc : Array Nat), (List.replicate k (sgn b).cps).foldl (· ++ ·) acc = acc ++ (List.replicate k (code b)).toArray := by
      intro k
      induction k with
      | zero => intro acc; simp
      | succ k ih =>
        intro acc
        rw [List.replicate_succ, List.foldl_cons, ih, List.replicate_succ]
        apply Array.ext'
        show (acc ++ #[code b] ++ (List.replicate k (code b)).toArray).toList = (acc ++ (code b :: List.replicate k (code b)).toArray).toList
        rw [Array.toList_append, Array.toList_append, Array.toList_append, List.append_assoc]
        rfl
    rw [h]
    unfold txt
    rw [List.map_replicate]
    simp
theorem op_mul_sgn {X : Cx} : OpR X (binaryOp .Mult) (fun x y H Q => ∃ (b : Bool) (k : Nat), x = .str (sgn b) ∧ y = .int (k : Int) ∧ k ≤ 1000 ∧ Q (.str (txt (List.replicate k b))) H) := by
  intro pins s σ H x y v u Q I rx ry h
  obtain ⟨b, k, rfl, rfl, hk, q⟩ := h
  obtain ⟨t, rfl⟩ := rx
  obtain ⟨t', rfl⟩ := ry
  have hz : ((sgn b).length : Int) = 1 := rfl
  refine PySem.P.mul_str ?_ (fun h1 _ => ?_) (fun h1 _ => ?_) ?_
  · rw [decide_eq_false (by omega), decide_eq_false (by omega)]
    rfl
  · rw [hz]
    have h3 : (1 : Int) ≤ (2 ^ 63 - 1) / (k : Int) := by
      refine (Int.le_ediv_iff_mul_le (by omega)).mpr ?_
      omega
    omega
  · rw [Int.toNat_natCast]
    show decide (sizeLine < 1 * k) = false
    exact decide_eq_false (by have := sz (show k ≤ 1000000 by omega); omega)
  · by_cases h1 : (k : Int) < 1
    · rw [if_pos h1]
      have e0 : k = 0 := by omega
      subst e0
      exact ⟨by decide, .str (txt []), H, I.tok _, ⟨_, rfl⟩, q⟩
    · rw [if_neg h1]
      by_cases h2 : ((k : Int) == 1 || (sgn b).length == 0) = true
      · rw [if_pos h2]
        have e1 : k = 1 := by
          have : (sgn b).length = 1 := rfl
          rw [this] at h2
          simp at h2
          omega
        subst e1
        exact ⟨.str (sgn b), H, I, ⟨_, rfl⟩, q⟩
      · rw [if_neg h2, Int.toNat_natCast, rep_txt]
        refine ⟨?_, .str (txt (List.replicate k b)), H, I.tok _, ⟨_, rfl⟩, q⟩
        rw [txt_len, List.length_replicate]
        exact sz (by omega)
end Hr
/-! ### the law's own hill row -/
namespace Hr
open PySem PySem.Spec PyProof.Rows L2
theorem scLRow : FnScope ["_law_script", "_law_ceiling", "_law_ups", "_law_row_here", "_law_height", "_law_k", "_law_mark"] ["_law_script", "_law_ceiling"] (defScope sLRow) := ⟨rfl, rfl, rfl, by decide +kernel, rfl, by decide +kernel, by decide +kernel⟩
theorem cut_map (ns : List Int) (lo hi : Option Int) : ∃ ms : List Int, cutV (ns.map V.int) lo hi = ms.map V.int := by
  unfold cutV
  exact ⟨_, by rw [← List.map_drop, ← List.map_take]⟩
theorem eqv_nil : ∀ ns : List Int, PyData.eqv (.list (ns.map PyData.int)) (.list []) = decide (ns = [])
  | [] => rfl
  | _ :: _ => rfl
/-- a ceiling that is not 0 -/
def cPos : Option Nat → Prop
  | none => True
  | some k => 1 ≤ k
section
variable {P : Program} {w : World} {K : PySem.W.Frag} {mg : Str → Option Value} {base : Heap}
def spLRow (K : PySem.W.Frag) : Sp := fun vs H Q _ => ∃ (a : Addr) (ns : List Int) (c : Option Nat), vs = [.ref a, cV c] ∧ SqL K H a (ns.map V.int) ∧ ns.length ≤ 63 ∧ cPos c ∧ ∀ H' l n, Same H H' → Hill c n l → n ≤ 60 → Q (.str (txt l)) H'
theorem cal_lrow (D : Def K mg "_law_row" sLRow ["_law_script", "_law_ceiling"]) (C : Cal K mg CX0 P w base 1 "_law_mixed" [] spMixed) (mlen : mg "len" = none) (mmin : mg "min" = none) (mmax : mg "max" = none) (msum : mg "sum" = none) (mrange : mg "range" = none) : Cal K mg CX0 P w base 2 "_law_row" [] (spLRow K) := by
  refine D.cal scLRow (fun vs H Q E h => ?_) (fun f cdv A outer s H vs Q E hr h => ?_)
  · obtain ⟨a, ns, c, rfl, _⟩ := h
    rfl
  · obtain ⟨a, ns, c, rfl, hS, hlen, hcp, q⟩ := h
    have nd := scLRow.nd
    refine ⟨_, pss_cons (ps_set (i := 2) nd rfl (.inl rfl) (pe_callB (call_min2 rfl) (by rfl) mmin boot_min (pa_cons pe_int (pa_cons (pe_callB (call_max2 rfl) (by rfl) mmax boot_max (pa_cons (pe_op op_fdiv (pe_callB call_len_seq (by rfl) mlen PySem.boot_len (pa_cons (pv 0) pa_nil)) pe_int)
        (pa_cons (pe_op op_mod (pe_op op_fdiv (pe_c C hr (pa_cons (pe_callB (cr_sum rfl) (by rfl) msum (by decide +kernel) (pa_cons (pe_slice sl_list (pv 0) po_none (po_some pe_int)) pa_nil)) (pa_cons (pe_callB call_len_seq (by rfl) mlen PySem.boot_len (pa_cons (pv 0) pa_nil)) pa_nil))) pe_int) pe_int) pa_nil))) pa_nil))))
      (pss_cons (ps_set (i := 3) nd rfl (.inl rfl) pe_str) (pss_cons (ps_set (i := 4) nd rfl (.inl rfl) pe_int)
      (pss_cons (ps_for PassesOwn.never rfl (pi_range1 (by rfl) mrange (pa_cons (pe_op op_mul pe_int (pv 2)) pa_nil)) (pg_name (i := 5) nd rfl (.inl rfl))
        (pss_cons (ps_set (i := 6) nd rfl (.inl rfl) (pe_c C hr (pa_cons (pe_ifExp (pt_cmpR (op_neD hr.units) (pv 0) (pe_lst pa_nil) (nomark _)) (pe_ix ix_list (pv 0) (pe_op op_mod (pv 5) (pe_callB call_len_seq (by rfl) mlen PySem.boot_len (pa_cons (pv 0) pa_nil))) (fun _ _ => rfl)) pe_int) (pa_cons (pv 5) pa_nil))))
        (pss_one (ps_if (PW.pt (pw_or (pt_cmpR op_eq (pv 4) pe_int (nomark _)) (pw_or1 (PW.pt (pw_and (pt_cmpR op_lt (pe_m1 PySem.F.slot_str_count PySem.F.type_str_count mt_count (pv 3) pe_str) (pv 2) (nomark _)) (pw_and (pt_cmpR op_ne (pv 4) (pv 1) (nomark _)) (pw_and1 (pt_cmpR op_gt (pe_op op_mod (pv 6) pe_int) pe_int (nomark _)))))))))
          (pss_cons (ps_set (i := 3) nd rfl (.inl rfl) (pe_op op_add_str (pv 3) pe_str)) (pss_one (ps_set (i := 4) nd rfl (.inl rfl) (pe_op op_add (pv 4) pe_int))))
          (pss_cons (ps_set (i := 3) nd rfl (.inl rfl) (pe_op op_add_str (pv 3) pe_str)) (pss_one (ps_set (i := 4) nd rfl (.inl rfl) (pe_op op_sub (pv 4) pe_int))))))))
      (pss_one (ps_ret (pv 3)))))), ?_⟩
    refine ⟨.ref a, rfl, a, _, rfl, .inl hS, _, 2, rfl, rfl, ⟨by decide, by decide⟩, ?_⟩
    refine ⟨.ref a, rfl, 2, rfl, a, ns.map V.int, rfl, hS, fun p1 n1 => ?_⟩
    obtain ⟨ms, ems⟩ := cut_map ns none (some 2)
    rw [ems]
    have s1 := same_upd (o := .lst (ms.map V.int)) n1
    have S2 : SqL K (upd H p1 (.lst (ms.map V.int))) p1 (ms.map V.int) := .inl (.inl upd_same)
    generalize upd H p1 (.lst (ms.map V.int)) = H1 at s1 S2 ⊢
    refine ⟨p1, ms, rfl, S2, .ref a, rfl, a, _, rfl, .inl (s1.seq hS), _, _, rfl, ?_⟩
    generalize hmx : mixed ms.sum _ = mx
    have hm0 : 0 ≤ mx := hmx ▸ mixed_nonneg _ _
    refine ⟨mx, 7, rfl, rfl, ⟨by decide, by decide⟩, mx / 7, 61, rfl, rfl, (by show (0 : Int) < 61; decide), _, _, rfl, _, _, rfl, ?_⟩
    obtain ⟨u, eu, hu⟩ : ∃ u : Nat, (if (if (mx / 7 % 61 : Int) > ((ns.map V.int).length : Int) / 2 then (mx / 7 % 61 : Int) else ((ns.map V.int).length : Int) / 2) < 60 then (if (mx / 7 % 61 : Int) > ((ns.map V.int).length : Int) / 2 then (mx / 7 % 61 : Int) else ((ns.map V.int).length : Int) / 2) else 60) = (u : Int) ∧ u ≤ 60 := by
      refine ⟨(if (if (mx / 7 % 61 : Int) > ((ns.map V.int).length : Int) / 2 then (mx / 7 % 61 : Int) else ((ns.map V.int).length : Int) / 2) < 60 then (if (mx / 7 % 61 : Int) > ((ns.map V.int).length : Int) / 2 then (mx / 7 % 61 : Int) else ((ns.map V.int).length : Int) / 2) else 60).toNat, ?_, ?_⟩ <;> split <;> split <;> omega
    show gName 2 (V.int (if (if (mx / 7 % 61 : Int) > ((ns.map V.int).length : Int) / 2 then (mx / 7 % 61 : Int) else ((ns.map V.int).length : Int) / 2) < 60 then (if (mx / 7 % 61 : Int) > ((ns.map V.int).length : Int) / 2 then (mx / 7 % 61 : Int) else ((ns.map V.int).length : Int) / 2) else 60)) _ _ _
    rw [eu]
    have hS1 := s1.seq hS
    refine ⟨_, rfl, 2, (u : Int), rfl, rfl, .inl ⟨by decide, by decide⟩, 2 * (u : Int), rfl, by omega, by omega, ?_⟩
    refine for_range (lo := 0) (n := 2 * u) (fun i σ H' => ∃ (z : Str) (hh : Int) (l : List Bool) (h : Nat) (y5 y6 : Option V), σ = [some (.ref a), some (cV c), some (.int (u : Int)), some (.str z), some (.int hh), y5, y6] ∧ Same H H' ∧
      z = txt l ∧ hh = (h : Int) ∧ l.length = i ∧ h + i = 2 * (l.filter id).length ∧ (l.filter id).length ≤ u ∧ (∀ k, c = some k → h ≤ k) ∧ ∀ r, okb c h r = okb c 0 (l ++ r)) ?_ ?_ ?_
    · exact ⟨_, _, [], 0, none, none, rfl, s1, eE, rfl, rfl, rfl, Nat.zero_le _, fun k _ => Nat.zero_le _, fun r => rfl⟩
    · rintro i σ H2 hi ⟨z, hh, l, h, y5, y6, rfl, s2, ez, eh, el, eu2, hu2, hc, ok⟩
      have hS2 := s2.seq hS
      have hz1 : z.length + 1 ≤ sizeLine := sz (by rw [ez, txt_len]; omega)
      -- the mark
      refine ⟨.ref a, rfl, Nat.zero_le _, fun p2 n2 => ?_⟩
      have s3 := same_upd (o := .lst []) n2
      have s2 := s2.trans s3
      have hS2 := s3.seq hS2
      have hE : SqL K (upd H2 p2 (.lst [])) p2 ([] : List V) := .inl (.inl upd_same)
      generalize upd H2 p2 (.lst []) = H3 at s2 hS2 hE ⊢
      refine ⟨.list (ns.map PyData.int), .list [], .lst hS2 (dp_ints ns), .lst hE .nil, sh_ints ns, sh_ints [], _, rfl, ?_⟩
      rw [eqv_nil]
      by_cases hns : ns = []
      · rw [decide_eq_true hns]
        refine iteF ?_
        refine ⟨_, rfl, _, _, rfl, ?_⟩
        generalize mixed 0 _ = mk
        refine ⟨_, rfl, rfl, _, rfl, ite2 (fun e0 => ?_) (fun e0 => ?_)⟩
        · have h0 : h = 0 := by
            have := V.int.inj (of_decide_eq_true e0)
            omega
          have un : ∀ k, c = some k → h < k := fun k hk => by
            rw [hk] at hcp
            have : 1 ≤ k := hcp
            omega
          have ub : under c h = true := by
            cases c with
            | none => rfl
            | some k => exact decide_eq_true (un k rfl)
          refine iteT ?_
          refine ⟨_, rfl, z, "u", rfl, rfl, hz1, ?_⟩
          refine ⟨_, rfl, hh, 1, rfl, rfl, ?_⟩
          exact ⟨_, _, l ++ [true], h + 1, _, _, rfl, s2, by rw [ez, ← txt_append, ← sgn_u]; rfl, by show hh + 1 = _; omega, by rw [List.length_append, el]; rfl, by rw [List.filter_append, List.length_append]; show _ = 2 * (_ + 1); omega, by rw [List.filter_append, List.length_append]; show _ + 1 ≤ u; omega, fun k hk => by have := un k hk; omega, fun r => by
            rw [List.append_assoc]
            show _ = okb c 0 (l ++ (true :: r))
            rw [← ok (true :: r)]
            show _ = (under c h && okb c (h + 1) r)
            rw [ub, Bool.true_and]⟩
        · have h0 : h ≠ 0 := fun zz => e0 (decide_eq_true (by rw [eh, zz]; rfl))
          refine ⟨.str z, rfl, ⟨_, rfl⟩, z, "u", rfl, rfl, .int (u : Int), rfl, _, _, rfl, rfl, _, rfl, ?_⟩
          rw [ez, count_u, ← ez]
          refine ite2 (fun e1 => ?_) (fun e1 => ?_)
          · have u1 : (l.filter id).length < u := by
              have := of_decide_eq_true e1
              omega
            refine ⟨.int hh, rfl, cV c, rfl, by cases c <;> rfl, _, rfl, ite2 (fun e2 => ?_) (fun e2 => ?_)⟩
            · have un : ∀ k, c = some k → h < k := fun k hk => by
                have h1 := hc k hk
                have h2 : ¬ (V.int hh = cV c) := by simpa using e2
                rw [hk] at h2
                have : ¬ hh = (k : Int) := fun zz => h2 (by rw [zz]; rfl)
                omega
              have ub : under c h = true := by
                cases c with
                | none => rfl
                | some k => exact decide_eq_true (un k rfl)
              refine ⟨_, rfl, mk, 5, rfl, rfl, (by show (0 : Int) < 5; decide), _, _, rfl, rfl, _, rfl, ite2 (fun e3 => ?_) (fun e3 => ?_)⟩
              · skip
                refine ⟨_, rfl, z, "u", rfl, rfl, hz1, ?_⟩
                refine ⟨_, rfl, hh, 1, rfl, rfl, ?_⟩
                exact ⟨_, _, l ++ [true], h + 1, _, _, rfl, s2, by rw [ez, ← txt_append, ← sgn_u]; rfl, by show hh + 1 = _; omega, by rw [List.length_append, el]; rfl, by rw [List.filter_append, List.length_append]; show _ = 2 * (_ + 1); omega, by rw [List.filter_append, List.length_append]; show _ + 1 ≤ u; omega, fun k hk => by have := un k hk; omega, fun r => by
                  rw [List.append_assoc]
                  show _ = okb c 0 (l ++ (true :: r))
                  rw [← ok (true :: r)]
                  show _ = (under c h && okb c (h + 1) r)
                  rw [ub, Bool.true_and]⟩
              · skip
                refine ⟨_, rfl, z, "d", rfl, rfl, hz1, ?_⟩
                refine ⟨_, rfl, hh, 1, rfl, rfl, ?_⟩
                exact ⟨_, _, l ++ [false], h - 1, _, _, rfl, s2, by rw [ez, ← txt_append, ← sgn_d]; rfl, by show hh - 1 = _; omega, by rw [List.length_append, el]; rfl, by rw [List.filter_append, List.length_append]; show _ = 2 * (_ + 0); omega, by rw [List.filter_append, List.length_append]; show _ + 0 ≤ u; omega, fun k hk => by have := hc k hk; omega, fun r => by
                  rw [List.append_assoc]
                  show _ = okb c 0 (l ++ (false :: r))
                  rw [← ok (false :: r)]
                  show _ = ((h != 0) && okb c (h - 1) r)
                  rw [show (h != 0) = true by simpa using h0, Bool.true_and]⟩
            · refine iteF ?_
              refine ⟨_, rfl, z, "d", rfl, rfl, hz1, ?_⟩
              refine ⟨_, rfl, hh, 1, rfl, rfl, ?_⟩
              exact ⟨_, _, l ++ [false], h - 1, _, _, rfl, s2, by rw [ez, ← txt_append, ← sgn_d]; rfl, by show hh - 1 = _; omega, by rw [List.length_append, el]; rfl, by rw [List.filter_append, List.length_append]; show _ = 2 * (_ + 0); omega, by rw [List.filter_append, List.length_append]; show _ + 0 ≤ u; omega, fun k hk => by have := hc k hk; omega, fun r => by
                rw [List.append_assoc]
                show _ = okb c 0 (l ++ (false :: r))
                rw [← ok (false :: r)]
                show _ = ((h != 0) && okb c (h - 1) r)
                rw [show (h != 0) = true by simpa using h0, Bool.true_and]⟩
          · refine iteF ?_
            refine ⟨_, rfl, z, "d", rfl, rfl, hz1, ?_⟩
            refine ⟨_, rfl, hh, 1, rfl, rfl, ?_⟩
            exact ⟨_, _, l ++ [false], h - 1, _, _, rfl, s2, by rw [ez, ← txt_append, ← sgn_d]; rfl, by show hh - 1 = _; omega, by rw [List.length_append, el]; rfl, by rw [List.filter_append, List.length_append]; show _ = 2 * (_ + 0); omega, by rw [List.filter_append, List.length_append]; show _ + 0 ≤ u; omega, fun k hk => by have := hc k hk; omega, fun r => by
              rw [List.append_assoc]
              show _ = okb c 0 (l ++ (false :: r))
              rw [← ok (false :: r)]
              show _ = ((h != 0) && okb c (h - 1) r)
              rw [show (h != 0) = true by simpa using h0, Bool.true_and]⟩
      · rw [decide_eq_false hns]
        refine iteT ?_
        have hpos : 0 < ns.length := List.length_pos_iff.mpr hns
        have hml : (ns.map V.int).length = ns.length := List.length_map ..
        obtain ⟨j, ej, hj⟩ : ∃ j : Nat, (0 + (i : Int)) % ((ns.map V.int).length : Int) = (j : Int) ∧ j < ns.length := by
          have h1 := Int.emod_nonneg (0 + (i : Int)) (show ((ns.map V.int).length : Int) ≠ 0 by omega)
          have h2 := Int.emod_lt_of_pos (0 + (i : Int)) (show 0 < ((ns.map V.int).length : Int) by omega)
          exact ⟨((0 + (i : Int)) % ((ns.map V.int).length : Int)).toNat, by omega, by omega⟩
        refine ⟨.ref a, rfl, _, rfl, .ref a, rfl, a, _, rfl, .inl hS2, _, _, rfl, rfl, (by show (0 : Int) < ((ns.map V.int).length : Int); omega), a, _, _, .int ns[j], rfl, rfl, hS2, at_of ej (by rw [List.getElem?_map, List.getElem?_eq_getElem hj]; rfl), ?_⟩
        refine ⟨_, rfl, _, _, rfl, ?_⟩
        generalize mixed ns[j] _ = mk
        refine ⟨_, rfl, rfl, _, rfl, ite2 (fun e0 => ?_) (fun e0 => ?_)⟩
        · have h0 : h = 0 := by
            have := V.int.inj (of_decide_eq_true e0)
            omega
          have un : ∀ k, c = some k → h < k := fun k hk => by
            rw [hk] at hcp
            have : 1 ≤ k := hcp
            omega
          have ub : under c h = true := by
            cases c with
            | none => rfl
            | some k => exact decide_eq_true (un k rfl)
          refine iteT ?_
          refine ⟨_, rfl, z, "u", rfl, rfl, hz1, ?_⟩
          refine ⟨_, rfl, hh, 1, rfl, rfl, ?_⟩
          exact ⟨_, _, l ++ [true], h + 1, _, _, rfl, s2, by rw [ez, ← txt_append, ← sgn_u]; rfl, by show hh + 1 = _; omega, by rw [List.length_append, el]; rfl, by rw [List.filter_append, List.length_append]; show _ = 2 * (_ + 1); omega, by rw [List.filter_append, List.length_append]; show _ + 1 ≤ u; omega, fun k hk => by have := un k hk; omega, fun r => by
            rw [List.append_assoc]
            show _ = okb c 0 (l ++ (true :: r))
            rw [← ok (true :: r)]
            show _ = (under c h && okb c (h + 1) r)
            rw [ub, Bool.true_and]⟩
        · have h0 : h ≠ 0 := fun zz => e0 (decide_eq_true (by rw [eh, zz]; rfl))
          refine ⟨.str z, rfl, ⟨_, rfl⟩, z, "u", rfl, rfl, .int (u : Int), rfl, _, _, rfl, rfl, _, rfl, ?_⟩
          rw [ez, count_u, ← ez]
          refine ite2 (fun e1 => ?_) (fun e1 => ?_)
          · have u1 : (l.filter id).length < u := by
              have := of_decide_eq_true e1
              omega
            refine ⟨.int hh, rfl, cV c, rfl, by cases c <;> rfl, _, rfl, ite2 (fun e2 => ?_) (fun e2 => ?_)⟩
            · have un : ∀ k, c = some k → h < k := fun k hk => by
                have h1 := hc k hk
                have h2 : ¬ (V.int hh = cV c) := by simpa using e2
                rw [hk] at h2
                have : ¬ hh = (k : Int) := fun zz => h2 (by rw [zz]; rfl)
                omega
              have ub : under c h = true := by
                cases c with
                | none => rfl
                | some k => exact decide_eq_true (un k rfl)
              refine ⟨_, rfl, mk, 5, rfl, rfl, (by show (0 : Int) < 5; decide), _, _, rfl, rfl, _, rfl, ite2 (fun e3 => ?_) (fun e3 => ?_)⟩
              · skip
                refine ⟨_, rfl, z, "u", rfl, rfl, hz1, ?_⟩
                refine ⟨_, rfl, hh, 1, rfl, rfl, ?_⟩
                exact ⟨_, _, l ++ [true], h + 1, _, _, rfl, s2, by rw [ez, ← txt_append, ← sgn_u]; rfl, by show hh + 1 = _; omega, by rw [List.length_append, el]; rfl, by rw [List.filter_append, List.length_append]; show _ = 2 * (_ + 1); omega, by rw [List.filter_append, List.length_append]; show _ + 1 ≤ u; omega, fun k hk => by have := un k hk; omega, fun r => by
                  rw [List.append_assoc]
                  show _ = okb c 0 (l ++ (true :: r))
                  rw [← ok (true :: r)]
                  show _ = (under c h && okb c (h + 1) r)
                  rw [ub, Bool.true_and]⟩
              · skip
                refine ⟨_, rfl, z, "d", rfl, rfl, hz1, ?_⟩
                refine ⟨_, rfl, hh, 1, rfl, rfl, ?_⟩
                exact ⟨_, _, l ++ [false], h - 1, _, _, rfl, s2, by rw [ez, ← txt_append, ← sgn_d]; rfl, by show hh - 1 = _; omega, by rw [List.length_append, el]; rfl, by rw [List.filter_append, List.length_append]; show _ = 2 * (_ + 0); omega, by rw [List.filter_append, List.length_append]; show _ + 0 ≤ u; omega, fun k hk => by have := hc k hk; omega, fun r => by
                  rw [List.append_assoc]
                  show _ = okb c 0 (l ++ (false :: r))
                  rw [← ok (false :: r)]
                  show _ = ((h != 0) && okb c (h - 1) r)
                  rw [show (h != 0) = true by simpa using h0, Bool.true_and]⟩
            · refine iteF ?_
              refine ⟨_, rfl, z, "d", rfl, rfl, hz1, ?_⟩
              refine ⟨_, rfl, hh, 1, rfl, rfl, ?_⟩
              exact ⟨_, _, l ++ [false], h - 1, _, _, rfl, s2, by rw [ez, ← txt_append, ← sgn_d]; rfl, by show hh - 1 = _; omega, by rw [List.length_append, el]; rfl, by rw [List.filter_append, List.length_append]; show _ = 2 * (_ + 0); omega, by rw [List.filter_append, List.length_append]; show _ + 0 ≤ u; omega, fun k hk => by have := hc k hk; omega, fun r => by
                rw [List.append_assoc]
                show _ = okb c 0 (l ++ (false :: r))
                rw [← ok (false :: r)]
                show _ = ((h != 0) && okb c (h - 1) r)
                rw [show (h != 0) = true by simpa using h0, Bool.true_and]⟩
          · refine iteF ?_
            refine ⟨_, rfl, z, "d", rfl, rfl, hz1, ?_⟩
            refine ⟨_, rfl, hh, 1, rfl, rfl, ?_⟩
            exact ⟨_, _, l ++ [false], h - 1, _, _, rfl, s2, by rw [ez, ← txt_append, ← sgn_d]; rfl, by show hh - 1 = _; omega, by rw [List.length_append, el]; rfl, by rw [List.filter_append, List.length_append]; show _ = 2 * (_ + 0); omega, by rw [List.filter_append, List.length_append]; show _ + 0 ≤ u; omega, fun k hk => by have := hc k hk; omega, fun r => by
              rw [List.append_assoc]
              show _ = okb c 0 (l ++ (false :: r))
              rw [← ok (false :: r)]
              show _ = ((h != 0) && okb c (h - 1) r)
              rw [show (h != 0) = true by simpa using h0, Bool.true_and]⟩
    · rintro σ H2 ⟨z, hh, l, h, y5, y6, rfl, s2, ez, eh, el, eu2, hu2, hc, ok⟩
      refine ⟨_, rfl, ?_⟩
      have h0 : h = 0 := by omega
      have := ok []
      rw [List.append_nil, h0] at this
      rw [ez]
      exact q H2 l u s2 ⟨this.symm, el⟩ hu
end
end Hr
namespace Hr
open PySem PySem.Spec PyProof.Rows L2
/-- the eight classes by their numbers -/
def eight (c0 c1 c2 c3 c4 c5 c6 c7 : Addr) : Nat → Addr
  | 0 => c0 | 1 => c1 | 2 => c2 | 3 => c3 | 4 => c4 | 5 => c5 | 6 => c6 | _ => c7
theorem kit_eight {K : PySem.W.Frag} {t : Value} {k : Nat} {c0 c1 c2 c3 c4 c5 c6 c7 : Addr} (h0 : PySem.W.kitOne K t (.ref c0) = some (decide (0 = k))) (h1 : PySem.W.kitOne K t (.ref c1) = some (decide (1 = k))) (h2 : PySem.W.kitOne K t (.ref c2) = some (decide (2 = k)))
    (h3 : PySem.W.kitOne K t (.ref c3) = some (decide (3 = k))) (h4 : PySem.W.kitOne K t (.ref c4) = some (decide (4 = k))) (h5 : PySem.W.kitOne K t (.ref c5) = some (decide (5 = k))) (h6 : PySem.W.kitOne K t (.ref c6) = some (decide (6 = k))) (h7 : PySem.W.kitOne K t (.ref c7) = some (decide (7 = k))) :
    ∀ j, j < 8 → PySem.W.kitOne K t (.ref (eight c0 c1 c2 c3 c4 c5 c6 c7 j)) = some (decide (j = k))
  | 0, _ => h0 | 1, _ => h1 | 2, _ => h2 | 3, _ => h3 | 4, _ => h4 | 5, _ => h5 | 6, _ => h6 | 7, _ => h7
  | j + 8, h => absurd h (by omega)
end Hr
/-! ### joined and lifted -/
namespace Hr
open PySem PySem.Spec PyProof.Rows L2
theorem scJoined : FnScope ["rows", "row"] ["rows"] (defScope s_joined) := ⟨rfl, rfl, rfl, by decide +kernel, rfl, by decide +kernel, by decide +kernel⟩
theorem scLifted : FnScope ["row", "times"] ["row", "times"] (defScope s_lifted) := ⟨rfl, rfl, rfl, by decide +kernel, rfl, by decide +kernel, by decide +kernel⟩
theorem join_txts (ls : List (List Bool)) : Txt.join ("" : Str) (ls.map txt) = txt ls.flatten := by
  have h := SX.join_S [] (ls.map fun l => l.map code)
  have e1 : (ls.map fun l => l.map code).map SX.S = ls.map txt := by
    rw [List.map_map]
    rfl
  rw [e1] at h
  have e2 : ∀ ls : List (List Bool), TL.joinL [] (ls.map fun l => l.map code) = ls.flatten.map code := by
    intro ls
    induction ls with
    | nil => rfl
    | cons l ls ih =>
      cases ls with
      | nil =>
        show l.map code = (l ++ []).map code
        rw [List.append_nil]
      | cons l2 ls =>
        show l.map code ++ ([] ++ TL.joinL [] ((l2 :: ls).map fun l => l.map code)) = _
        rw [ih, List.nil_append, ← List.map_append]
        rfl
  rw [e2] at h
  rw [eE]
  exact h
theorem sum_lens (ls : List (List Bool)) : ((ls.map txt).map (·.length)).sum = ls.flatten.length := by
  induction ls with
  | nil => rfl
  | cons l ls ih =>
    rw [List.map_cons, List.map_cons, List.sum_cons, ih, List.flatten_cons, List.length_append, txt_len]
theorem lens_le : ∀ (zs : List Str), (∀ z ∈ zs, z.length ≤ 1000) → (zs.map (·.length)).sum ≤ 1000 * zs.length
  | [], _ => Nat.le_refl _
  | z :: zs, h => by
    have := lens_le zs fun x hx => h x (List.mem_cons_of_mem _ hx)
    have := h z (List.mem_cons_self ..)
    rw [List.map_cons, List.sum_cons, List.length_cons]
    omega
theorem len_E : ("" : Str).length = 0 := by decide +kernel
section
variable {P : Program} {w : World} {K : PySem.W.Frag} {mg : Str → Option Value} {base : Heap} {CN CC : Addr}
def spJoinedX (K : PySem.W.Frag) (CN : Addr) : Sp := fun vs H Q E => ∃ (a : Addr) (zs : List Str), vs = [.ref a] ∧ SqL K H a (zs.map V.str) ∧ zs.length ≤ 1000 ∧ (∀ z ∈ zs, z.length ≤ 1000) ∧
  ((∀ z ∈ zs, hillB none z = true) → ∀ H', Same H H' → Q (.str (Txt.join "" zs)) H') ∧ ((∃ z ∈ zs, hillB none z = false) → ∀ H', Same H H' → E (.ref CN) none H')
theorem cal_joinedX (D : Def K mg "joined" s_joined ["rows"]) (C : Cal K mg (L2.CX P w) P w base 4 "check_hill" [.non] (spChHillX CN)) : Cal K mg (L2.CX P w) P w base 5 "joined" [] (spJoinedX K CN) := by
  refine D.calX scJoined (fun vs H Q E h => ?_) (fun f cdv A outer s H vs Q E hr h => ?_)
  · obtain ⟨a, zs, rfl, _⟩ := h
    rfl
  · obtain ⟨a, zs, rfl, hS, hn, hz, q, qe⟩ := h
    have nd := scJoined.nd
    refine ⟨_, pss_cons (ps_for PassesOwn.leaving rfl (pi_list (pv 0)) (pg_name (i := 1) nd rfl (.inl rfl)) (pss_one (ps_expr (pe_cX C hr (takes_of rfl rfl rfl rfl) (pa_cons (pv 1) pa_nil)))))
      (pss_one (ps_ret (pe_join pe_str (pv 0)))), ?_⟩
    refine ⟨.ref a, rfl, a, rfl, ⟨_, hS⟩, ?_⟩
    refine for_it (walk_list (K := K) (a := a) (xs := zs.map V.str)) (fun i σ H' => ∃ y, σ = [some (.ref a), y] ∧ Same H H' ∧ ∀ j z, j < i → zs[j]? = some z → hillB none z = true) ?_ ?_ ?_ ?_
    · exact ⟨none, rfl, fun _ _ h => h, fun j z hj => absurd hj (Nat.not_lt_zero _)⟩
    · rintro i σ H' _ ⟨y, rfl, sm, _⟩
      exact sm.seq hS
    · rintro i x σ H1 H2 hi ⟨y, rfl, sm, ok⟩ ⟨rfl, ex⟩
      have hi' : i < zs.length := by
        rw [List.length_map] at hi
        exact hi
      have hzi : zs[i]? = some zs[i] := List.getElem?_eq_getElem hi'
      have ex : x = .str zs[i] := by
        rw [List.getElem?_map, hzi] at ex
        exact (Option.some.inj ex).symm
      subst ex
      have hm : zs[i] ∈ zs := List.mem_of_getElem? hzi
      generalize zs[i] = z at hzi hm
      refine ⟨.str z, rfl, z, none, rfl, hz z hm, fun hh H3 s3 => ?_, fun hh H3 s3 => qe ⟨z, hm, hh⟩ H3 (sm.trans s3)⟩
      refine ⟨_, rfl, sm.trans s3, fun j z' hj hz' => ?_⟩
      by_cases e : j = i
      · subst e
        rw [hzi] at hz'
        cases hz'
        exact hh
      · exact ok j z' (by omega) hz'
    · rintro σ H1 ⟨y, rfl, sm, ok⟩
      rw [List.length_map] at ok
      have allok : ∀ z ∈ zs, hillB none z = true := fun z hm => by
        obtain ⟨j, hj, e⟩ := List.getElem_of_mem hm
        exact ok j z hj (by rw [List.getElem?_eq_getElem hj, e])
      refine ⟨⟨_, rfl⟩, .ref a, rfl, "", a, zs, rfl, rfl, .inl (sm.seq hS), ?_, q allok H1 sm⟩
      have := lens_le zs hz
      rw [len_E]
      omega
def spLiftedX (CN CC : Addr) : Sp := fun vs H Q E => ∃ (z : Str) (v : V), vs = [.str z, v] ∧ flatV v = true ∧ z.length ≤ 1000 ∧
  (hillB none z = true → ∀ k : Nat, v = .int (k : Int) → k ≤ 200 → ∀ H', Same H H' → Q (.str (txt (List.replicate k true) ++ z ++ txt (List.replicate k false))) H') ∧
  (hillB none z = false → ∀ H', Same H H' → E (.ref CN) none H') ∧ (hillB none z = true → numB v 200 = false → ∀ H', Same H H' → E (.ref CC) none H')
theorem cal_liftedX (D : DefV K mg "lifted" s_lifted ["row", "times"] (.int 1)) (C : Cal K mg (L2.CX P w) P w base 4 "check_hill" [.non] (spChHillX CN)) (C2 : Cal K mg (L2.CX P w) P w base 2 "check_number" [.int 0] (spChNumX CC)) {t0 t1 t2 : Tok} (gM : mg "MOST_TIMES" = some (.int 200 t0)) (c_UP : mg "UP" = some (.str "u" t1)) (c_DOWN : mg "DOWN" = some (.str "d" t2)) :
    Cal K mg (L2.CX P w) P w base 5 "lifted" [] (spLiftedX CN CC) ∧ Cal K mg (L2.CX P w) P w base 5 "lifted" [.int 1] (spLiftedX CN CC) := by
  refine D.okX scLifted (fun vs H Q E h => ?_) (fun f cdv A outer s H vs Q E hr h => ?_)
  · obtain ⟨z, v, rfl, _⟩ := h
    rfl
  · obtain ⟨z, v, rfl, hv, hz, q, qr, qc⟩ := h
    refine ⟨_, (pss_cons (ps_expr (pe_cX C hr (takes_of rfl rfl rfl rfl) (pa_cons (pv 0) pa_nil)))
    (pss_cons (ps_expr (pe_cX C2 hr (takes_of rfl rfl rfl rfl) (pa_cons (pv 1) (pa_cons (pe_glob (v := .int 200) (by rfl) gM ⟨_, rfl⟩) pa_nil))))
    (pss_one (ps_ret (pe_op op_add_str (pe_op op_add_str (pe_op op_mul_sgn (pe_glob (v := .str "u") (by rfl) c_UP ⟨_, rfl⟩) (pv 1)) (pv 0)) (pe_op op_mul_sgn (pe_glob (v := .str "d") (by rfl) c_DOWN ⟨_, rfl⟩) (pv 1))))))), ?_⟩
    refine ⟨.str z, rfl, z, none, rfl, hz, fun hh H1 s1 => ?_, fun hh => qr hh⟩
    refine ⟨v, rfl, v, 200, rfl, hv, .inl rfl, fun hn => ?_, fun hn => qc hh hn H1 s1⟩
    obtain ⟨k, rfl, hk⟩ := numB_of hn
    have hk : k ≤ 200 := by omega
    refine ⟨_, rfl, true, k, congrArg V.str eU, rfl, by omega, ?_⟩
    refine ⟨_, rfl, _, _, rfl, rfl, sz ?_, ?_⟩
    · rw [txt_len, List.length_replicate]
      omega
    refine ⟨_, rfl, false, k, congrArg V.str eD, rfl, by omega, _, _, rfl, rfl, sz ?_, q hh k rfl hk H1 s1⟩
    rw [PySem.Str.length_append, txt_len, txt_len, List.length_replicate, List.length_replicate]
    omega
end
end Hr
/-! ### rows that are none; lists and tuples as data -/
namespace Hr
open PySem PySem.Spec PyProof.Rows L2
theorem isRowB_append (a b : Str) : isRowB (a ++ b) = (isRowB a && isRowB b) := by
  show (a ++ b).cps.toList.all isS = _
  rw [show (a ++ b).cps.toList = a.cps.toList ++ b.cps.toList from TL.tl_append a b, List.all_append]
  rfl
theorem okb_any {c : Option Nat} : ∀ {l : List Bool} {h : Nat}, okb c h l = true → okb none h l = true
  | [], _, e => e
  | true :: l, h, e => by
    show (true && okb none (h + 1) l) = true
    rw [Bool.true_and]
    exact okb_any (okb_up e).2
  | false :: l, h, e => by
    obtain ⟨a, b⟩ := okb_down e
    show ((h != 0) && okb none (h - 1) l) = true
    rw [okb_any b, Bool.and_true]
    simpa using a
theorem hill_ext {l : List Bool} (h : okb none 0 l = true) (r : List Bool) : okb none 0 (l ++ r) = okb none 0 r := by
  have := okb_app (r := r) (h := 0) h
  rw [Nat.add_zero] at this
  exact this
theorem eu1 : ("u" : Str) = txt [true] := by decide +kernel
theorem ed1 : ("d" : Str) = txt [false] := by decide +kernel
theorem edu : ("du" : Str) = txt [false, true] := by decide +kernel
theorem eud : ("ud" : Str) = txt [true, false] := by decide +kernel
theorem enil : ("" : Str) = txt [] := by decide +kernel
theorem wrong_u {l : List Bool} (h : okb none 0 l = true) : hillB none (txt l ++ "u") = false := by
  rw [eu1, txt_append, hillB_txt, hill_ext h]
  rfl
theorem wrong_d (l : List Bool) : hillB none ("d" ++ txt l) = false := by
  rw [ed1, txt_append, hillB_txt]
  rfl
theorem wrong_ux (l : List Bool) : hillB none (txt l ++ "ux") = false := by
  unfold hillB
  rw [isRowB_append, show isRowB "ux" = false by decide +kernel, Bool.and_false, Bool.false_and]
theorem wrong_x (l : List Bool) : hillB none (txt l ++ "x") = false := by
  unfold hillB
  rw [isRowB_append, show isRowB "x" = false by decide +kernel, Bool.and_false, Bool.false_and]
theorem wrong_du {l : List Bool} (h : okb none 0 l = true) : hillB none (txt l ++ "du") = false := by
  rw [edu, txt_append, hillB_txt, hill_ext h]
  rfl
theorem row_hillB {l : List Bool} (h : okb none 0 l = true) : hillB none (txt l) = true := (hillB_txt none l).trans h
theorem cut_ints (ns : List Int) (lo hi : Option Int) : ∃ ms : List Int, cutV (ns.map V.int) lo hi = ms.map V.int ∧ ms.length ≤ ns.length := by
  refine ⟨(ns.drop (HT.sIx (ns.map V.int).length 0 lo)).take (HT.sIx (ns.map V.int).length (ns.map V.int).length hi - HT.sIx (ns.map V.int).length 0 lo), ?_, ?_⟩
  · unfold cutV
    rw [List.map_take, List.map_drop]
  · rw [List.length_take, List.length_drop]
    omega
theorem rev_ints (ns : List Int) : (ns.map V.int).reverse = ns.reverse.map V.int := (List.map_reverse ..).symm
theorem same_data {d : PyData} (h : SeqAt.shaped d = true) : PyData.eqv d d = true := SeqAt.eqv_refl d (SeqAt.canLay_of_shaped h)
theorem str_ok (l : List Bool) : PyData.strOk (txt l) = true := by
  show (l.map code).toArray.all (· < 0x110000) = true
  rw [List.all_toArray, List.all_eq_true]
  intro c hc
  obtain ⟨b, _, rfl⟩ := List.mem_map.mp hc
  cases b <;> rfl
theorem sh_pair (x y : List Bool) : SeqAt.shaped (.tuple [.str (txt x), .str (txt y)]) = true := by
  show ((PyData.strOk (txt x) && (PyData.strOk (txt y) && true)) && decide (max 0 (max 0 0) + 1 ≤ 64)) = true
  rw [str_ok, str_ok]
  rfl
theorem sh_nil : SeqAt.shaped (.list []) = true := by decide +kernel
end Hr
/-! ### reversed(a text), sign by sign from its end -/
namespace Hr
open PySem PySem.Spec PyProof.Rows L2
theorem rv_none : typeLookup (.type "str") "__reversed__" = pure none := by
  rw [typeLookup_type, builtinLookup_eq_fast]
  kernel_rfl
theorem rv_get : typeLookup (.type "str") "__getitem__" = pure (some (.builtin "str.__getitem__")) := by
  rw [typeLookup_type, builtinLookup_eq_fast]
  kernel_rfl
/-- a reversed text at a, the next place i -/
def RvAt (h : Heap) (a : Addr) (z : Str) (t : Tok) (i : Int) : Prop :=
  ∃ o, h.get? a = some o ∧ o.cls = .type "reversed" ∧ o.data = .fields #[.str z t, rawInt i]
def rvO (z : Str) (t : Tok) (i : Int) : Obj := ⟨.type "reversed", none, .fields #[.str z t, rawInt i], #[]⟩
section
variable {prog : Program} {w : World} {A : Around} {E : Value → Shared → Prop} {s : Shared}
theorem rv_code {z : Str} {t : Tok} {Q₁ : Value → Shared → Prop} (hz : z.length ≤ sizeLine)
    (h : Q₁ (.ref s.heap.objs.size) { s with heap := s.heap.push (rvO z t ((z.length : Int) - 1)), toks := s.toks + 1 + 1 }) :
    codeAny (model prog w) A (.call (.builtin "reversed.__new__") ⟨[.type "reversed", .str z t], []⟩) (wants Q₁ E) s := by
  have hT : s.TypeIs (.str z t) "str" := typeIs_str s z t
  have hl := sizeLine_eq
  refine codeAny_of_tree ?_
  show wpAny _ A.in1 (checkBuiltinCall "reversed.__new__" _ >>= fun _ => again _) _ _ s
  refine wpAny_bind (wpAny_of_eq (F.newCall_reversed_1 _) (wpAny_pure ⟨plainId_quiet F.plain_reversed_new _, ?_⟩))
  refine codeAny_builtin F.entry_reversed_new ?_
  rw [Around.under_plainId F.plain_reversed_new _]
  unfold Builtin.«reversed.__new__»
  refine wpAny_bind (wpAny_of_eq (newClass_reversed _) ?_); try dsimp only
  refine wpAny_bind (wpAny_of_eq (a := ()) (by first | rfl | kernel_rfl) ?_); try dsimp only
  refine wpAny_bind (wpAny_of_eq (a := ()) (by first | rfl | kernel_rfl) ?_); try dsimp only
  refine wpAny_bind (wpAny_specialOf hT rv_none ?_); try dsimp only
  refine wpAny_bind ?_
  wp_delta
  refine wpAny_bind (wpAny_isInstance (T := "str") (U := "dict") (b := false) hT PySem.F.sub_str_dict ?_); try dsimp only
  (try rw [if_neg Bool.false_ne_true]); try dsimp only
  refine wpAny_bind (wpAny_specialOf hT rv_get ?_); try dsimp only
  try rw [if_pos (by decide +kernel)]
  refine wpAny_pure ?_; try dsimp only
  (try rw [if_neg (by decide)]); try dsimp only
  refine wpAny_bind (P.len_str (by omega) ?_)
  refine wpAny_bind (wpAny_of_eq (a := some ((z.length : Nat) : Int)) rfl ?_); try dsimp only
  refine wpAny_bind ?_
  show wpAny _ _ (newObj (.type "reversed") (.fields #[.str z t, rawInt ((z.length : Int) - 1)])) _ _ _
  exact wpAny_newObj_type (wpAny_pure h)
theorem rv_call {z : Str} {t : Tok} {Q : Value → Shared → Prop} (hz : z.length ≤ sizeLine)
    (h : Q (.ref s.heap.objs.size) { s with heap := s.heap.push (rvO z t ((z.length : Int) - 1)), toks := s.toks + 1 + 1 }) :
    wpAny (model prog w) A (call (.type "reversed") [.str z t]) Q E s := by
  refine callType_codes (Q₁ := fun v s₁ => s₁.TypeIs v "reversed" ∧ Q v s₁) RT.called_rt (F.typeCall_reversed_1 _) F.entry_object_init (rv_code (A := A.in1) hz ⟨⟨_, Heap.get?_push_size _ rfl, rfl⟩, h⟩) fun v s₁ g => ?_
  have I := RT.called_rt
  exact ⟨g.1, F.args_object_init_2 v _, object_init_meets I.init.lookup I.made (by decide) prog w A.in1 _ s₁ ⟨g.1, rfl, g.2⟩⟩
theorem RvAt.ty {a : Addr} {z : Str} {t : Tok} {i : Int} (x : RvAt s.heap a z t i) : s.TypeIs (.ref a) "reversed" := by
  obtain ⟨o, ho, hc, _⟩ := x
  exact ⟨o, ho, hc⟩
theorem rv_item {it : Addr} {z : Str} {t : Tok} {i c : Nat} {Q : Option Value → Shared → Prop} (hit : RvAt s.heap it z t (i : Int)) (hc : z.cps[i]? = some c) (hz : z.length ≤ sizeLine)
    (hQ : ∀ h' u, RvAt h' it z t ((i : Int) - 1) → Heap.SameBut it s.heap h' → Q (some (.str ⟨#[c]⟩ u)) { s with heap := h', toks := s.toks + 1 + 1 }) : wpAny (model prog w) A (pyNext (.ref it)) Q E s := by
  obtain ⟨o, ho, hcl, hd⟩ := id hit
  have hi : i < z.cps.size := (Array.getElem?_eq_some_iff.mp hc).1
  have hi' : i < z.length := hi
  have hT : s.TypeIs (.str z t) "str" := typeIs_str s z t
  rw [sizeLine_eq] at hz
  unfold pyNext
  refine wpAny_bind (wpAny_attempt (wpAny_callSpecial?_slot (name := Str.ofString "__next__") hit.ty RT.slot_rt_next (wpAny_call_entry RT.slot_rt_next hit.ty RT.entry_rt_next ?_ (RT.args_rt_next _))))
  unfold Builtin.«reversed.__next__»
  refine wpAny_bind (wpAny_of_eq (a := (Value.ref it, [])) rfl ?_); try dsimp only
  refine wpAny_bind (wpAny_field ho hd (x := .str z t) rfl ?_); try dsimp only
  refine wpAny_bind (wpAny_field ho hd (x := rawInt (i : Int)) rfl ?_)
  show wpAny _ _ (if (i : Int) < 0 then _ else _) _ _ s
  rw [if_neg (show ¬ (i : Int) < 0 by omega)]; try dsimp only
  refine wpAny_bind (wpAny_specialOf hT rv_get ?_); try dsimp only
  (try rw [if_neg (by decide)]); try dsimp only
  refine wpAny_bind (wpAny_mkInt ?_)
  refine wpAny_bind (wpAny_attempt ?_)
  have fin : (seqIndex? (i : Int) z.length).bind (z.cps[·]?) = some c := by
    rw [seqIndex_of (by omega) (by omega)]
    exact hc
  refine P.getItem_str (s := { s with toks := s.toks + 1 }) ?_ fin ?_
  · have h1 : ¬ (i : Int) < -(2 ^ 63 : Int) := by omega
    have h2 : ¬ (i : Int) ≥ 2 ^ 63 := by omega
    rw [decide_eq_false h1, decide_eq_false h2]
    rfl
  try dsimp only
  refine wpAny_bind (wpAny_field (s := { s with toks := s.toks + 1 + 1 }) ho hd (x := rawInt (i : Int)) rfl ?_); try dsimp only
  refine wpAny_bind (wpAny_setField (s := { s with toks := s.toks + 1 + 1 }) ho hd (by simp) ?_)
  have last : RvAt (s.heap.update it (Obj.mapFields (·.setIfInBounds 1 (rawInt ((i : Int) - 1))))) it z t ((i : Int) - 1) := by
    refine ⟨_, Heap.get?_update_self _ ho (Obj.isFreed_of_fields (Obj.data_mapFields hd _)), (Obj.cls_mapFields ..).trans hcl, ?_⟩
    rw [Obj.data_mapFields hd]
    simp
  first
  | exact wpAny_pure ⟨_, rfl, wpAny_pure (hQ _ _ last (Heap.SameBut.update ..))⟩
  | exact wpAny_bind (wpAny_pure (wpAny_pure ⟨_, rfl, wpAny_pure (hQ _ _ last (Heap.SameBut.update ..))⟩))
theorem rv_done {it : Addr} {z : Str} {t : Tok} {Q : Option Value → Shared → Prop} (hh : A.handled = none) (hit : RvAt s.heap it z t (-1)) (hQ : ∀ h', Heap.ExtBut it s.heap h' → Q none { s with heap := h' }) :
    wpAny (model prog w) A (pyNext (.ref it)) Q E s := by
  obtain ⟨o, ho, hcl, hd⟩ := id hit
  unfold pyNext
  refine wpAny_bind (wpAny_attempt (wpAny_callSpecial?_slot (name := Str.ofString "__next__") hit.ty RT.slot_rt_next (wpAny_call_entry RT.slot_rt_next hit.ty RT.entry_rt_next ?_ (RT.args_rt_next _))))
  unfold Builtin.«reversed.__next__»
  refine wpAny_bind (wpAny_of_eq (a := (Value.ref it, [])) rfl ?_); try dsimp only
  refine wpAny_bind (wpAny_field ho hd (x := .str z t) rfl ?_); try dsimp only
  refine wpAny_bind (wpAny_field ho hd (x := rawInt (-1)) rfl ?_)
  show wpAny _ _ (if (-1 : Int) < 0 then _ else _) _ _ s
  rw [if_pos (show (-1 : Int) < 0 by decide)]; try dsimp only
  refine wpAny_bind (wpAny_rule ?_)
  refine wpAny_bind ?_
  wp_delta
  refine wpAny_bind (wpAny_setField ho hd (by simp) ?_)
  have ho2 := Heap.get?_update_self (Obj.mapFields fun vs => vs.setIfInBounds 1 (rawInt (-1))) ho (Obj.isFreed_of_fields (Obj.data_mapFields hd _))
  refine wpAny_setField (s := { s with heap := s.heap.update it (Obj.mapFields fun vs => vs.setIfInBounds 1 (rawInt (-1))) }) ho2 (Obj.data_mapFields hd _) (by simp) ?_
  try dsimp only
  first
  | show wpAny _ _ (newExc (.type "StopIteration") [] >>= _) _ _ _
  | (refine wpAny_bind ?_
     show wpAny _ _ (newExc (.type "StopIteration") [] >>= _) _ _ _)
  | (refine wpAny_bind ?_
     wp_delta
     show wpAny _ _ (newExc (.type "StopIteration") [] >>= _) _ _ _)
  refine wpAny_bind ?_
  simp only [newExc, newTuple]
  refine wpAny_bind (wpAny_newObj_type ?_ (by size_fits))
  refine wpAny_bind (m := firstArgMember _ _) (wpAny_of_eq (a := Value.none) (by first | rfl | (simp only [firstArgMember]; rfl)) ?_)
  refine wpAny_newObj_type ?_ (by size_fits)
  simp only [raiseNew]
  refine wpAny_bind (wpAny_handled ?_)
  first | rw [show A.in1.handled = none from hh] | rw [hh]
  refine wpAny_bind (wpAny_pure (wpAny_throw ?_))
  refine wpAny_bind (wpAny_isInstance (T := "StopIteration") (b := true) ⟨_, Heap.get?_push_size _ rfl, rfl⟩ isSubtype_stop ?_)
  refine wpAny_pure (hQ _ (Heap.ExtBut.push (Heap.ExtBut.push ?_ _) _))
  intro b ob hb e
  have h1 := Heap.get?_update_other s.heap (Obj.mapFields fun vs => vs.setIfInBounds 1 (rawInt (-1))) (Ne.symm hb)
  exact (Heap.get?_update_other _ _ (Ne.symm hb)).trans (h1.trans e)
theorem rv_iter {it : Addr} {z : Str} {t : Tok} {i : Int} {Q : Value → Shared → Prop} (hit : RvAt s.heap it z t i) (h : Q (.ref it) s) : wpAny (model prog w) A (pyIter (.ref it)) Q E s := by
  refine wpAny_pyIter_slot hit.ty RT.slot_rt_iter ?_
  refine wpAny_call_entry RT.slot_rt_iter hit.ty RT.entry_rt_iter ?_ (RT.args_rt_iter _)
  exact wpAny_pure ⟨_, rfl, "reversed", _, hit.ty, RT.slot_rt_next.lookup, h⟩
end
/-- its turns -/
def ItsR (z : Str) : It := ⟨fun i _ => i < z.length, fun i H v H' => H' = H ∧ ∃ c, z.cps[z.length - 1 - i]? = some c ∧ v = .str ⟨#[c]⟩, fun i _ => z.length ≤ i⟩
theorem turn_rv {P : Program} {w : World} {K : PySem.W.Frag} {tg : Expr} (it : Addr) (z : Str) (t : Tok) (hz : z.length ≤ sizeLine) : Turn P w K tg (ItsR z) [it] it (fun i h => i ≤ z.length ∧ RvAt h it z t ((z.length : Int) - 1 - (i : Nat))) where
  mem := by simp
  obj := fun i h st b hb => by
    obtain rfl : b = it := by simpa using hb
    obtain ⟨_, o, e, c, d⟩ := st
    refine ⟨o, e, fun v q => ?_⟩
    rw [d] at q
    cases q
  keep := fun i h h' st k => by
    obtain ⟨h0, o, e, r⟩ := st
    exact ⟨h0, o, k it (by simp) o e, r⟩
  item := by
    intro X hP hw hK hc i pins s σ H E I hf st hg
    subst hP hw hK
    have hg : i < z.length := hg
    obtain ⟨f0, f1, f2, f3, f4, f5⟩ := hf it (by simp)
    obtain ⟨_, hit⟩ := st
    have e1 : (z.length : Int) - 1 - ((i : Nat) : Int) = ((z.length - 1 - i : Nat) : Int) := by omega
    have hlt : z.length - 1 - i < z.cps.size := by
      show z.length - 1 - i < z.length
      omega
    rw [e1] at hit
    refine rv_item hit (Array.getElem?_eq_getElem hlt) hz fun h' u st' sb => ?_
    have e2 : ((z.length - 1 - i : Nat) : Int) - 1 = (z.length : Int) - 1 - ((i + 1 : Nat) : Int) := by omega
    rw [e2] at st'
    have I1 : Inv X pins σ H { s with heap := h', toks := s.toks + 1 + 1 } := I.turned (fun b o hb e => (sb.2 b hb).trans e) f0 f1 f3 f4 f5
    obtain ⟨o, e, c, d⟩ := id st'
    refine ⟨_, rfl, go_of (s := { s with heap := h', toks := s.toks + 1 + 1 }) e c d (by decide) ?_⟩
    exact ⟨.str ⟨#[z.cps[z.length - 1 - i]]⟩, H, I1, ⟨u, rfl⟩, ⟨rfl, _, Array.getElem?_eq_getElem hlt, rfl⟩, ⟨hg, st'⟩, fun b hb => (hf b hb).1⟩
  done := by
    intro X hP hw hK hc i pins s σ H E I hf st hg
    subst hP hw hK
    have hg : z.length ≤ i := hg
    obtain ⟨f0, f1, f2, f3, f4, f5⟩ := hf it (by simp)
    obtain ⟨h0, hit⟩ := st
    have e1 : (z.length : Int) - 1 - ((i : Nat) : Int) = -1 := by omega
    rw [e1] at hit
    exact rv_done (I.ok.hd hc) hit fun h' eb => ⟨rfl, I.turned (t' := s.toks) (fun b o hb e => eb b o hb e) f0 f1 f3 f4 f5⟩
  self := fun A i s Q E st h => rv_iter st.2 h
def iRevS (te : TE) : TI := fun σ H R => te σ H fun v H1 => ∃ z : Str, v = .str z ∧ z.length ≤ sizeLine ∧ R (ItsR z) H1
theorem pi_revS {X : Cx} {tg e : Expr} {te : TE} {p pos : Pos} (hg : Gl X "reversed") (hm : X.mg "reversed" = none) (he : PE X e te) (hs : starEach [e] X.env = (false, eval e X.env) :: starEach [] X.env := by rfl) :
    PI X tg (.Call (.Name "reversed" p) [e] [] pos) (iRevS te) := by
  refine ⟨fun pins s σ H R I h => ?_⟩
  refine Call_ (ld_blt I hg hm PyProof.Rows.boot_reversed (PyProof.Rows.callWith_type1 (args_cons (thn (he.run pins s σ H _ I h) fun u s1 q0 => args_nil ?_) hs) hs rfl))
  obtain ⟨v, H1, I1, r1, z, rfl, hz, q⟩ := q0
  obtain ⟨t, rfl⟩ := r1
  have e1 : ((z.length : Nat) : Int) - 1 = (z.length : Int) - 1 - ((0 : Nat) : Int) := by omega
  refine rv_call hz (rv_iter (z := z) (t := t) (i := (z.length : Int) - 1) ⟨_, Heap.get?_push_size _ rfl, rfl, rfl⟩ ?_)
  refine pi_one (tk := s1.toks + 1 + 1) I1 _ (turn_rv _ z t hz) ⟨Nat.zero_le _, ?_⟩ q
  rw [← e1]
  exact ⟨_, Heap.get?_push_size _ rfl, rfl, rfl⟩
theorem walk_revS {z : Str} : Walk (ItsR z) z.length (fun _ => True) (fun i H v H' => H' = H ∧ ∃ c, z.cps[z.length - 1 - i]? = some c ∧ v = .str ⟨#[c]⟩) :=
  ⟨fun _ _ hi _ => hi, fun _ _ => Nat.le_refl _, fun _ _ _ _ _ _ y => y⟩
end Hr
/-! ### a text or none of it; isinstance of an error or of another thing -/
namespace Hr
open PySem PySem.Spec PyProof.Rows L2
def rMulB : R2 := fun x y H Q => ∃ (z : Str) (b : Bool), x = .str z ∧ y = .int (if b = true then 1 else 0) ∧ z.length ≤ 1000 ∧ Q (.str (if b = true then z else "")) H
theorem op_mul_bit {X : Cx} : OpR X (binaryOp .Mult) rMulB := by
  intro pins s σ H x y v u Q I rx ry h
  obtain ⟨z, b, rfl, rfl, hz, q⟩ := h
  obtain ⟨t, rfl⟩ := rx
  cases b with
  | false =>
    obtain ⟨t', rfl⟩ : ∃ t', u = .int 0 t' := ry
    refine PySem.P.mul_str (by rfl) (fun h1 _ => ?_) (fun h1 _ => ?_) ?_
    · exact absurd h1 (by decide)
    · exact absurd h1 (by decide)
    · rw [if_pos (by decide)]
      exact ⟨by decide, .str ⟨#[]⟩, H, I.tok _, ⟨_, rfl⟩, by
        have q : Q (.str "") H := q
        rw [eE] at q
        exact q⟩
  | true =>
    obtain ⟨t', rfl⟩ : ∃ t', u = .int 1 t' := ry
    refine PySem.P.mul_str (by rfl) (fun h1 _ => ?_) (fun h1 _ => ?_) ?_
    · have e : ((2 ^ 63 - 1 : Int)) / 1 = 2 ^ 63 - 1 := Int.ediv_one _
      rw [e]
      omega
    · show decide (sizeLine < z.length * (1 : Int).toNat) = false
      refine decide_eq_false ?_
      have := sz (show z.length ≤ 1000000 by omega)
      show ¬ sizeLine < z.length * 1
      omega
    · rw [if_neg (by decide), if_pos (by rfl)]
      exact ⟨.str z, H, I, ⟨_, rfl⟩, q⟩
theorem call_isE {X : Cx} : CallR X (.builtin "isinstance") (fun xs H Q => rIsT X.K xs H Q ∨ rIsi X.K xs H Q) := by
  intro pins s σ H xs us Q I r h
  rcases h with h | h
  · exact call_isT pins s σ H xs us Q I r h
  · exact call_isi pins s σ H xs us Q I r h
end Hr
/-! ### mirrored -/
namespace Hr
open PySem PySem.Spec PyProof.Rows L2
theorem scMir : FnScope ["row", "sign"] ["row"] (defScope s_mirrored) := ⟨rfl, rfl, rfl, by decide +kernel, rfl, by decide +kernel, by decide +kernel⟩
theorem hill_row {z : Str} (h : hillB none z = true) : ∃ l, z = txt l ∧ okb none 0 l = true := by
  obtain ⟨h1, h2⟩ := Bool.and_eq_true_iff.mp h
  exact ⟨signs z, (txt_signs h1).symm, h2⟩
theorem mir_get (l : List Bool) {i : Nat} {b : Bool} (hi : i < l.length) (h : l[l.length - 1 - i]? = some b) : (mir l)[i]? = some (!b) := by
  unfold mir
  rw [List.getElem?_map, List.getElem?_reverse hi, h]
  rfl
section
variable {P : Program} {w : World} {K : PySem.W.Frag} {mg : Str → Option Value} {base : Heap} {CN : Addr}
def spMirX (CN : Addr) : Sp := fun vs H Q E => ∃ z : Str, vs = [.str z] ∧ z.length ≤ 1000 ∧ (∀ l, z = txt l → okb none 0 l = true → ∀ H', Same H H' → Q (.str (txt (mir l))) H') ∧ (hillB none z = false → ∀ H', Same H H' → E (.ref CN) none H')
theorem cal_mirX (D : Def K mg "mirrored" s_mirrored ["row"]) (C : Cal K mg (L2.CX P w) P w base 4 "check_hill" [.non] (spChHillX CN)) (m_reversed : mg "reversed" = none) {t1 t2 : Tok} (c_UP : mg "UP" = some (.str "u" t1)) (c_DOWN : mg "DOWN" = some (.str "d" t2)) : Cal K mg (L2.CX P w) P w base 5 "mirrored" [] (spMirX CN) := by
  refine D.calX scMir (fun vs H Q E h => ?_) (fun f cdv A outer s H vs Q E hr h => ?_)
  · obtain ⟨z, rfl, _⟩ := h
    rfl
  · obtain ⟨z, rfl, hz, q, qe⟩ := h
    have nd := scMir.nd
    refine ⟨_, (pss_cons (ps_expr (pe_cX C hr (takes_of rfl rfl rfl rfl) (pa_cons (pv 0) pa_nil)))
    (pss_one (ps_ret (pe_join pe_str (pe_lc (own := [("sign", 1)]) (g := gName 1) (tt := tYes) rfl nd (pi_revS (by rfl) m_reversed (pv 0)) (blkOk_by (N := ["row", "sign"]) (sc := defScope s_mirrored) (by decide +kernel)) (fun _ _ _ _ _ => (pg_name (i := 1) nd rfl (Or.inl rfl) (Or.inr rfl))) (fun _ _ _ _ _ => pts_nil) (fun _ _ _ _ _ => (pe_ifExp (pt_cmpR op_eq (pv 1) (pe_glob (v := .str "u") (by rfl) c_UP ⟨_, rfl⟩) (nomark _)) (pe_glob (v := .str "d") (by rfl) c_DOWN ⟨_, rfl⟩) (pe_glob (v := .str "u") (by rfl) c_UP ⟨_, rfl⟩)))))))), ?_⟩
    refine ⟨.str z, rfl, z, none, rfl, hz, fun hh H1 s1 => ?_, fun hh => qe hh⟩
    obtain ⟨l, rfl, ok⟩ := hill_row hh
    have hzl : (txt l).length = l.length := txt_len l
    refine ⟨⟨_, rfl⟩, .str (txt l), rfl, txt l, rfl, sz (by rw [hzl]; omega), fun D nD => ?_⟩
    have n0 : H D = none := s1.free nD
    refine lc_it walk_revS (fun i H' => Same H H' ∧ H' D = some (.lst (((mir l).take i).map fun b => V.str (sgn b)))) ⟨same_updN s1 n0, upd_same⟩ (fun _ _ _ _ => trivial) ?_ ?_
    · rintro i x H2 H3 hi ⟨sm, eD⟩ ⟨rfl, c, hc, rfl⟩
      rw [hzl] at hi hc
      rw [txt_at] at hc
      obtain ⟨b, hb, rfl⟩ := Option.map_eq_some_iff.mp hc
      have hm := mir_get l hi hb
      refine ⟨rfl, ?_⟩
      unfold tYes
      refine iteT ?_
      have hsz : (((mir l).take i).map fun b => V.str (sgn b)).length < sizeLine := szl (by
        rw [List.length_map, List.length_take]
        omega)
      have fin : (((mir l).take (i + 1)).map fun b => V.str (sgn b)) = (((mir l).take i).map fun b => V.str (sgn b)) ++ [.str (sgn (!b))] := by
        rw [take_snoc hm, List.map_append]
        rfl
      refine ⟨.str ⟨#[code b]⟩, rfl, rfl, decide (code b = 117), congrArg V.bl (is_u _), ?_⟩
      rw [code_u]
      cases b with
      | true =>
        refine iteT ?_
        refine ⟨_, eD, hsz, same_updN sm n0, ?_⟩
        rw [upd_same, fin]
        rfl
      | false =>
        refine iteF ?_
        refine ⟨_, eD, hsz, same_updN sm n0, ?_⟩
        rw [upd_same, fin]
        rfl
    · rintro H2 ⟨sm, eD⟩
      rw [hzl, List.take_of_length_le (by rw [mir_len]; exact Nat.le_refl _)] at eD
      refine ⟨"", D, (mir l).map sgn, rfl, rfl, .inl (.inl (.inl (by rw [List.map_map]; exact eD))), ?_, ?_⟩
      · rw [sgn_sum, mir_len, len_E]
        omega
      · rw [join_signs]
        exact q l rfl ok H2 sm
end
end Hr
/-! ### the law -/
namespace Hr
open PySem PySem.Spec PyProof.Rows L2
theorem scAsked : FnScope ["_law_way", "_law_thing", "_law_times", "_law_found", "_law_error"] ["_law_way", "_law_thing", "_law_times"] (defScope sAsked) := ⟨rfl, rfl, rfl, by decide +kernel, rfl, by decide +kernel, by decide +kernel⟩
section
variable {P : Program} {w : World} {K : PySem.W.Frag} {mg : Str → Option Value} {base : Heap} {cs : Nat → Addr}
/-- what is refused, by the k-th class -/
inductive Bad11 (K : PySem.W.Frag) (H : Hp) : V → V → V → Nat → Prop where
  | joined {a : Addr} {zs : List Str} {z : Str} {v : V} : SqL K H a (zs.map V.str) → zs.length ≤ 1000 → (∀ z ∈ zs, z.length ≤ 1000) → z ∈ zs → hillB none z = false → Bad11 K H (.int 0) (.ref a) v 0
  | row {z : Str} {v : V} : z.length ≤ 1000 → flatV v = true → hillB none z = false → Bad11 K H (.int 1) (.str z) v 0
  | times {z : Str} {v : V} : z.length ≤ 1000 → flatV v = true → hillB none z = true → numB v 200 = false → Bad11 K H (.int 1) (.str z) v 1
  | mirrored {z : Str} {v : V} : z.length ≤ 1000 → hillB none z = false → Bad11 K H (.int 2) (.str z) v 0
def spAsked (K : PySem.W.Frag) : Sp := fun vs H Q _ => ∃ (i x v : V) (k : Nat), vs = [i, x, v] ∧ Bad11 K H i x v k ∧ ∀ H', Same H H' → Q (.str (wordAt k)) H'
theorem cal_asked {CH : Addr} (D : Def K mg "_law_asked" sAsked ["_law_way", "_law_thing", "_law_times"]) (gH : mg "HillError" = some (.ref CH)) (er0 : IsErr K cs 0) (er1 : IsErr K cs 1) (ex0 : PySem.W.exmOne K (.ref (cs 0)) (.ref CH) = some true) (ex1 : PySem.W.exmOne K (.ref (cs 1)) (.ref CH) = some true)
    (c_joined : Cal K mg (L2.CX P w) P w base 5 "joined" [] (spJoinedX K (cs 0))) (c_lifted : Cal K mg (L2.CX P w) P w base 5 "lifted" [] (spLiftedX (cs 0) (cs 1))) (c_mirrored : Cal K mg (L2.CX P w) P w base 5 "mirrored" [] (spMirX (cs 0))) (c_word : Cal K mg CX0 P w base 1 "_law_word" [] (spWord K cs)) (misi : mg "isinstance" = none) (mve : mg "ValueError" = none) (m_int : mg "int" = none) :
    Cal K mg CX0 P w base 6 "_law_asked" [] (spAsked K) := by
  refine D.cal scAsked (fun vs H Q E h => ?_) (fun f cdv A outer s H vs Q E hr h => ?_)
  · obtain ⟨i, x, v, k, rfl, _⟩ := h
    rfl
  · obtain ⟨i, x, v, k, rfl, bad, q⟩ := h
    have nd := scAsked.nd
    refine ⟨_, pss_cons (ps_set (i := 3) nd rfl (.inl rfl) pe_non)
      (pss_cons (kept_try (i := 4) (c := .ref CH) (tb := fun W => tIfS (tTest (tOp rEq (tVar 0) (tC (.int 0)))) (tDrop (tCallS (spJoinedX K (cs 0)) (WE W) (tCons (tVar 1) tNil))) (tIfS (tTest (tOp rEq (tVar 0) (tC (.int 1)))) (tDrop (tCallS (spLiftedX (cs 0) (cs 1)) (WE W) (tCons (tVar 1) (tCons (tVar 2) tNil)))) (tDrop (tCallS (spMirX (cs 0)) (WE W) (tCons (tVar 1) tNil))))) (ts := fun _ => tAsg (tVar 4) (gName 3)) rfl rfl rfl nd rfl rfl ⟨rfl, by decide, .inl gH⟩
          (fun W pn xe tk po => pss_one (ps_if (pt_cmpR op_eq (pv 0) pe_int (nomark _)) (pss_one (ps_expr (by exact (pe_cT c_joined hr tk (pa_cons (pv 1) pa_nil))))) (pss_one (ps_if (pt_cmpR op_eq (pv 0) pe_int (nomark _)) (pss_one (ps_expr (by exact (pe_cT c_lifted hr tk (pa_cons (pv 1) (pa_cons (pv 2) pa_nil)))))) (pss_one (ps_expr (by exact (pe_cT c_mirrored hr tk (pa_cons (pv 1) pa_nil)))))))))
          (fun a q => pss_one (ps_set (i := 3) nd rfl (.inl rfl) (pv 4))))
      (pss_one (ps_ret (pe_op op_mul_bit (pe_c c_word hr (pa_cons (pv 3) pa_nil)) (pe_callTy call_int1 (by rfl) m_int boot_int (pa_cons (pe_callB call_isT (by rfl) misi (by decide +kernel) (pa_cons (pv 3) (pa_cons (pe_bltn (v := .ty "ValueError") (u := .type "ValueError") (by rfl) mve (by decide +kernel) rfl) pa_nil))) pa_nil)))))), ?_⟩
    have wl : ∀ j, j < 8 → (wordAt j).length ≤ 1000 := by decide +kernel
    have e01 : decide (V.int 1 = V.int 0) = false := by decide
    have e20 : decide (V.int 2 = V.int 0) = false := by decide
    have e21 : decide (V.int 2 = V.int 1) = false := by decide
    have fin : ∀ j, (j = 0 ∨ j = 1) → (∀ H', Same H H' → Q (.str (wordAt j)) H') → ∀ H1 : Hp, Same H H1 → ∀ a, H1 a = none → ∀ H2, Same (upd H1 a (ExT (.ref (cs j)) none a)) H2 → Q (.str (wordAt j)) H2 := fun j hj q H1 s1 a na H2 s2 => q H2 ((s1.trans (same_upd na)).trans s2)
    cases bad with
    | joined hS hn hz hm hb =>
      refine ⟨_, rfl, rfl, _, rfl, iteT ?_⟩
      refine ⟨_, rfl, _, _, rfl, hS, hn, hz, fun all => absurd ((all _ hm).symm.trans hb) (by decide), fun _ H1 s1 => ⟨ex0, fun a na => ?_⟩⟩
      refine ⟨_, rfl, ?_⟩
      refine ⟨_, rfl, a, 0, rfl, upd_same, er0, fun H2 s2 => ?_⟩
      have ea := s2 _ _ (upd_same : (upd H1 a (ExT (.ref (cs 0)) none a)) a = some (ExT (.ref (cs 0)) none a))
      exact ⟨_, rfl, a, cs 0, _, _, _, rfl, ea, er0.c, fun u hu => hu, er0.ve, .inr ⟨_, rfl, _, true, rfl, rfl, wl 0 (by decide), fin 0 (.inl rfl) q H1 s1 a na H2 s2⟩⟩
    | row hz hv hb =>
      refine ⟨_, rfl, rfl, _, rfl, ?_⟩
      rw [e01]
      refine iteF ?_
      refine ⟨_, rfl, rfl, _, rfl, iteT ?_⟩
      refine ⟨_, rfl, _, rfl, _, _, rfl, hv, hz, fun hh => absurd (hh.symm.trans hb) (by decide), fun _ H1 s1 => ⟨ex0, fun a na => ?_⟩, fun hh => absurd (hh.symm.trans hb) (by decide)⟩
      refine ⟨_, rfl, ?_⟩
      refine ⟨_, rfl, a, 0, rfl, upd_same, er0, fun H2 s2 => ?_⟩
      have ea := s2 _ _ (upd_same : (upd H1 a (ExT (.ref (cs 0)) none a)) a = some (ExT (.ref (cs 0)) none a))
      exact ⟨_, rfl, a, cs 0, _, _, _, rfl, ea, er0.c, fun u hu => hu, er0.ve, .inr ⟨_, rfl, _, true, rfl, rfl, wl 0 (by decide), fin 0 (.inl rfl) q H1 s1 a na H2 s2⟩⟩
    | times hz hv hh hb =>
      refine ⟨_, rfl, rfl, _, rfl, ?_⟩
      rw [e01]
      refine iteF ?_
      refine ⟨_, rfl, rfl, _, rfl, iteT ?_⟩
      refine ⟨_, rfl, _, rfl, _, _, rfl, hv, hz, fun _ k hk hk2 => ?_, fun hf => absurd (hh.symm.trans hf) (by decide), fun _ _ H1 s1 => ⟨ex1, fun a na => ?_⟩⟩
      · rw [hk, numB_nat (by omega)] at hb
        cases hb
      refine ⟨_, rfl, ?_⟩
      refine ⟨_, rfl, a, 1, rfl, upd_same, er1, fun H2 s2 => ?_⟩
      have ea := s2 _ _ (upd_same : (upd H1 a (ExT (.ref (cs 1)) none a)) a = some (ExT (.ref (cs 1)) none a))
      exact ⟨_, rfl, a, cs 1, _, _, _, rfl, ea, er1.c, fun u hu => hu, er1.ve, .inr ⟨_, rfl, _, true, rfl, rfl, wl 1 (by decide), fin 1 (.inr rfl) q H1 s1 a na H2 s2⟩⟩
    | mirrored hz hb =>
      refine ⟨_, rfl, rfl, _, rfl, ?_⟩
      rw [e20]
      refine iteF ?_
      refine ⟨_, rfl, rfl, _, rfl, ?_⟩
      rw [e21]
      refine iteF ?_
      refine ⟨_, rfl, _, rfl, hz, fun l hl ok => ?_, fun _ H1 s1 => ⟨ex0, fun a na => ?_⟩⟩
      · rw [hl, row_hillB ok] at hb
        cases hb
      refine ⟨_, rfl, ?_⟩
      refine ⟨_, rfl, a, 0, rfl, upd_same, er0, fun H2 s2 => ?_⟩
      have ea := s2 _ _ (upd_same : (upd H1 a (ExT (.ref (cs 0)) none a)) a = some (ExT (.ref (cs 0)) none a))
      exact ⟨_, rfl, a, cs 0, _, _, _, rfl, ea, er0.c, fun u hu => hu, er0.ve, .inr ⟨_, rfl, _, true, rfl, rfl, wl 0 (by decide), fin 0 (.inl rfl) q H1 s1 a na H2 s2⟩⟩
end
end Hr
namespace Hr
open PySem PySem.Spec PyProof.Rows L2
abbrev nLaw : List Str := ["_law_script", "_law_some", "_law_mark", "_law_rows", "_law_handed", "_law_times", "_law_row_here", "_law_high", "_law_turned", "_law_wrong", "_law_bad", "_law_k", "_law_one"]
theorem scLaw : FnScope nLaw ["_law_script"] (defScope sLaw) := ⟨rfl, rfl, rfl, by decide +kernel, rfl, by decide +kernel, by decide +kernel⟩
def rowsV (ls : List (List Bool)) : List V := ls.map fun l => V.str (txt l)
theorem rowsV_snoc (ls : List (List Bool)) (l : List Bool) : rowsV (ls ++ [l]) = rowsV ls ++ [.str (txt l)] := by
  unfold rowsV
  rw [List.map_append]
  rfl
theorem rowsV_strs (ls : List (List Bool)) : rowsV ls = (ls.map txt).map V.str := by
  unfold rowsV
  rw [List.map_map]
  rfl
theorem cutV_rows (ls : List (List Bool)) (k : Nat) : cutV (rowsV ls) none (some (k : Int)) = rowsV (ls.take k) := by
  unfold cutV rowsV
  rw [HT.sIx_none, HT.sIx_nat, List.length_map, List.drop_zero, Nat.sub_zero, ← List.map_take]
  by_cases h : k ≤ ls.length
  · rw [Nat.min_eq_left h]
  · rw [Nat.min_eq_right (by omega), List.take_of_length_le (Nat.le_refl _), List.take_of_length_le (by omega)]
/-- a hill row of up to 60 ups -/
def okL (l : List Bool) : Prop := okb none 0 l = true ∧ l.length ≤ 120
theorem okL_of {c : Option Nat} {n : Nat} {l : List Bool} (h : Hill c n l) (hn : n ≤ 60) : okL l := ⟨okb_any h.1, by rw [h.2]; omega⟩
theorem cutV_mid_ints (xs : List Int) (k m : Nat) : cutV (xs.map V.int) (some (k : Int)) (some ((k : Int) + (m : Int))) = ((xs.drop k).take m).map V.int := by
  unfold cutV
  rw [HT.sIx_nat, show (k : Int) + (m : Int) = ((k + m : Nat) : Int) by omega, HT.sIx_nat, List.length_map, ← List.map_drop, ← List.map_take]
  congr 1
  by_cases h : k ≤ xs.length
  · rw [Nat.min_eq_left h]
    by_cases h2 : k + m ≤ xs.length
    · rw [Nat.min_eq_left h2, Nat.add_sub_cancel_left]
    · rw [Nat.min_eq_right (by omega), List.take_of_length_le (by rw [List.length_drop]; exact Nat.le_refl _), List.take_of_length_le (by rw [List.length_drop]; omega)]
  · rw [List.drop_of_length_le (by omega), List.drop_of_length_le (by omega), List.take_nil, List.take_nil]
theorem three_at {j : Int} {l1 l2 l3 : List Bool} (h1 : okL l1) (h2 : okL l2) (h3 : okL l3) (hj : 0 ≤ j ∧ j < 3) : ∃ (i : Nat) (l : List Bool), j = (i : Int) ∧ (rowsV [l1, l2, l3])[i]? = some (.str (txt l)) ∧ okL l := by
  obtain ⟨i, rfl⟩ : ∃ i : Nat, j = (i : Int) := ⟨j.toNat, by omega⟩
  match i, hj with
  | 0, _ => exact ⟨0, l1, rfl, rfl, h1⟩
  | 1, _ => exact ⟨1, l2, rfl, rfl, h2⟩
  | 2, _ => exact ⟨2, l3, rfl, rfl, h3⟩
  | i + 3, hj => omega
theorem wrong_at {j : Int} {l : List Bool} (h : okL l) (hj : 0 ≤ j ∧ j < 4) : ∃ (i : Nat) (z : Str), j = (i : Int) ∧ ([V.str (txt l ++ "u"), .str "du", .str "x", .str ("d" ++ txt l)])[i]? = some (.str z) ∧ z.length ≤ 1000 ∧ hillB none z = false := by
  obtain ⟨i, rfl⟩ : ∃ i : Nat, j = (i : Int) := ⟨j.toNat, by omega⟩
  have l1 : ("u" : Str).length = 1 := by decide +kernel
  have l2 : ("d" : Str).length = 1 := by decide +kernel
  have hl := h.2
  match i, hj with
  | 0, _ => exact ⟨0, _, rfl, rfl, by rw [PySem.Str.length_append, txt_len, l1]; omega, wrong_u h.1⟩
  | 1, _ => exact ⟨1, _, rfl, rfl, by decide +kernel, by decide +kernel⟩
  | 2, _ => exact ⟨2, _, rfl, rfl, by decide +kernel, by decide +kernel⟩
  | 3, _ => exact ⟨3, _, rfl, rfl, by rw [PySem.Str.length_append, txt_len, l2]; omega, wrong_d _⟩
  | i + 4, hj => omega
theorem bad_at {j : Int} (hj : 0 ≤ j ∧ j < 4) : ∃ (i : Nat) (v : V), j = (i : Int) ∧ ([V.int (-1), .int 201, .bl true, .non])[i]? = some v ∧ flatV v = true ∧ numB v 200 = false := by
  obtain ⟨i, rfl⟩ : ∃ i : Nat, j = (i : Int) := ⟨j.toNat, by omega⟩
  match i, hj with
  | 0, _ => exact ⟨0, _, rfl, rfl, rfl, by decide⟩
  | 1, _ => exact ⟨1, _, rfl, rfl, rfl, by decide⟩
  | 2, _ => exact ⟨2, _, rfl, rfl, rfl, rfl⟩
  | 3, _ => exact ⟨3, _, rfl, rfl, rfl, rfl⟩
  | i + 4, hj => omega
theorem ne_self (z : Str) : (!decide (V.str z = V.str z)) = false := by
  rw [decide_eq_true rfl]
  rfl
theorem lift_txt (k : Nat) (l : List Bool) : txt (List.replicate k true) ++ txt l ++ txt (List.replicate k false) = txt (lift k l) := by
  rw [txt_append, txt_append]
  rfl
section
variable {P : Program} {w : World} {K : PySem.W.Frag} {mg : Str → Option Value} {base : Heap} {cs : Nat → Addr} {CN CC : Addr}
def spLaw (K : PySem.W.Frag) : Sp := fun vs H Q _ => ∃ (a : Addr) (ns : List Int), vs = [.ref a] ∧ SqL K H a (ns.map V.int) ∧ ns.length ≤ 63 ∧ ∀ H', Q (.bl true) H'
set_option maxHeartbeats 2000000 in
theorem ok_law {f : Addr} {fd : FuncData} (F : Fun K "law" "law" sLaw f fd) (c_law_row : Cal K mg CX0 P w base 2 "_law_row" [] (spLRow K)) (c_law_number : Cal K mg CX0 P w base 2 "_law_number" [] (spNumber K)) (c_heights : Cal K mg (L2.CX P w) P w base 2 "heights" [] (spHeightsX CN)) (c_is_hill1 : Cal K mg CX0 P w base 3 "is_hill" [.non] spIsHill)
    (c_joined : Cal K mg (L2.CX P w) P w base 5 "joined" [] (spJoinedX K CN)) (c_lifted : Cal K mg (L2.CX P w) P w base 5 "lifted" [] (spLiftedX CN CC)) (c_lifted1 : Cal K mg (L2.CX P w) P w base 5 "lifted" [.int 1] (spLiftedX CN CC)) (c_mirrored : Cal K mg (L2.CX P w) P w base 5 "mirrored" [] (spMirX CN)) (c_law_asked : Cal K mg CX0 P w base 6 "_law_asked" [] (spAsked K))
    (m_len : mg "len" = none) (m_list : mg "list" = none) : FnOk P w K mg base CX0 7 f fd ["_law_script"] (spLaw K) := by
  refine F.ok scLaw (fun vs H Q E h => ?_) (fun cdv A outer s H vs Q E hr h => ?_)
  · obtain ⟨a, ns, rfl, _⟩ := h
    rfl
  · obtain ⟨a, ns, rfl, hS, hlen, q⟩ := h
    have nd := scLaw.nd
    refine ⟨_, (pss_cons (ps_set (i := 1) nd rfl (.inr rfl) (pe_lst (pa_cons (pe_c c_law_row hr (pa_cons (pv 0) (pa_cons pe_non pa_nil))) (pa_cons (pe_c c_law_row hr (pa_cons (pe_revL (pv 0)) (pa_cons pe_int pa_nil))) (pa_cons (pe_c c_law_row hr (pa_cons (pe_slice sl_list (pv 0) po_none (po_some pe_int)) (pa_cons pe_int pa_nil))) pa_nil)))))
    (pss_cons (ps_set (i := 2) nd rfl (.inr rfl) (pe_c c_law_number hr (pa_cons (pv 0) (pa_cons pe_int pa_nil))))
    (pss_cons (ps_set (i := 3) nd rfl (.inl rfl) (pe_slice sl_list (pe_lc (own := [("_law_k", 11)]) (g := gName 11) (tt := tYes) rfl nd (pi_tup (pe_tup (pa_cons pe_int (pa_cons pe_int (pa_cons pe_int pa_nil))))) (blkOk_by (N := nLaw) (sc := defScope sLaw) (by decide +kernel)) (fun _ _ _ _ _ => (pg_name (i := 11) nd rfl (Or.inl rfl) (Or.inr rfl))) (fun _ _ _ _ _ => pts_nil) (fun _ _ _ _ _ => (pe_ix (r := rIxL K) ix_list (pv 1) (pe_op op_mod (pe_op op_fdiv (pv 2) (pe_ix (r := rIxL K) ix_list (pe_lst (pa_cons pe_int (pa_cons pe_int (pa_cons pe_int pa_nil)))) (pv 11) (fun _ _ => rfl))) pe_int) (fun _ _ => rfl)))) po_none (po_some (pe_op op_mod (pe_op op_fdiv (pv 2) pe_int) pe_int))))
    (pss_cons (ps_set (i := 4) nd rfl (.inl rfl) (pe_callTy call_list_of (by rfl) m_list (by decide +kernel) (pa_cons (pv 3) pa_nil)))
    (pss_cons (ps_if (PW.pt (pw_or (pt_cmpR op_ne (pe_cL c_joined hr (pa_cons (pv 4) pa_nil)) (pe_join pe_str (pv 3)) (nomark _)) (pw_or (pt_cmpR (op_neD hr.units) (pv 4) (pv 3) (nomark _)) (pw_or1 (pt_not (pt_val (pe_c c_is_hill1 hr (pa_cons (pe_cL c_joined hr (pa_cons (pv 3) pa_nil)) pa_nil)))))))) (pss_one (ps_ret pe_bl)) pss_nil)
    (pss_cons (ps_set (i := 5) nd rfl (.inr rfl) (pe_op op_mod (pe_op op_fdiv (pv 2) pe_int) pe_int))
    (pss_cons (ps_set (i := 6) nd rfl (.inl rfl) (pe_ix ix_list (pv 1) pe_int (fun _ _ => rfl)))
    (pss_cons (ps_set (i := 7) nd rfl (.inl rfl) (pe_cL c_heights hr (pa_cons (pv 6) pa_nil)))
    (pss_cons (ps_if (pt_cmpR (op_neD hr.units) (pe_slice sl_list (pe_cL c_heights hr (pa_cons (pe_cL c_lifted hr (pa_cons (pv 6) (pa_cons (pv 5) pa_nil))) pa_nil)) (po_some (pv 5)) (po_some (pe_op op_add (pv 5) (pe_callB call_len_seq (by rfl) m_len PySem.boot_len (pa_cons (pv 7) pa_nil))))) (pe_lc (own := [("_law_one", 12)]) (g := gName 12) (tt := tYes) rfl nd (pi_list (pv 7)) (blkOk_by (N := nLaw) (sc := defScope sLaw) (by decide +kernel)) (fun _ _ _ _ _ => (pg_name (i := 12) nd rfl (Or.inl rfl) (Or.inr rfl))) (fun _ _ _ _ _ => pts_nil) (fun _ _ _ _ _ => (pe_op op_add (pv 12) (pv 5)))) (nomark _)) (pss_one (ps_ret pe_bl)) pss_nil)
    (pss_cons (ps_if (PW.pt (pw_or (pt_cmpR op_ne (pe_cL c_lifted hr (pa_cons (pv 6) (pa_cons (pv 5) pa_nil))) (pe_op op_add_str (pe_op op_add_str (pe_op op_mul_sgn pe_str (pv 5)) (pv 6)) (pe_op op_mul_sgn pe_str (pv 5))) (nomark _)) (pw_or1 (pt_cmpR op_ne (pe_cL c_lifted1 hr (pa_cons (pv 6) pa_nil)) (pe_op op_add_str (pe_op op_add_str pe_str (pv 6)) pe_str) (nomark _))))) (pss_one (ps_ret pe_bl)) pss_nil)
    (pss_cons (ps_set (i := 8) nd rfl (.inl rfl) (pe_cL c_mirrored hr (pa_cons (pv 6) pa_nil)))
    (pss_cons (ps_if (PW.pt (pw_or (pt_not (pt_val (pe_c c_is_hill1 hr (pa_cons (pv 8) pa_nil)))) (pw_or (pt_cmpR (op_neD hr.units) (pe_cL c_heights hr (pa_cons (pv 8) pa_nil)) (pe_revL (pv 7)) (nomark _)) (pw_or1 (pt_cmpR op_ne (pe_cL c_mirrored hr (pa_cons (pv 8) pa_nil)) (pv 6) (nomark _)))))) (pss_one (ps_ret pe_bl)) pss_nil)
    (pss_cons (ps_if (pt_cmpR op_ne (pe_cL c_mirrored hr (pa_cons (pe_cL c_joined hr (pa_cons (pv 1) pa_nil)) pa_nil)) (pe_cL c_joined hr (pa_cons (pe_lc (own := [("_law_one", 12)]) (g := gName 12) (tt := tYes) rfl nd (pi_list (pe_revL (pv 1))) (blkOk_by (N := nLaw) (sc := defScope sLaw) (by decide +kernel)) (fun _ _ _ _ _ => (pg_name (i := 12) nd rfl (Or.inl rfl) (Or.inr rfl))) (fun _ _ _ _ _ => pts_nil) (fun _ _ _ _ _ => (pe_cL c_mirrored hr (pa_cons (pv 12) pa_nil)))) pa_nil)) (nomark _)) (pss_one (ps_ret pe_bl)) pss_nil)
    (pss_cons (ps_set (i := 9) nd rfl (.inl rfl) (pe_ix ix_list (pe_lst (pa_cons (pe_op op_add_str (pv 6) pe_str) (pa_cons pe_str (pa_cons pe_str (pa_cons (pe_op op_add_str pe_str (pv 6)) pa_nil))))) (pe_op op_mod (pe_op op_fdiv (pv 2) pe_int) pe_int) (fun _ _ => rfl)))
    (pss_cons (ps_if (PW.pt (pw_or (pt_cmpR op_ne (pe_c c_law_asked hr (pa_cons pe_int (pa_cons (pe_op op_cat (pe_op op_cat (pv 3) (pe_lst (pa_cons (pv 9) pa_nil))) (pv 3)) (pa_cons pe_int pa_nil)))) pe_str (nomark _)) (pw_or1 (pt_cmpR op_ne (pe_c c_law_asked hr (pa_cons pe_int (pa_cons (pv 9) (pa_cons pe_int pa_nil)))) pe_str (nomark _))))) (pss_one (ps_ret pe_bl)) pss_nil)
    (pss_cons (ps_if (PW.pt (pw_or (pt_cmpR op_ne (pe_c c_law_asked hr (pa_cons pe_int (pa_cons (pe_lst (pa_cons pe_str (pa_cons pe_str pa_nil))) (pa_cons pe_int pa_nil)))) pe_str (nomark _)) (pw_or1 (pt_cmpR op_ne (pe_c c_law_asked hr (pa_cons pe_int (pa_cons (pe_lst (pa_cons (pv 6) (pa_cons pe_str (pa_cons pe_str pa_nil)))) (pa_cons pe_int pa_nil)))) pe_str (nomark _))))) (pss_one (ps_ret pe_bl)) pss_nil)
    (pss_cons (ps_set (i := 10) nd rfl (.inl rfl) (pe_ix ix_list (pe_lst (pa_cons (pe_un un_neg pe_int) (pa_cons pe_int (pa_cons pe_bl (pa_cons pe_non pa_nil))))) (pe_op op_mod (pe_op op_fdiv (pv 2) pe_int) pe_int) (fun _ _ => rfl)))
    (pss_one (ps_ret (pe_and (pe_cmpR op_eq (pe_c c_law_asked hr (pa_cons pe_int (pa_cons (pv 6) (pa_cons (pv 10) pa_nil)))) pe_str (nomark _)) (pe_and (pe_cmpR op_eq (pe_c c_law_asked hr (pa_cons pe_int (pa_cons (pv 9) (pa_cons (pv 10) pa_nil)))) pe_str (nomark _)) (pe_one (pe_cmpR op_eq (pe_cL c_joined hr (pa_cons (pe_lst pa_nil) pa_nil)) pe_str (nomark _)))))))))))))))))))))))), ?_⟩
    refine ⟨.ref a, rfl, a, ns, none, rfl, hS, hlen, trivial, fun H1 l1 n1 s1 hl1 hn1 => ?_⟩
    refine ⟨.ref a, rfl, a, _, rfl, s1.seq hS, fun p2 np2 => ?_⟩
    rw [rev_ints]
    have s2 := s1.trans (same_upd (o := .lst (ns.reverse.map V.int)) np2)
    refine ⟨p2, ns.reverse, some 2, rfl, .inl (.inl upd_same), by rw [List.length_reverse]; omega, (by show 0 < 2; decide), fun H3 l2 n2 s3 hl2 hn2 => ?_⟩
    have s13 := s2.trans s3
    obtain ⟨m2, e2, hm2⟩ := cut_ints ns none (some 9)
    refine ⟨.ref a, rfl, 9, rfl, a, _, rfl, s13.seq hS, fun p3 np3 => ?_⟩
    rw [e2]
    have s4 := s13.trans (same_upd (o := .lst (m2.map V.int)) np3)
    refine ⟨p3, m2, some 1, rfl, .inl (.inl upd_same), by omega, (by show 0 < 1; decide), fun H5 l3 n3 s5 hl3 hn3 => ?_⟩
    have o1 := okL_of hl1 hn1
    have o2 := okL_of hl2 hn2
    have o3 := okL_of hl3 hn3
    have s6 := s4.trans s5
    clear s1 s2 s3 s13 s4 s5 hl1 hn1 hl2 hn2 hl3 hn3 np2 np3
    refine ⟨sz (show 3 ≤ 1000000 by decide), fun p np => ?_⟩
    have s7 := s6.trans (same_upd (o := .lst [.str (txt l1), .str (txt l2), .str (txt l3)]) np)
    have hp0 : (upd H5 p (.lst [.str (txt l1), .str (txt l2), .str (txt l3)])) p = some (.lst (rowsV [l1, l2, l3])) := upd_same
    generalize upd H5 p (.lst [.str (txt l1), .str (txt l2), .str (txt l3)]) = H6 at s7 hp0 ⊢
    refine ⟨.ref a, rfl, a, ns, 0, rfl, s7.seq hS, ?_⟩
    have mk0 := mixed_nonneg (ns.getD 0 0) ((0 : Nat) : Int)
    have mk1 := mixed_lt (ns.getD 0 0) ((0 : Nat) : Int)
    generalize mixed (ns.getD 0 0) ((0 : Nat) : Int) = mk at mk0 mk1 ⊢
    -- the rows
    refine ⟨sz (show 3 ≤ 1000000 by decide), fun t nt => ?_⟩
    have hp1 := same_upd (o := .tup [.int 0, .int 1, .int 2]) nt _ _ hp0
    have ht1 : (upd H6 t (.tup [.int 0, .int 1, .int 2])) t = some (.tup [.int 0, .int 1, .int 2]) := upd_same
    have sB := s7.trans (same_upd (o := .tup [.int 0, .int 1, .int 2]) nt)
    generalize upd H6 t (.tup [.int 0, .int 1, .int 2]) = H7 at hp1 ht1 sB ⊢
    refine ⟨t, rfl, ⟨_, .inl (.inl ht1)⟩, fun D nD => ?_⟩
    refine lc_it (walk_tup (K := K) (a := t) (xs := [.int 0, .int 1, .int 2])) (fun i H' => Same H7 H' ∧ ∃ ls, H' D = some (.lst (rowsV ls)) ∧ ls.length = i ∧ ∀ l ∈ ls, okL l) ?_ ?_ ?_ ?_
    · exact ⟨same_upd nD, [], upd_same, rfl, fun l hl => by cases hl⟩
    · rintro i H' _ ⟨sm, _⟩
      exact .inl (.inl (sm _ _ ht1))
    · rintro i x H8 H9 hi ⟨sm, ls, eD, el, ok⟩ ⟨rfl, ex⟩
      have hi : i < 3 := hi
      obtain ⟨d, ed, d0, d1, ex⟩ : ∃ d : Int, ([V.int 1, .int 3, .int 9])[i]? = some (.int d) ∧ 0 < d ∧ d < 1073741824 ∧ x = .int (i : Int) := by
        match i, hi, ex with
        | 0, _, ex => exact ⟨1, rfl, by decide, by decide, (Option.some.inj ex).symm⟩
        | 1, _, ex => exact ⟨3, rfl, by decide, by decide, (Option.some.inj ex).symm⟩
        | 2, _, ex => exact ⟨9, rfl, by decide, by decide, (Option.some.inj ex).symm⟩
      subst ex
      refine ⟨rfl, ?_⟩
      unfold tYes
      refine iteT ?_
      refine ⟨_, rfl, _, rfl, sz (show 3 ≤ 1000000 by decide), fun c nc => ?_⟩
      have sc := sm.trans (same_upd (o := .lst [.int 1, .int 3, .int 9]) nc)
      have hD := same_upd (o := .lst [.int 1, .int 3, .int 9]) nc _ _ eD
      refine ⟨_, rfl, c, _, _, .int d, rfl, rfl, .inl (.inl upd_same), at_of (j := i) rfl ed, ?_⟩
      generalize upd H9 c (.lst [.int 1, .int 3, .int 9]) = H10 at sc hD ⊢
      refine ⟨mk, d, rfl, rfl, ⟨d0, d1⟩, mk / d, 3, rfl, rfl, (by show (0 : Int) < 3; decide), ?_⟩
      obtain ⟨j, l, ej, gj, okl⟩ := three_at o1 o2 o3 (j := mk / d % 3) ⟨by omega, by omega⟩
      refine ⟨p, _, _, .str (txt l), rfl, rfl, .inl (.inl (sc _ _ hp1)), at_of (j := j) ej gj, ?_⟩
      refine ⟨_, hD, ?_, ?_⟩
      · unfold rowsV
        rw [List.length_map]
        exact szl (by omega)
      · refine ⟨same_updN sc nD, ls ++ [l], ?_, by rw [List.length_append, el]; rfl, fun l' hl' => ?_⟩
        · rw [upd_same, rowsV_snoc]
        · rcases List.mem_append.mp hl' with h | h
          · exact ok l' h
          · rw [List.mem_singleton.mp h]
            exact okl
    · rintro H8 ⟨sm, ls0, eD, el, ok0⟩
      have hp2 := sm _ _ hp1
      have sC := sB.trans sm
      clear sm sB
      refine ⟨_, rfl, mk, 81, rfl, rfl, ⟨by decide, by decide⟩, mk / 81, 4, rfl, rfl, (by show (0 : Int) < 4; decide), mk / 81 % 4, rfl, D, _, rfl, .inl (.inl eD), fun p3 np3 => ?_⟩
      obtain ⟨km, ekm⟩ : ∃ km : Nat, mk / 81 % 4 = (km : Int) := ⟨(mk / 81 % 4).toNat, by omega⟩
      rw [ekm, cutV_rows]
      have ok : ∀ l ∈ ls0.take km, okL l := fun l hl => ok0 l (List.mem_of_mem_take hl)
      have lsl : (ls0.take km).length ≤ 3 := by
        rw [List.length_take]
        have : ls0.length = 3 := el
        omega
      generalize ls0.take km = ls at ok lsl np3 ⊢
      clear eD ok0 el ekm
      have hp3 := same_upd (o := .lst (rowsV ls)) np3 _ _ hp2
      have hr3 : (upd H8 p3 (.lst (rowsV ls))) p3 = some (.lst (rowsV ls)) := upd_same
      have sD := sC.trans (same_upd (o := .lst (rowsV ls)) np3)
      generalize upd H8 p3 (.lst (rowsV ls)) = H9 at hp3 hr3 sD ⊢
      -- handed
      refine ⟨.ref p3, rfl, p3, _, rfl, .inl (.inl (.inl hr3)), fun p4 np4 => ?_⟩
      have s8 := same_upd (o := .lst (rowsV ls)) np4
      have hp4 := s8 _ _ hp3
      have hr4 := s8 _ _ hr3
      have hh4 : (upd H9 p4 (.lst (rowsV ls))) p4 = some (.lst (rowsV ls)) := upd_same
      have sE := sD.trans s8
      clear s8
      generalize upd H9 p4 (.lst (rowsV ls)) = H10 at hp4 hr4 hh4 sE ⊢
      have lens : ∀ ms : List (List Bool), (∀ l ∈ ms, okL l) → ∀ z ∈ ms.map txt, z.length ≤ 1000 := fun ms hms z hz => by
        obtain ⟨l, hl, rfl⟩ := List.mem_map.mp hz
        rw [txt_len]
        have := (hms l hl).2
        omega
      have alls : ∀ ms : List (List Bool), (∀ l ∈ ms, okL l) → ¬ ∃ z ∈ ms.map txt, hillB none z = false := fun ms hms ⟨z, hz, hb⟩ => by
        obtain ⟨l, hl, rfl⟩ := List.mem_map.mp hz
        rw [row_hillB (hms l hl).1] at hb
        cases hb
      have jsize : ((ls.map txt).map (·.length)).sum + (ls.map txt).length * ("" : Str).length ≤ 16777216 := by
        have h1 := flat_len 120 ls fun l hl => (ok l hl).2
        rw [sum_lens, len_E]
        omega
      have shl := sh_txts ls
      refine ⟨_, rfl, p4, ls.map txt, rfl, .inl (.inl (by rw [← rowsV_strs]; exact hh4)), by rw [List.length_map]; omega, lens ls ok, fun _ H11 s11 => ?_, fun hb => (alls ls ok hb).elim⟩
      have hp5 := s11 _ _ hp4
      have hr5 := s11 _ _ hr4
      have hh5 := s11 _ _ hh4
      have sF := sE.trans s11
      clear s11 hp4 hr4 hh4 sE np4 sD
      refine ⟨⟨_, rfl⟩, _, rfl, "", p3, ls.map txt, rfl, rfl, .inl (.inl (.inl (by rw [← rowsV_strs]; exact hr5))), jsize, rfl, _, rfl, ?_⟩
      rw [ne_self]
      refine iteF ?_
      refine ⟨_, rfl, _, rfl, .list ((ls.map txt).map PyData.str), .list ((ls.map txt).map PyData.str), .lst (.inl (.inl hh5)) (by rw [rowsV_strs]; exact dp_strs _), .lst (.inl (.inl hr5)) (by rw [rowsV_strs]; exact dp_strs _), shl, shl, _, rfl, ?_⟩
      rw [same_data shl]
      refine iteF ?_
      refine ⟨_, rfl, p3, ls.map txt, rfl, .inl (.inl (by rw [← rowsV_strs]; exact hr5)), by rw [List.length_map]; omega, lens ls ok, fun _ H12 s12 => ?_, fun hb => (alls ls ok hb).elim⟩
      rw [join_txts]
      have flok : okb none 0 ls.flatten = true := flat_hill ls fun l hl => (ok l hl).1
      have fll := flat_len 120 ls fun l hl => (ok l hl).2
      refine ⟨txt ls.flatten, none, rfl, by rw [txt_len]; omega, fun H13 s13 => ⟨_, rfl, ?_⟩⟩
      rw [row_hillB flok]
      refine iteF ?_
      have hp6 := s13 _ _ (s12 _ _ hp5)
      have hr6 := s13 _ _ (s12 _ _ hr5)
      have sG := (sF.trans s12).trans s13
      clear s12 s13 hp5 hr5 hh5 sF jsize
      -- lifted
      refine ⟨_, rfl, mk, 500, rfl, rfl, ⟨by decide, by decide⟩, mk / 500, 10, rfl, rfl, (by show (0 : Int) < 10; decide), ?_⟩
      obtain ⟨tm, etm, htm⟩ : ∃ tm : Nat, mk / 500 % 10 = (tm : Int) ∧ tm ≤ 9 := ⟨(mk / 500 % 10).toNat, by omega, by omega⟩
      show gName 5 (V.int (mk / 500 % 10)) _ _ _
      rw [etm]
      refine ⟨_, rfl, p, _, _, .str (txt l1), rfl, rfl, .inl (.inl hp6), at_of (j := 0) rfl rfl, ?_⟩
      have hz1 : (txt l1).length = l1.length := txt_len _
      have hl1 := o1.2
      have rwb := isRowB_txt l1
      have hh1 := row_hillB o1.1
      refine ⟨_, rfl, txt l1, rfl, by omega, fun _ H14 p7 s14 np7 ep7 => ?_, fun e => absurd (rwb.symm.trans e) (by decide)⟩
      rw [signs_txt] at ep7
      have hp7 := s14 _ _ hp6
      have hr7 := s14 _ _ hr6
      have sH := sG.trans s14
      clear s14 hp6 hr6 sG np7
      have nohill : ∀ {l : List Bool}, okb none 0 l = true → ∀ {X : Prop}, hillB none (txt l) = false → X := fun {l} h {X} e => absurd ((row_hillB h).symm.trans e) (by decide)
      refine ⟨_, rfl, _, rfl, txt l1, .int (tm : Int), rfl, rfl, by omega, fun _ k hk hk2 H15 s15 => ?_, fun e => nohill o1.1 e, fun _ e => absurd ((numB_nat (by omega)).symm.trans e) (by decide)⟩
      have : k = tm := by
        have := V.int.inj hk
        omega
      subst this
      rw [lift_txt]
      have llen := lift_len k l1
      refine ⟨txt (lift k l1), rfl, by rw [txt_len]; omega, fun _ H16 p8 s16 np8 ep8 => ?_, fun e => absurd ((isRowB_txt (lift k l1)).symm.trans e) (by decide)⟩
      rw [signs_txt] at ep8
      have hp8 := s16 _ _ (s15 _ _ hp7)
      have hr8 := s16 _ _ (s15 _ _ hr7)
      have hh8 := s16 _ _ (s15 _ _ ep7)
      have sI := (sH.trans s15).trans s16
      clear s15 s16 hp7 hr7 ep7 sH np8 hk
      refine ⟨_, rfl, _, rfl, _, rfl, _, rfl, p7, _, rfl, .inl (.inl (.inl hh8)), _, _, rfl, rfl, _, rfl, p8, _, rfl, .inl (.inl ep8), fun p9 np9 => ?_⟩
      have ecut : cutV ((hts 0 (lift k l1)).map V.int) (some (k : Int)) (some ((k : Int) + (((hts 0 l1).map V.int).length : Int))) = ((hts 0 l1).map (· + (k : Int))).map V.int := by
        rw [List.length_map, hts_len, cutV_mid_ints, hts_lift]
      rw [ecut]
      have s17 := same_upd (o := .lst (((hts 0 l1).map (· + (k : Int))).map V.int)) np9
      have hp9 := s17 _ _ hp8
      have hr9 := s17 _ _ hr8
      have hh9 := s17 _ _ hh8
      have hc9 : (upd H16 p9 (.lst (((hts 0 l1).map (· + (k : Int))).map V.int))) p9 = some (.lst (((hts 0 l1).map (· + (k : Int))).map V.int)) := upd_same
      have sJ := sI.trans s17
      clear s17 hp8 hr8 hh8 ep8 sI
      generalize upd H16 p9 (.lst (((hts 0 l1).map (· + (k : Int))).map V.int)) = H17 at hp9 hr9 hh9 hc9 sJ ⊢
      refine ⟨_, rfl, p7, rfl, ⟨_, .inl (.inl hh9)⟩, fun D2 nD2 => ?_⟩
      refine lc_it (walk_list (K := K) (a := p7) (xs := (hts 0 l1).map V.int)) (fun i H' => Same H17 H' ∧ H' D2 = some (.lst ((((hts 0 l1).map (· + (k : Int))).take i).map V.int))) ⟨same_upd nD2, upd_same⟩ ?_ ?_ ?_
      · rintro i H' _ ⟨sm, _⟩
        exact .inl (.inl (sm _ _ hh9))
      · rintro i x H18 H19 hi ⟨sm, eD⟩ ⟨rfl, ex⟩
        rw [List.length_map, hts_len] at hi
        have hv : (hts 0 l1)[i]? = some (hgt l1 i) := by rw [hts_get l1 0 i (by omega), Int.zero_add]
        have ex : x = .int (hgt l1 i) := by
          have ex : ((hts 0 l1).map V.int)[i]? = some x := ex
          rw [List.getElem?_map, hv] at ex
          exact (Option.some.inj ex).symm
        subst ex
        refine ⟨rfl, ?_⟩
        unfold tYes
        refine iteT ?_
        refine ⟨_, rfl, _, rfl, _, _, rfl, rfl, _, eD, szl (by rw [List.length_map, List.length_take, List.length_map, hts_len]; omega), same_updN sm nD2, ?_⟩
        have hv2 : ((hts 0 l1).map (· + (k : Int)))[i]? = some (hgt l1 i + k) := by
          rw [List.getElem?_map, hv]
          rfl
        rw [upd_same, take_snoc hv2, List.map_append]
        rfl
      · rintro H18 ⟨sm, eD⟩
        rw [List.length_map, List.take_of_length_le (by rw [List.length_map]; exact Nat.le_refl _)] at eD
        have shi := sh_ints ((hts 0 l1).map (· + (k : Int)))
        refine ⟨.list (((hts 0 l1).map (· + (k : Int))).map PyData.int), .list (((hts 0 l1).map (· + (k : Int))).map PyData.int), .lst (.inl (.inl (sm _ _ hc9))) (dp_ints _), .lst (.inl (.inl eD)) (dp_ints _), shi, shi, _, rfl, ?_⟩
        rw [same_data shi]
        refine iteF ?_
        have hp10 := sm _ _ hp9
        have hr10 := sm _ _ hr9
        have hh10 := sm _ _ hh9
        have sK := sJ.trans sm
        clear sm eD hp9 hr9 hh9 hc9 sJ
        -- lifted, as texts
        refine ⟨_, rfl, _, rfl, txt l1, .int (k : Int), rfl, rfl, by omega, fun _ k' hk hk2' H19 s19 => ?_, fun e => nohill o1.1 e, fun _ e => absurd ((numB_nat (by omega)).symm.trans e) (by decide)⟩
        have : k' = k := by
          have := V.int.inj hk
          omega
        subst this
        have lx : ∀ (j : Nat) (b : Bool), (txt (List.replicate j b)).length = j := fun j b => by rw [txt_len, List.length_replicate]
        refine ⟨_, rfl, true, k', congrArg V.str eU, rfl, by omega, _, rfl, _, _, rfl, rfl, sz (by rw [lx]; omega), _, rfl, false, k', congrArg V.str eD, rfl, by omega, _, _, rfl, rfl, sz (by rw [PySem.Str.length_append, lx, lx]; omega), rfl, _, rfl, ?_⟩
        rw [ne_self]
        refine iteF ?_
        refine ⟨_, rfl, txt l1, .int 1, rfl, rfl, by omega, fun _ k2 hk2'' _ H20 s20 => ?_, fun e => nohill o1.1 e, fun _ e => absurd e (by decide)⟩
        have : k2 = 1 := by
          have := V.int.inj hk2''
          omega
        subst this
        have lu : ("u" : Str).length = 1 := by decide +kernel
        have ld : ("d" : Str).length = 1 := by decide +kernel
        refine ⟨_, rfl, _, _, rfl, rfl, sz (by rw [lu]; omega), _, _, rfl, rfl, sz (by rw [PySem.Str.length_append, lu, ld]; omega), rfl, _, rfl, ?_⟩
        rw [show txt (List.replicate 1 true) ++ txt l1 ++ txt (List.replicate 1 false) = "u" ++ txt l1 ++ "d" by rw [eu1, ed1]; rfl, ne_self]
        refine iteF ?_
        have hp11 := s20 _ _ (s19 _ _ hp10)
        have hr11 := s20 _ _ (s19 _ _ hr10)
        have hh11 := s20 _ _ (s19 _ _ hh10)
        have sL := (sK.trans s19).trans s20
        clear s19 s20 hp10 hr10 hh10 sK hk hk2''
        -- from its end
        have om : okb none 0 (mir l1) = true := mir_hill o1.1
        have ml := mir_len l1
        refine ⟨_, rfl, txt l1, rfl, by omega, fun l hl _ H21 s21 => ?_, fun e => nohill o1.1 e⟩
        have : l = l1 := (txt_inj hl).symm
        subst this
        refine ⟨_, rfl, txt (mir l), none, rfl, by rw [txt_len]; omega, fun H22 s22 => ⟨_, rfl, ?_⟩⟩
        rw [row_hillB om]
        refine iteF ?_
        refine ⟨_, rfl, txt (mir l), rfl, by rw [txt_len]; omega, fun _ H23 p10 s23 np10 ep10 => ?_, fun e => absurd ((isRowB_txt (mir l)).symm.trans e) (by decide)⟩
        rw [signs_txt, hts_mir o1.1] at ep10
        have hp12 := s23 _ _ (s22 _ _ (s21 _ _ hp11))
        have hr12 := s23 _ _ (s22 _ _ (s21 _ _ hr11))
        have hh12 := s23 _ _ (s22 _ _ (s21 _ _ hh11))
        have sM := ((sL.trans s21).trans s22).trans s23
        clear s21 s22 s23 hp11 hr11 hh11 sL np10
        refine ⟨_, rfl, p7, _, rfl, .inl (.inl hh12), fun p11 np11 => ?_⟩
        have s24 := same_upd (o := .lst ((hts 0 l).map V.int).reverse) np11
        have shr := sh_ints (hts 0 l).reverse
        refine ⟨.list ((hts 0 l).reverse.map PyData.int), .list ((hts 0 l).reverse.map PyData.int), .lst (.inl (.inl (s24 _ _ ep10))) (dp_ints _), .lst (.inl (.inl upd_same)) (by rw [← List.map_reverse]; exact dp_ints _), shr, shr, _, rfl, ?_⟩
        rw [same_data shr]
        refine iteF ?_
        have hp13 := s24 _ _ hp12
        have hr13 := s24 _ _ hr12
        have sN := sM.trans s24
        clear s24 hp12 hr12 hh12 sM ep10
        generalize upd H23 p11 (.lst ((hts 0 l).map V.int).reverse) = H24 at hp13 hr13 sN ⊢
        refine ⟨_, rfl, txt (mir l), rfl, by rw [txt_len]; omega, fun l' hl' _ H25 s25 => ?_, fun e => nohill om e⟩
        have : l' = mir l := (txt_inj hl').symm
        subst this
        rw [mir_mir]
        refine ⟨_, rfl, rfl, _, rfl, ?_⟩
        rw [ne_self]
        refine iteF ?_
        have hp14 := s25 _ _ hp13
        have hr14 := s25 _ _ hr13
        have sO := sN.trans s25
        clear s25 hp13 hr13 sN
        -- all three
        have ok3 : ∀ x ∈ [l, l2, l3], okL x := fun x hx => by
          rcases List.mem_cons.mp hx with rfl | hx
          · exact o1
          rcases List.mem_cons.mp hx with rfl | hx
          · exact o2
          rw [List.mem_singleton.mp hx]
          exact o3
        have f3 : okb none 0 ([l, l2, l3]).flatten = true := flat_hill _ fun x hx => (ok3 x hx).1
        have f3l := flat_len 120 [l, l2, l3] fun x hx => (ok3 x hx).2
        have f3l : ([l, l2, l3]).flatten.length ≤ 360 := f3l
        refine ⟨_, rfl, p, ([l, l2, l3]).map txt, rfl, .inl (.inl (by rw [← rowsV_strs]; exact hp14)), by show 3 ≤ 1000; decide, lens _ ok3, fun _ H26 s26 => ?_, fun hb => (alls _ ok3 hb).elim⟩
        rw [join_txts]
        refine ⟨txt ([l, l2, l3]).flatten, rfl, by rw [txt_len]; omega, fun l' hl' _ H27 s27 => ?_, fun e => nohill f3 e⟩
        have : l' = ([l, l2, l3]).flatten := (txt_inj hl').symm
        subst this
        have hp15 := s27 _ _ (s26 _ _ hp14)
        have hr15 := s27 _ _ (s26 _ _ hr14)
        have sP := (sO.trans s26).trans s27
        clear s26 s27 hp14 hr14 sO
        refine ⟨_, rfl, p, _, rfl, .inl (.inl hp15), fun p12 np12 => ?_⟩
        have s28 := same_upd (o := .lst (rowsV [l, l2, l3]).reverse) np12
        have hp16 := s28 _ _ hp15
        have hr16 := s28 _ _ hr15
        have hv16 : (upd H27 p12 (.lst (rowsV [l, l2, l3]).reverse)) p12 = some (.lst (rowsV [l3, l2, l])) := upd_same
        have sQ := sP.trans s28
        clear s28 hp15 hr15 sP
        generalize upd H27 p12 (.lst (rowsV [l, l2, l3]).reverse) = H28 at hp16 hr16 hv16 sQ ⊢
        refine ⟨p12, rfl, ⟨_, .inl (.inl hv16)⟩, fun D3 nD3 => ?_⟩
        have ok3' : ∀ x ∈ [l3, l2, l], okL x := fun x hx => ok3 x (by
          rcases List.mem_cons.mp hx with rfl | hx
          · exact List.mem_cons_of_mem _ (List.mem_cons_of_mem _ (List.mem_singleton.mpr rfl))
          rcases List.mem_cons.mp hx with rfl | hx
          · exact List.mem_cons_of_mem _ (List.mem_cons_self ..)
          rw [List.mem_singleton.mp hx]
          exact List.mem_cons_self ..)
        have eTT : (rowsV [l3, l2, l]).reverse = rowsV [l, l2, l3] := rfl
        refine lc_it (walk_list (K := K) (a := p12) (xs := rowsV [l3, l2, l])) (fun i H' => Same H28 H' ∧ H' D3 = some (.lst (rowsV ((([l3, l2, l]).map mir).take i)))) ⟨same_upd nD3, upd_same⟩ ?_ ?_ ?_
        · rintro i H' _ ⟨sm, _⟩
          exact .inl (.inl (sm _ _ hv16))
        · rintro i x H29 H30 hi ⟨sm, eD⟩ ⟨rfl, ex⟩
          have hi : i < 3 := hi
          have hxi : ([l3, l2, l])[i]? = some ([l3, l2, l])[i] := List.getElem?_eq_getElem hi
          have hxm : ([l3, l2, l])[i] ∈ [l3, l2, l] := List.getElem_mem hi
          generalize ([l3, l2, l])[i] = y at hxi hxm
          have ex : x = .str (txt y) := by
            have ex : (rowsV [l3, l2, l])[i]? = some x := ex
            unfold rowsV at ex
            rw [List.getElem?_map, hxi] at ex
            exact (Option.some.inj ex).symm
          subst ex
          have oy := ok3' y hxm
          have hyl := oy.2
          refine ⟨rfl, ?_⟩
          unfold tYes
          refine iteT ?_
          refine ⟨_, rfl, txt y, rfl, by rw [txt_len]; omega, fun y' hy' _ H31 s31 => ?_, fun e => nohill oy.1 e⟩
          have : y' = y := (txt_inj hy').symm
          subst this
          refine ⟨_, s31 _ _ eD, szl (by unfold rowsV; rw [List.length_map, List.length_take]; omega), same_updN (sm.trans s31) nD3, ?_⟩
          have hm : (([l3, l2, l]).map mir)[i]? = some (mir y') := by rw [List.getElem?_map, hxi]; rfl
          rw [upd_same, take_snoc hm, rowsV_snoc]
        · rintro H29 ⟨sm, eD⟩
          have eD : H29 D3 = some (.lst (rowsV (([l3, l2, l]).map mir))) := eD
          have okm : ∀ x ∈ ([l3, l2, l]).map mir, okL x := fun x hx => by
            obtain ⟨y, hy, rfl⟩ := List.mem_map.mp hx
            exact ⟨mir_hill (ok3' y hy).1, by rw [mir_len]; exact (ok3' y hy).2⟩
          refine ⟨D3, (([l3, l2, l]).map mir).map txt, rfl, .inl (.inl (by rw [← rowsV_strs]; exact eD)), by show 3 ≤ 1000; decide, lens _ okm, fun _ H30 s30 => ?_, fun hb => (alls _ okm hb).elim⟩
          rw [join_txts, show (([l3, l2, l]).map mir).flatten = mir ([l, l2, l3]).flatten by
            show mir l3 ++ (mir l2 ++ (mir l ++ [])) = mir (l ++ (l2 ++ (l3 ++ [])))
            rw [List.append_nil, List.append_nil, mir_app, mir_app, List.append_assoc]]
          refine ⟨rfl, _, rfl, ?_⟩
          rw [ne_self]
          refine iteF ?_
          have hr17 := s30 _ _ (sm _ _ hr16)
          clear s30 sm eD hp16 hr16 hv16 sQ okm ok3' ok3 f3 f3l
          -- what is refused
          have lu : ("u" : Str).length = 1 := by decide +kernel
          have ld : ("d" : Str).length = 1 := by decide +kernel
          refine ⟨_, rfl, _, _, rfl, rfl, sz (by rw [hz1, lu]; omega), _, rfl, _, _, rfl, rfl, sz (by rw [ld, hz1]; omega), sz (show 4 ≤ 1000000 by decide), fun p13 np13 => ?_⟩
          have s32 := same_upd (o := .lst [.str (txt l ++ "u"), .str "du", .str "x", .str ("d" ++ txt l)]) np13
          have hr18 := s32 _ _ hr17
          have hw18 : (upd H30 p13 (.lst [.str (txt l ++ "u"), .str "du", .str "x", .str ("d" ++ txt l)])) p13 = some (.lst [.str (txt l ++ "u"), .str "du", .str "x", .str ("d" ++ txt l)]) := upd_same
          clear s32 hr17
          generalize upd H30 p13 (.lst [.str (txt l ++ "u"), .str "du", .str "x", .str ("d" ++ txt l)]) = H31 at hr18 hw18 ⊢
          obtain ⟨j, z, ej, gj, lz, bz⟩ := wrong_at o1 (j := mk / 5000 % 4) ⟨by omega, by omega⟩
          refine ⟨_, rfl, mk, 5000, rfl, rfl, ⟨by decide, by decide⟩, mk / 5000, 4, rfl, rfl, (by show (0 : Int) < 4; decide), p13, _, _, .str z, rfl, rfl, .inl (.inl hw18), at_of (j := j) ej gj, ?_⟩
          clear hw18
          -- rows + [wrong] + rows
          refine ⟨_, rfl, _, rfl, sz (show 1 ≤ 1000000 by decide), fun p14 np14 => ?_⟩
          have s33 := same_upd (o := .lst [.str z]) np14
          have hr19 := s33 _ _ hr18
          have hlr : (rowsV ls).length ≤ 3 := by
            unfold rowsV
            rw [List.length_map]
            exact lsl
          refine ⟨p3, p14, _, _, rfl, rfl, hr19, upd_same, sz (by show _ + 1 ≤ _; omega), fun p15 np15 => ?_⟩
          have s34 := same_upd (o := .lst (rowsV ls ++ [.str z])) np15
          have hr20 := s34 _ _ hr19
          refine ⟨_, rfl, p15, p3, _, _, rfl, rfl, upd_same, hr20, sz (by rw [List.length_append]; show _ + 1 + _ ≤ _; omega), fun p16 np16 => ?_⟩
          have s35 := same_upd (o := .lst (rowsV ls ++ [.str z] ++ rowsV ls)) np16
          have hr21 := s35 _ _ hr20
          have hq : (upd (upd (upd H31 p14 (.lst [.str z])) p15 (.lst (rowsV ls ++ [.str z]))) p16 (.lst (rowsV ls ++ [.str z] ++ rowsV ls))) p16 = some (.lst ((ls.map txt ++ [z] ++ ls.map txt).map V.str)) := by
            rw [upd_same, rowsV_strs, List.map_append, List.map_append]
            rfl
          generalize upd (upd (upd H31 p14 (.lst [.str z])) p15 (.lst (rowsV ls ++ [.str z]))) p16 (.lst (rowsV ls ++ [.str z] ++ rowsV ls)) = H32 at hr21 hq ⊢
          have lq : ∀ y ∈ ls.map txt ++ [z] ++ ls.map txt, y.length ≤ 1000 := fun y hy => by
            rcases List.mem_append.mp hy with hy | hy
            · rcases List.mem_append.mp hy with hy | hy
              · exact lens ls ok y hy
              · rw [List.mem_singleton.mp hy]
                exact lz
            · exact lens ls ok y hy
          have nq : (ls.map txt ++ [z] ++ ls.map txt).length ≤ 1000 := by
            rw [List.length_append, List.length_append, List.length_map]
            show _ + 1 + _ ≤ _
            omega
          have mq : z ∈ ls.map txt ++ [z] ++ ls.map txt := List.mem_append_left _ (List.mem_append_right _ (List.mem_singleton.mpr rfl))
          refine ⟨_, _, _, 0, rfl, .joined (.inl (.inl hq)) nq lq mq bz, fun H33 s36 => ⟨rfl, _, rfl, ?_⟩⟩
          rw [show (!decide (V.str (wordAt 0) = V.str "row")) = false from ne_self "row"]
          refine iteF ?_
          refine ⟨_, rfl, _, _, _, 0, rfl, .mirrored lz bz, fun H34 s37 => ⟨rfl, _, rfl, ?_⟩⟩
          rw [show (!decide (V.str (wordAt 0) = V.str "row")) = false from ne_self "row"]
          refine iteF ?_
          -- two lists
          have bu : hillB none "u" = false := by decide +kernel
          have bd : hillB none "d" = false := by decide +kernel
          refine ⟨sz (show 2 ≤ 1000000 by decide), fun p17 np17 => ?_⟩
          refine ⟨_, _, _, 0, rfl, .joined (zs := ["u", "d"]) (z := "u") (.inl (.inl upd_same)) (by decide) (by decide +kernel) (List.mem_cons_self ..) bu, fun H35 s38 => ⟨rfl, _, rfl, ?_⟩⟩
          rw [show (!decide (V.str (wordAt 0) = V.str "row")) = false from ne_self "row"]
          refine iteF ?_
          refine ⟨_, rfl, sz (show 3 ≤ 1000000 by decide), fun p18 np18 => ?_⟩
          refine ⟨_, _, _, 0, rfl, .joined (zs := [txt l, "d", "u"]) (z := "d") (.inl (.inl upd_same)) (by show 3 ≤ 1000; decide) (fun y hy => ?_) (List.mem_cons_of_mem _ (List.mem_cons_self ..)) bd, fun H36 s39 => ⟨rfl, _, rfl, ?_⟩⟩
          · rcases List.mem_cons.mp hy with rfl | hy
            · omega
            · rcases List.mem_cons.mp hy with rfl | hy
              · omega
              · rw [List.mem_singleton.mp hy]
                omega
          rw [show (!decide (V.str (wordAt 0) = V.str "row")) = false from ne_self "row"]
          refine iteF ?_
          -- times
          refine ⟨1, rfl, sz (show 4 ≤ 1000000 by decide), fun p19 np19 => ?_⟩
          obtain ⟨j2, v, ej2, gj2, fv, bv⟩ := bad_at (j := mk / 20000 % 4) ⟨by omega, by omega⟩
          refine ⟨_, rfl, mk, 20000, rfl, rfl, ⟨by decide, by decide⟩, mk / 20000, 4, rfl, rfl, (by show (0 : Int) < 4; decide), p19, _, _, v, rfl, rfl, .inl (.inl upd_same), at_of (j := j2) ej2 gj2, ?_⟩
          refine ⟨_, rfl, _, rfl, _, _, _, 1, rfl, .times (by omega) fv hh1 bv, fun H37 s40 => ⟨rfl, true, congrArg V.bl (decide_eq_true (show V.str (wordAt 1) = V.str "count" from rfl)), iteT ?_⟩⟩
          refine ⟨_, rfl, _, rfl, _, _, _, 0, rfl, .row lz fv bz, fun H38 s41 => ⟨rfl, true, congrArg V.bl (decide_eq_true (show V.str (wordAt 0) = V.str "row" from rfl)), iteT ?_⟩⟩
          refine ⟨sz (by decide), fun p20 np20 => ?_⟩
          refine ⟨p20, [], rfl, .inl (.inl upd_same), by decide, (fun y hy => by cases hy), fun _ H39 s42 => ?_, fun hb => ?_⟩
          · refine ⟨rfl, ?_⟩
            rw [decide_eq_true (show V.str (Txt.join "" []) = V.str "" by decide +kernel)]
            exact q H39
          · obtain ⟨y, hy, _⟩ := hb
            cases hy
end
end Hr
/-! ### what the top has written -/
namespace Hr
open PySem PySem.Spec PyProof.Rows L2
theorem all_mk {l : PySem.W.OpenLaw} {w : World} {K : PySem.W.Frag} {h : Heap} {mg : Str → Option Value} {fa f : Addr} (X : K.In h) (G : h.Ns mainGlobals mg) (hfa : mg "law" = some (.ref fa))
    {od an : Option Addr} {sl : Array (Option Value)} {oc kV dc pm cd ct : Value} {tk_UP tk_DOWN tk_MOST_TIMES : Tok} {CH c0 c1 c2 c3 c4 c5 c6 c7 : Addr}
    (a : PySem.W.nsIn K mainGlobals "law" = some (some (.ref f))) (l1 : K.lookup f = some ⟨oc, od, .func (PySem.W.fnOf "law" "law" (defArgs sLaw) (defBody sLaw) (defScope sLaw) .none kV dc pm an cd ct), sl⟩) (c : PySem.W.codeIn K cd "law" = true) (k : PySem.W.keepIn K (.ref f) = true)
    (d_heights : Def K mg "heights" sHeights ["row"])
    (d_is_row : Def K mg "is_row" sIsRow ["text"])
    (d_joined : Def K mg "joined" s_joined ["rows"])
    (d_mirrored : Def K mg "mirrored" s_mirrored ["row"])
    (d_law_mixed : Def K mg "_law_mixed" sMixed ["_law_cell", "_law_k"])
    (d_law_number : Def K mg "_law_number" sNumber ["_law_script", "_law_k"])
    (d_law_row : Def K mg "_law_row" sLRow ["_law_script", "_law_ceiling"])
    (d_law_word : Def K mg "_law_word" sWord ["_law_error"])
    (d_law_asked : Def K mg "_law_asked" sAsked ["_law_way", "_law_thing", "_law_times"])
    (d_is_hill : DefD K mg "is_hill" sIsHill ["row", "ceiling"])
    (d_check_hill : DefD K mg "check_hill" sChHill ["row", "ceiling"])
    (d_is_number : DefV K mg "is_number" sIsNum ["value", "most", "least"] (.int 0))
    (d_check_number : DefV K mg "check_number" sChNum ["value", "most", "least"] (.int 0))
    (d_lifted : DefV K mg "lifted" s_lifted ["row", "times"] (.int 1))
    (g_UP : PySem.W.nsIn K mainGlobals "UP" = some (some (.str "u" tk_UP)))
    (g_DOWN : PySem.W.nsIn K mainGlobals "DOWN" = some (some (.str "d" tk_DOWN)))
    (g_MOST_TIMES : PySem.W.nsIn K mainGlobals "MOST_TIMES" = some (some (.int 200 tk_MOST_TIMES)))
    (z_ValueError : PySem.W.nsIn K mainGlobals "ValueError" = some none)
    (z_all : PySem.W.nsIn K mainGlobals "all" = some none)
    (z_bool : PySem.W.nsIn K mainGlobals "bool" = some none)
    (z_int : PySem.W.nsIn K mainGlobals "int" = some none)
    (z_isinstance : PySem.W.nsIn K mainGlobals "isinstance" = some none)
    (z_len : PySem.W.nsIn K mainGlobals "len" = some none)
    (z_list : PySem.W.nsIn K mainGlobals "list" = some none)
    (z_max : PySem.W.nsIn K mainGlobals "max" = some none)
    (z_min : PySem.W.nsIn K mainGlobals "min" = some none)
    (z_range : PySem.W.nsIn K mainGlobals "range" = some none)
    (z_reversed : PySem.W.nsIn K mainGlobals "reversed" = some none)
    (z_str : PySem.W.nsIn K mainGlobals "str" = some none)
    (z_sum : PySem.W.nsIn K mainGlobals "sum" = some none)
    (z_zip : PySem.W.nsIn K mainGlobals "zip" = some none)
    (gc0 : PySem.W.nsIn K mainGlobals "NoRow" = some (some (.ref c0)))
    (gc1 : PySem.W.nsIn K mainGlobals "NoCount" = some (some (.ref c1)))
    (gc2 : PySem.W.nsIn K mainGlobals "NoRank" = some (some (.ref c2)))
    (gc3 : PySem.W.nsIn K mainGlobals "NoPlace" = some (some (.ref c3)))
    (gc4 : PySem.W.nsIn K mainGlobals "NoTree" = some (some (.ref c4)))
    (gc5 : PySem.W.nsIn K mainGlobals "NoPairs" = some (some (.ref c5)))
    (gc6 : PySem.W.nsIn K mainGlobals "NoTurn" = some (some (.ref c6)))
    (gc7 : PySem.W.nsIn K mainGlobals "NoText" = some (some (.ref c7)))
    (gH : PySem.W.nsIn K mainGlobals "HillError" = some (some (.ref CH)))
    (hHb : PySem.W.subIn K (.ref CH) (.type "BaseException") = some true)
    (hHd : PySem.W.hasDictIn K CH = true)
    (hHt : PySem.W.typeIn K (.ref CH) = some (.type "type"))
    (on : PySem.W.specialIn K (.builtin "object.__class__") "__get__" = some (some (.builtin "getset_descriptor.__get__")))
    (ot : PySem.W.takesIn K (.builtin "object.__class__") = some true)
    (x0 : PySem.W.excIn K c0 [.type "ValueError", .type "Exception", .type "BaseException", .type "object"] "ValueError.__new__" = true)
    (k0 : PySem.W.keepIn K (.ref c0) = true)
    (b0 : PySem.W.subIn K (.ref c0) (.type "BaseException") = some true)
    (t0 : PySem.W.typeIn K (.ref c0) = some (.type "type"))
    (s0 : PySem.W.subIn K (.ref c0) (.ref CH) = some true)
    (eg0 : PySem.W.findIn K (.ref c0) "__getattribute__" = some (some (.builtin "BaseException.__getattribute__")))
    (ek0 : PySem.W.findIn K (.ref c0) "__getattr__" = some none)
    (ed0 : PySem.W.hasDictIn K c0 = true)
    (ea0 : PySem.W.findIn K (.ref c0) "__class__" = some (some (.builtin "object.__class__")))
    (em0 : PySem.W.mroIn K c0 (.type "object") = some true)
    (ve0 : PySem.W.kitOne K (.ref c0) (.type "ValueError") = some true)
    (q0_0 : PySem.W.kitOne K (.ref c0) (.ref c0) = some true)
    (q0_1 : PySem.W.kitOne K (.ref c0) (.ref c1) = some false)
    (q0_2 : PySem.W.kitOne K (.ref c0) (.ref c2) = some false)
    (q0_3 : PySem.W.kitOne K (.ref c0) (.ref c3) = some false)
    (q0_4 : PySem.W.kitOne K (.ref c0) (.ref c4) = some false)
    (q0_5 : PySem.W.kitOne K (.ref c0) (.ref c5) = some false)
    (q0_6 : PySem.W.kitOne K (.ref c0) (.ref c6) = some false)
    (q0_7 : PySem.W.kitOne K (.ref c0) (.ref c7) = some false)
    (x1 : PySem.W.excIn K c1 [.type "ValueError", .type "Exception", .type "BaseException", .type "object"] "ValueError.__new__" = true)
    (k1 : PySem.W.keepIn K (.ref c1) = true)
    (b1 : PySem.W.subIn K (.ref c1) (.type "BaseException") = some true)
    (t1 : PySem.W.typeIn K (.ref c1) = some (.type "type"))
    (s1 : PySem.W.subIn K (.ref c1) (.ref CH) = some true)
    (eg1 : PySem.W.findIn K (.ref c1) "__getattribute__" = some (some (.builtin "BaseException.__getattribute__")))
    (ek1 : PySem.W.findIn K (.ref c1) "__getattr__" = some none)
    (ed1 : PySem.W.hasDictIn K c1 = true)
    (ea1 : PySem.W.findIn K (.ref c1) "__class__" = some (some (.builtin "object.__class__")))
    (em1 : PySem.W.mroIn K c1 (.type "object") = some true)
    (ve1 : PySem.W.kitOne K (.ref c1) (.type "ValueError") = some true)
    (q1_0 : PySem.W.kitOne K (.ref c1) (.ref c0) = some false)
    (q1_1 : PySem.W.kitOne K (.ref c1) (.ref c1) = some true)
    (q1_2 : PySem.W.kitOne K (.ref c1) (.ref c2) = some false)
    (q1_3 : PySem.W.kitOne K (.ref c1) (.ref c3) = some false)
    (q1_4 : PySem.W.kitOne K (.ref c1) (.ref c4) = some false)
    (q1_5 : PySem.W.kitOne K (.ref c1) (.ref c5) = some false)
    (q1_6 : PySem.W.kitOne K (.ref c1) (.ref c6) = some false)
    (q1_7 : PySem.W.kitOne K (.ref c1) (.ref c7) = some false)
    : ∃ fd : FuncData, (∀ (s : Shared) (v : Value), BindsTo s fd ⟨[v], []⟩ [("_law_script", v)]) ∧ ∀ base : Heap, K.In base → base.Ns mainGlobals mg → FnOk l.prog w K mg base CX0 7 fa fd ["_law_script"] (spLaw K) := by
  have e := hfa.symm.trans (PySem.W.mg_of X G a)
  cases e
  have F := fun_mk (st := sLaw) l1 c k
  refine ⟨PySem.W.fnOf "law" "law" (defArgs sLaw) (defBody sLaw) (defScope sLaw) .none kV dc pm an cd ct, fun s v => .of_eq rfl, fun base _ _ => ?_⟩
  have m_ValueError := PySem.W.mg_none_of X G z_ValueError
  have m_all := PySem.W.mg_none_of X G z_all
  have m_bool := PySem.W.mg_none_of X G z_bool
  have m_int := PySem.W.mg_none_of X G z_int
  have m_isinstance := PySem.W.mg_none_of X G z_isinstance
  have m_len := PySem.W.mg_none_of X G z_len
  have m_list := PySem.W.mg_none_of X G z_list
  have m_max := PySem.W.mg_none_of X G z_max
  have m_min := PySem.W.mg_none_of X G z_min
  have m_range := PySem.W.mg_none_of X G z_range
  have m_reversed := PySem.W.mg_none_of X G z_reversed
  have m_str := PySem.W.mg_none_of X G z_str
  have m_sum := PySem.W.mg_none_of X G z_sum
  have m_zip := PySem.W.mg_none_of X G z_zip
  have c_UP := PySem.W.mg_of X G g_UP
  have c_DOWN := PySem.W.mg_of X G g_DOWN
  have c_MOST_TIMES := PySem.W.mg_of X G g_MOST_TIMES
  have mc0 := PySem.W.mg_of X G gc0
  have mc1 := PySem.W.mg_of X G gc1
  have mc2 := PySem.W.mg_of X G gc2
  have mc3 := PySem.W.mg_of X G gc3
  have mc4 := PySem.W.mg_of X G gc4
  have mc5 := PySem.W.mg_of X G gc5
  have mc6 := PySem.W.mg_of X G gc6
  have mc7 := PySem.W.mg_of X G gc7
  have mH := PySem.W.mg_of X G gH
  have er0 : Err K mg "NoRow" c0 := ⟨mc0, x0, k0, b0, t0⟩
  have is0 : IsErr K (eight c0 c1 c2 c3 c4 c5 c6 c7) 0 := ⟨by decide, ⟨eg0, ek0, b0, ed0, ea0, on, ot, em0⟩, kit_eight q0_0 q0_1 q0_2 q0_3 q0_4 q0_5 q0_6 q0_7, ve0⟩
  have ex0 := PySem.W.exm_ref hHb hHd hHt s0
  have er1 : Err K mg "NoCount" c1 := ⟨mc1, x1, k1, b1, t1⟩
  have is1 : IsErr K (eight c0 c1 c2 c3 c4 c5 c6 c7) 1 := ⟨by decide, ⟨eg1, ek1, b1, ed1, ea1, on, ot, em1⟩, kit_eight q1_0 q1_1 q1_2 q1_3 q1_4 q1_5 q1_6 q1_7, ve1⟩
  have ex1 := PySem.W.exm_ref hHb hHd hHt s1
  obtain ⟨cIsNumA, cIsNum⟩ := cal_isNumV (P := l.prog) (w := w) (base := base) d_is_number m_isinstance m_int m_bool
  obtain ⟨cChNumA, cChNum⟩ := cal_chNumX er1 d_check_number cIsNumA
  have cIsRow := cal_isRow (P := l.prog) (w := w) (base := base) d_is_row m_isinstance m_str m_all c_UP c_DOWN
  have cHeights := cal_heightsX er0 d_heights cIsRow c_UP
  obtain ⟨cIsHill, cIsHill1⟩ := cal_isHill d_is_hill cIsRow cHeights m_min m_max
  obtain ⟨cChHill, cChHill1⟩ := cal_chHillX er0 d_check_hill cIsHill
  have cJoined := cal_joinedX d_joined cChHill1
  obtain ⟨cLifted, cLifted1⟩ := cal_liftedX d_lifted cChHill1 cChNum c_MOST_TIMES c_UP c_DOWN
  have cMir := cal_mirX d_mirrored cChHill1 m_reversed c_UP c_DOWN
  have cMixed := cal_mixed (P := l.prog) (w := w) (base := base) d_law_mixed
  have cNum := cal_number d_law_number cMixed m_len
  have cLRow := cal_lrow d_law_row cMixed m_len m_min m_max m_sum m_range
  have cWord := cal_word (cs := (eight c0 c1 c2 c3 c4 c5 c6 c7)) (P := l.prog) (w := w) (base := base) d_law_word mc0 mc1 mc2 mc3 mc4 mc5 mc6 mc7 m_isinstance m_zip
  have cAsked := cal_asked (cs := (eight c0 c1 c2 c3 c4 c5 c6 c7)) d_law_asked mH is0 is1 ex0 ex1 cJoined cLifted cMir cWord m_isinstance m_ValueError m_int
  exact ok_law F cLRow cNum cHeights cIsHill1 cJoined cLifted cLifted1 cMir cAsked m_len m_list
end Hr
open PySem PySem.W PyProof.Rows
set_option maxHeartbeats 0 in
theorem PySem.Challenge.cw_hillrows_k11_joined_lifted_mirrored_holds : PySem.Challenge.rw_hillrows_k11_joined_lifted_mirrored.Holds := by
  w_on; o_law; k_head; (case hw => w_witness2)
  k_fill
  refine L2.walk_of (l := PySem.Challenge.rw_hillrows_k11_joined_lifted_mirrored) (n := 63) (k := 7) (x := "_law_script") (CX := fun _ => L2.CX0) (sp := fun w => Hr.spLaw _) rfl (by decide) rfl ⟨rfl, by decide, by decide⟩ (fun w h Y => PySem.W.kIn_of Y) ?F (fun _ _ a ns hl _ hS => ⟨a, ns, rfl, hS, hl, fun _ => rfl⟩) (fun _ _ _ _ _ h => h)
  case F =>
    intro w mg fa h KX G hmg
    refine' Hr.all_mk KX G hmg ?a ?l1 ?c ?k ?d_heights ?d_is_row ?d_joined ?d_mirrored ?d_law_mixed ?d_law_number ?d_law_row ?d_law_word ?d_law_asked ?d_is_hill ?d_check_hill ?d_is_number ?d_check_number ?d_lifted ?g_UP ?g_DOWN ?g_MOST_TIMES ?z_ValueError ?z_all ?z_bool ?z_int ?z_isinstance ?z_len ?z_list ?z_max ?z_min ?z_range ?z_reversed ?z_str ?z_sum ?z_zip ?gc0 ?gc1 ?gc2 ?gc3 ?gc4 ?gc5 ?gc6 ?gc7 ?gH ?hHb ?hHd ?hHt ?on ?ot ?x0 ?k0 ?b0 ?t0 ?s0 ?eg0 ?ek0 ?ed0 ?ea0 ?em0 ?ve0 ?q0_0 ?q0_1 ?q0_2 ?q0_3 ?q0_4 ?q0_5 ?q0_6 ?q0_7 ?x1 ?k1 ?b1 ?t1 ?s1 ?eg1 ?ek1 ?ed1 ?ea1 ?em1 ?ve1 ?q1_0 ?q1_1 ?q1_2 ?q1_3 ?q1_4 ?q1_5 ?q1_6 ?q1_7
    (case a => k_is); (case l1 => k_is); (case c => k_is); (case k => k_is)
    case d_heights =>
      refine' Hr.def_mk KX G (fun _ _ _ _ _ _ us hl => match us, hl with | [_], _ => rfl) ?a ?l ?c ?k
      (case a => k_is); (case l => k_is); (case c => k_is); (case k => k_is)
    case d_is_row =>
      refine' Hr.def_mk KX G (fun _ _ _ _ _ _ us hl => match us, hl with | [_], _ => rfl) ?a ?l ?c ?k
      (case a => k_is); (case l => k_is); (case c => k_is); (case k => k_is)
    case d_joined =>
      refine' Hr.def_mk KX G (fun _ _ _ _ _ _ us hl => match us, hl with | [_], _ => rfl) ?a ?l ?c ?k
      (case a => k_is); (case l => k_is); (case c => k_is); (case k => k_is)
    case d_mirrored =>
      refine' Hr.def_mk KX G (fun _ _ _ _ _ _ us hl => match us, hl with | [_], _ => rfl) ?a ?l ?c ?k
      (case a => k_is); (case l => k_is); (case c => k_is); (case k => k_is)
    case d_law_mixed =>
      refine' Hr.def_mk KX G (fun _ _ _ _ _ _ us hl => match us, hl with | [_, _], _ => rfl) ?a ?l ?c ?k
      (case a => k_is); (case l => k_is); (case c => k_is); (case k => k_is)
    case d_law_number =>
      refine' Hr.def_mk KX G (fun _ _ _ _ _ _ us hl => match us, hl with | [_, _], _ => rfl) ?a ?l ?c ?k
      (case a => k_is); (case l => k_is); (case c => k_is); (case k => k_is)
    case d_law_row =>
      refine' Hr.def_mk KX G (fun _ _ _ _ _ _ us hl => match us, hl with | [_, _], _ => rfl) ?a ?l ?c ?k
      (case a => k_is); (case l => k_is); (case c => k_is); (case k => k_is)
    case d_law_word =>
      refine' Hr.def_mk KX G (fun _ _ _ _ _ _ us hl => match us, hl with | [_], _ => rfl) ?a ?l ?c ?k
      (case a => k_is); (case l => k_is); (case c => k_is); (case k => k_is)
    case d_law_asked =>
      refine' Hr.def_mk KX G (fun _ _ _ _ _ _ us hl => match us, hl with | [_, _, _], _ => rfl) ?a ?l ?c ?k
      (case a => k_is); (case l => k_is); (case c => k_is); (case k => k_is)
    case d_is_hill =>
      refine' Hr.defD_mk (m := 1) KX G rfl (fun _ _ _ _ _ _ _ us its hu hi => match us, hu, its, hi with | [_, _], _, [_], _ => ⟨_, rfl, rfl⟩) (fun _ _ _ _ _ _ _ us its hu hi => match us, hu, its, hi with | [_], _, [_], _ => ⟨_, rfl, rfl⟩) ?a ?l ?c ?k ?t
      (case a => k_is); (case l => k_is); (case c => k_is); (case k => k_is); (case t => k_is)
    case d_check_hill =>
      refine' Hr.defD_mk (m := 1) KX G rfl (fun _ _ _ _ _ _ _ us its hu hi => match us, hu, its, hi with | [_, _], _, [_], _ => ⟨_, rfl, rfl⟩) (fun _ _ _ _ _ _ _ us its hu hi => match us, hu, its, hi with | [_], _, [_], _ => ⟨_, rfl, rfl⟩) ?a ?l ?c ?k ?t
      (case a => k_is); (case l => k_is); (case c => k_is); (case k => k_is); (case t => k_is)
    case d_is_number =>
      refine' Hr.defV_mk (m := 2) KX G rfl (fun _ _ _ _ _ _ _ us its hu hi => match us, hu, its, hi with | [_, _, _], _, [_], _ => ⟨_, rfl, rfl⟩) (fun _ _ _ _ _ _ _ us its hu hi => match us, hu, its, hi with | [_, _], _, [_], _ => ⟨_, rfl, rfl⟩) ?a ?l ?c ?k ?hu ?t
      (case a => k_is); (case l => k_is); (case c => k_is); (case k => k_is); (case t => k_is); (case hu => exact ⟨_, rfl⟩)
    case d_check_number =>
      refine' Hr.defV_mk (m := 2) KX G rfl (fun _ _ _ _ _ _ _ us its hu hi => match us, hu, its, hi with | [_, _, _], _, [_], _ => ⟨_, rfl, rfl⟩) (fun _ _ _ _ _ _ _ us its hu hi => match us, hu, its, hi with | [_, _], _, [_], _ => ⟨_, rfl, rfl⟩) ?a ?l ?c ?k ?hu ?t
      (case a => k_is); (case l => k_is); (case c => k_is); (case k => k_is); (case t => k_is); (case hu => exact ⟨_, rfl⟩)
    case d_lifted =>
      refine' Hr.defV_mk (m := 1) KX G rfl (fun _ _ _ _ _ _ _ us its hu hi => match us, hu, its, hi with | [_, _], _, [_], _ => ⟨_, rfl, rfl⟩) (fun _ _ _ _ _ _ _ us its hu hi => match us, hu, its, hi with | [_], _, [_], _ => ⟨_, rfl, rfl⟩) ?a ?l ?c ?k ?hu ?t
      (case a => k_is); (case l => k_is); (case c => k_is); (case k => k_is); (case t => k_is); (case hu => exact ⟨_, rfl⟩)
    (case g_UP => k_is)
    (case g_DOWN => k_is)
    (case g_MOST_TIMES => k_is)
    (case z_ValueError => k_is)
    (case z_all => k_is)
    (case z_bool => k_is)
    (case z_int => k_is)
    (case z_isinstance => k_is)
    (case z_len => k_is)
    (case z_list => k_is)
    (case z_max => k_is)
    (case z_min => k_is)
    (case z_range => k_is)
    (case z_reversed => k_is)
    (case z_str => k_is)
    (case z_sum => k_is)
    (case z_zip => k_is)
    (case gc0 => k_is)
    (case gc1 => k_is)
    (case gc2 => k_is)
    (case gc3 => k_is)
    (case gc4 => k_is)
    (case gc5 => k_is)
    (case gc6 => k_is)
    (case gc7 => k_is)
    (case gH => k_is)
    (case hHb => k_is)
    (case hHd => k_is)
    (case hHt => k_is)
    (case on => k_is)
    (case ot => k_is)
    (case x0 => k_exc)
    (case k0 => k_is)
    (case b0 => k_is)
    (case t0 => k_is)
    (case s0 => k_is)
    (case eg0 => k_is)
    (case ek0 => k_is)
    (case ed0 => k_is)
    (case ea0 => k_is)
    (case em0 => k_is)
    (case ve0 => kit_is)
    (case q0_0 => kit_is)
    (case q0_1 => kit_is)
    (case q0_2 => kit_is)
    (case q0_3 => kit_is)
    (case q0_4 => kit_is)
    (case q0_5 => kit_is)
    (case q0_6 => kit_is)
    (case q0_7 => kit_is)
    (case x1 => k_exc)
    (case k1 => k_is)
    (case b1 => k_is)
    (case t1 => k_is)
    (case s1 => k_is)
    (case eg1 => k_is)
    (case ek1 => k_is)
    (case ed1 => k_is)
    (case ea1 => k_is)
    (case em1 => k_is)
    (case ve1 => kit_is)
    (case q1_0 => kit_is)
    (case q1_1 => kit_is)
    (case q1_2 => kit_is)
    (case q1_3 => kit_is)
    (case q1_4 => kit_is)
    (case q1_5 => kit_is)
    (case q1_6 => kit_is)
    (case q1_7 => kit_is)
