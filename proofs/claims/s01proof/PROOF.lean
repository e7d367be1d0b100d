import PyProof.Rows.All
import Wide.All
import OpenK.AllK
import Wide.FinOn
import PyProof.EqAt
import PyProof.EqKinds
import PyProof.TupleCall
import Open.SpecLaws
import KE.OsHead
import KE.OsGo
import HandS.ForSpec
import HandS.ForMost
import HandS.SetFor
import HandS.More
import HandS.Walk
import HandS.Codes
import KE.KDictZip
import HandS.ListItems
import PySu90
import PySem.Challenge.RW_shelfshares_s01_answers
import Su90Spec
set_option Elab.async false
set_option linter.all false
set_option maxRecDepth 100000
set_option maxHeartbeats 2000000
/-! The sharing told is the best one: nothing of Python here. -/
namespace MA
open Su90
/-- one more of kind k -/
def inc (m : List Nat) (k : Nat) : List Nat := m.modify k fun x => x + 1
theorem inc_len (m : List Nat) (k : Nat) : (inc m k).length = m.length := by unfold inc; simp
theorem inc_getD (m : List Nat) (k j : Nat) : (inc m k).getD j 0 = if k = j ∧ j < m.length then m.getD j 0 + 1 else m.getD j 0 := by
  unfold inc
  simp only [List.getD_eq_getElem?_getD, List.getElem?_modify]
  by_cases h : k = j
  · subst h
    by_cases hj : k < m.length
    · simp [hj]
    · have : m[k]? = none := by simp; omega
      simp [this, hj]
  · simp [h]
theorem inc_sum : ∀ (m : List Nat) (k : Nat), k < m.length → (inc m k).sum = m.sum + 1
  | [], k, h => by simp at h
  | x :: r, 0, _ => by show ((x + 1) :: r).sum = (x :: r).sum + 1; rw [List.sum_cons, List.sum_cons]; omega
  | x :: r, k + 1, h => by
    have ih := inc_sum r k (by simpa using h)
    show (x :: inc r k).sum = (x :: r).sum + 1
    rw [List.sum_cons, List.sum_cons, ih]; omega
/-- what is asked about next: the best head of what is there -/
def head (a : Abs) (m : List Nat) (k : Nat) : Nat := (a.gains k).getD (m.getD k 0) 0
def avail (a : Abs) (m : List Nat) (k : Nat) : Prop := k < a.kinds.length ∧ m.getD k 0 < (a.gains k).length
instance (a : Abs) (m : List Nat) (k : Nat) : Decidable (avail a m k) := by unfold avail; infer_instance
def pick (a : Abs) (m : List Nat) (b : Option Nat) (k : Nat) : Option Nat := match b with
  | none => some k
  | some j => if head a m j < head a m k then some k else some j
theorem next_eq (a : Abs) (m : List Nat) : a.next m = ((List.range a.kinds.length).filter fun k => decide (m.getD k 0 < (a.gains k).length)).foldl (pick a m) none := rfl
/-- the running choice over the first n kinds -/
def upto (a : Abs) (m : List Nat) (n : Nat) : Option Nat := ((List.range n).filter fun k => decide (m.getD k 0 < (a.gains k).length)).foldl (pick a m) none
theorem upto_zero (a : Abs) (m : List Nat) : upto a m 0 = none := rfl
theorem upto_succ (a : Abs) (m : List Nat) (n : Nat) : upto a m (n + 1) = if m.getD n 0 < (a.gains n).length then pick a m (upto a m n) n else upto a m n := by
  unfold upto
  rw [List.range_succ, List.filter_append, List.foldl_append]
  by_cases h : m.getD n 0 < (a.gains n).length
  · rw [if_pos h, List.filter_cons, if_pos (decide_eq_true h)]; rfl
  · rw [if_neg h, List.filter_cons, if_neg (by rw [decide_eq_true_eq]; exact h)]; rfl
theorem next_upto (a : Abs) (m : List Nat) : a.next m = upto a m a.kinds.length := rfl
theorem upto_spec (a : Abs) (m : List Nat) : ∀ n, match upto a m n with
    | none => ∀ k, k < n → ¬ m.getD k 0 < (a.gains k).length
    | some j => j < n ∧ m.getD j 0 < (a.gains j).length ∧ ∀ k, k < n → m.getD k 0 < (a.gains k).length → head a m k ≤ head a m j
  | 0 => by rw [upto_zero]; intro k h; omega
  | n + 1 => by
    have ih := upto_spec a m n
    rw [upto_succ]
    by_cases h : m.getD n 0 < (a.gains n).length
    · rw [if_pos h]
      cases e : upto a m n with
      | none =>
        rw [e] at ih
        show n < n + 1 ∧ _ ∧ _
        refine ⟨by omega, h, fun k hk hv => ?_⟩
        by_cases q : k = n
        · subst q; exact Nat.le_refl _
        · exact absurd hv (ih k (by omega))
      | some j =>
        rw [e] at ih
        obtain ⟨i1, i2, i3⟩ := ih
        show match (if head a m j < head a m n then some n else some j) with
          | none => _
          | some j => _
        by_cases q : head a m j < head a m n
        · rw [if_pos q]
          refine ⟨by omega, h, fun k hk hv => ?_⟩
          by_cases q2 : k = n
          · subst q2; exact Nat.le_refl _
          · have := i3 k (by omega) hv; omega
        · rw [if_neg q]
          refine ⟨by omega, i2, fun k hk hv => ?_⟩
          by_cases q2 : k = n
          · subst q2; omega
          · exact i3 k (by omega) hv
    · rw [if_neg h]
      cases e : upto a m n with
      | none =>
        rw [e] at ih
        intro k hk
        by_cases q : k = n
        · subst q; exact h
        · exact ih k (by omega)
      | some j =>
        rw [e] at ih
        obtain ⟨i1, i2, i3⟩ := ih
        refine ⟨by omega, i2, fun k hk hv => ?_⟩
        by_cases q2 : k = n
        · subst q2; exact absurd hv h
        · exact i3 k (by omega) hv
theorem next_none {a : Abs} {m : List Nat} (h : a.next m = none) : ∀ k, k < a.kinds.length → ¬ m.getD k 0 < (a.gains k).length := by
  have := upto_spec a m a.kinds.length
  rw [← next_upto, h] at this
  exact this
theorem next_some {a : Abs} {m : List Nat} {j : Nat} (h : a.next m = some j) : j < a.kinds.length ∧ m.getD j 0 < (a.gains j).length ∧ ∀ k, k < a.kinds.length → m.getD k 0 < (a.gains k).length → head a m k ≤ head a m j := by
  have := upto_spec a m a.kinds.length
  rw [← next_upto, h] at this
  exact this
/-! ### filling -/
def after (a : Abs) (n : Nat) (m : List Nat) : List Nat := (a.steps n m).foldl inc m
theorem best_eq (a : Abs) (r : Nat) : a.best r = after a r a.none_ := rfl
theorem steps_zero (a : Abs) (m : List Nat) : a.steps 0 m = [] := rfl
theorem steps_succ (a : Abs) (n : Nat) (m : List Nat) : a.steps (n + 1) m = match a.next m with
    | none => []
    | some k => k :: a.steps n (inc m k) := rfl
theorem after_zero (a : Abs) (m : List Nat) : after a 0 m = m := rfl
theorem after_none {a : Abs} {n : Nat} {m : List Nat} (h : a.next m = none) : after a n m = m := by
  cases n with
  | zero => rfl
  | succ n => unfold after; rw [steps_succ, h]; rfl
theorem after_some {a : Abs} {n k : Nat} {m : List Nat} (h : a.next m = some k) : after a (n + 1) m = after a n (inc m k) := by
  unfold after; rw [steps_succ, h]; rfl
def fall (l : List Nat) : Prop := ∀ i j, i ≤ j → j < l.length → l.getD j 0 ≤ l.getD i 0
theorem falling_cons {x : Nat} : ∀ {l : List Nat}, falling (x :: l) = true → (∀ y ∈ l, y ≤ x) ∧ falling l = true
  | [], _ => ⟨by simp, rfl⟩
  | y :: l, h => by
    have h' : (decide (y ≤ x) && falling (y :: l)) = true := h
    rw [Bool.and_eq_true, decide_eq_true_eq] at h'
    obtain ⟨h1, h2⟩ := h'
    refine ⟨fun z hz => ?_, h2⟩
    rcases List.mem_cons.mp hz with rfl | hz
    · exact h1
    · exact Nat.le_trans ((falling_cons h2).1 z hz) h1
theorem fall_of : ∀ {l : List Nat}, falling l = true → fall l
  | [], _ => by intro i j _ h; simp at h
  | x :: l, h => by
    obtain ⟨h1, h2⟩ := falling_cons h
    have ih := fall_of h2
    intro i j hij hj
    match i, j with
    | 0, 0 => exact Nat.le_refl _
    | 0, j + 1 =>
      simp only [List.length_cons] at hj
      have hj' : j < l.length := by omega
      show l.getD j 0 ≤ x
      rw [List.getD_eq_getElem?_getD, List.getElem?_eq_getElem hj']
      exact h1 _ (List.getElem_mem hj')
    | i + 1, 0 => omega
    | i + 1, j + 1 => exact ih i j (by omega) (by simpa using hj)
/-- of each kind no more than it has; taken pieces are worth no less than those that lie aside -/
structure Good (a : Abs) (m : List Nat) : Prop where
  len : m.length = a.kinds.length
  fit : ∀ k, k < a.kinds.length → m.getD k 0 ≤ (a.gains k).length
  ord : ∀ k i k' i', k < a.kinds.length → k' < a.kinds.length → i < m.getD k 0 → m.getD k' 0 ≤ i' → i' < (a.gains k').length → (a.gains k').getD i' 0 ≤ (a.gains k).getD i 0
def Falls (a : Abs) : Prop := ∀ k, k < a.kinds.length → fall (a.gains k)
theorem none_getD (a : Abs) (k : Nat) : a.none_.getD k 0 = 0 := by
  unfold Abs.none_
  rw [List.getD_eq_getElem?_getD, List.getElem?_replicate]
  split <;> rfl
theorem good_none (a : Abs) : Good a a.none_ := by
  refine ⟨by simp [Abs.none_], fun k _ => by rw [none_getD]; omega, fun k i k' i' _ _ h => ?_⟩
  rw [none_getD] at h; omega
theorem good_inc {a : Abs} {m : List Nat} {k : Nat} (F : Falls a) (G : Good a m) (h : a.next m = some k) : Good a (inc m k) := by
  obtain ⟨n1, n2, n3⟩ := next_some h
  have hk : k < m.length := by rw [G.len]; exact n1
  have ig : ∀ j, (inc m k).getD j 0 = if j = k then m.getD j 0 + 1 else m.getD j 0 := by
    intro j
    rw [inc_getD]
    by_cases q : j = k
    · subst q; simp [hk]
    · rw [if_neg q, if_neg (fun z => q z.1.symm)]
  refine ⟨by rw [inc_len]; exact G.len, fun j hj => ?_, fun j i j' i' hj hj' hi h1 h2 => ?_⟩
  · rw [ig]
    by_cases q : j = k
    · subst q; rw [if_pos rfl]; omega
    · rw [if_neg q]; exact G.fit j hj
  · have hm : m.getD j' 0 ≤ i' := by
      rw [ig] at h1
      by_cases q : j' = k
      · rw [if_pos q] at h1; omega
      · rw [if_neg q] at h1; exact h1
    by_cases old : i < m.getD j 0
    · exact G.ord j i j' i' hj hj' old hm h2
    · rw [ig] at hi
      by_cases q : j = k
      · subst q
        rw [if_pos rfl] at hi
        have e : i = m.getD j 0 := by omega
        subst e
        have h3 := n3 j' hj' (by omega)
        have h4 := F j' hj' (m.getD j' 0) i' hm h2
        exact Nat.le_trans h4 h3
      · rw [if_neg q] at hi; exact absurd hi old
theorem good_after {a : Abs} (F : Falls a) : ∀ (n : Nat) (m : List Nat), Good a m → Good a (after a n m)
  | 0, m, G => G
  | n + 1, m, G => by
    cases h : a.next m with
    | none => rw [after_none h]; exact G
    | some k => rw [after_some h]; exact good_after F n _ (good_inc F G h)
/-- either all places are filled, or no piece is left -/
theorem after_full {a : Abs} (F : Falls a) : ∀ (n : Nat) (m : List Nat), Good a m → (after a n m).sum = m.sum + n ∨ a.next (after a n m) = none
  | 0, m, _ => Or.inl rfl
  | n + 1, m, G => by
    cases h : a.next m with
    | none => rw [after_none h]; exact Or.inr h
    | some k =>
      rw [after_some h]
      have hk : k < m.length := by rw [G.len]; exact (next_some h).1
      rcases after_full F n _ (good_inc F G h) with e | e
      · left; rw [e, inc_sum m k hk]; omega
      · exact Or.inr e
/-! ### the exchange -/
theorem one_kind (c : Nat) : ∀ (l : List Nat) (g m : Nat), g ≤ l.length → m ≤ l.length → (∀ i, i < g → c ≤ l.getD i 0) → (∀ i, g ≤ i → i < l.length → l.getD i 0 ≤ c) → (l.take m).sum + c * g ≤ (l.take g).sum + c * m
  | [], g, m, hg, hm, _, _ => by
    have : g = 0 := by simpa using hg
    have : m = 0 := by simpa using hm
    subst_vars; simp
  | x :: l, 0, 0, _, _, _, _ => by simp
  | x :: l, 0, m + 1, _, hm, h1, h2 => by
    have ih := one_kind c l 0 m (by omega) (by simpa using hm) (fun i h => by omega) (fun i _ hi => h2 (i + 1) (by omega) (by simpa using hi))
    have hx : x ≤ c := h2 0 (by omega) (by simp)
    simp only [List.take_succ_cons, List.sum_cons, List.take_zero, List.sum_nil, Nat.mul_add, Nat.mul_zero, Nat.mul_one] at ih ⊢
    omega
  | x :: l, g + 1, 0, hg, _, h1, h2 => by
    have ih := one_kind c l g 0 (by simpa using hg) (by omega) (fun i h => h1 (i + 1) (by omega)) (fun i h hi => h2 (i + 1) (by omega) (by simpa using hi))
    have hx : c ≤ x := h1 0 (by omega)
    simp only [List.take_succ_cons, List.sum_cons, List.take_zero, List.sum_nil, Nat.mul_add, Nat.mul_zero, Nat.mul_one] at ih ⊢
    omega
  | x :: l, g + 1, m + 1, hg, hm, h1, h2 => by
    have ih := one_kind c l g m (by simpa using hg) (by simpa using hm) (fun i h => h1 (i + 1) (by omega)) (fun i h hi => h2 (i + 1) (by omega) (by simpa using hi))
    simp only [List.take_succ_cons, List.sum_cons, Nat.mul_add, Nat.mul_one] at ih ⊢
    omega
theorem sum_exch (c : Nat) (f g u v : Nat → Nat) : ∀ n, (∀ k, k < n → f k + c * v k ≤ g k + c * u k) → ((List.range n).map f).sum + c * ((List.range n).map v).sum ≤ ((List.range n).map g).sum + c * ((List.range n).map u).sum
  | 0, _ => by simp
  | n + 1, h => by
    have ih := sum_exch c f g u v n (fun k hk => h k (by omega))
    have h1 := h n (by omega)
    rw [List.range_succ]
    simp only [List.map_append, List.map_cons, List.map_nil, List.sum_append, List.sum_cons, List.sum_nil, Nat.mul_add, Nat.mul_zero] at ih ⊢
    omega
theorem sum_range_getD : ∀ (m : List Nat), ((List.range m.length).map fun k => m.getD k 0).sum = m.sum := by
  intro m
  have e : ((List.range m.length).map fun k => m.getD k 0) = m := by
    apply List.ext_getElem (by simp)
    intro i h1 h2
    simp only [List.getElem_map, List.getElem_range]
    rw [List.getD_eq_getElem?_getD, List.getElem?_eq_getElem h2]; rfl
  rw [e]
theorem best_most {a : Abs} (F : Falls a) {r : Nat} {l : List Nat} (hl : l.length = a.kinds.length) (hf : ∀ k, k < a.kinds.length → l.getD k 0 ≤ (a.gains k).length) (hs : l.sum ≤ r) : a.value l ≤ a.value (a.best r) := by
  have G : Good a (a.best r) := good_after F r _ (good_none a)
  have nz : a.none_.sum = 0 := by simp [Abs.none_]
  -- the price
  have hp : ∃ c : Nat, (∀ k, k < a.kinds.length → (∀ i, i < (a.best r).getD k 0 → c ≤ (a.gains k).getD i 0) ∧ (∀ i, (a.best r).getD k 0 ≤ i → i < (a.gains k).length → (a.gains k).getD i 0 ≤ c)) ∧ c * l.sum ≤ c * (a.best r).sum := by
    cases h : a.next (a.best r) with
    | none =>
      refine ⟨0, fun k hk => ⟨fun i _ => Nat.zero_le _, fun i h1 h2 => ?_⟩, by simp⟩
      have := next_none h k hk
      omega
    | some j =>
      obtain ⟨n1, n2, n3⟩ := next_some h
      refine ⟨head a (a.best r) j, fun k hk => ⟨fun i hi => ?_, fun i h1 h2 => ?_⟩, ?_⟩
      · exact G.ord k i j _ hk n1 hi (Nat.le_refl _) n2
      · exact Nat.le_trans (F k hk _ i h1 h2) (n3 k hk (by omega))
      · rcases after_full F r _ (good_none a) with e | e
        · rw [best_eq, e, nz]
          exact Nat.mul_le_mul_left _ (by omega)
        · rw [best_eq] at h; rw [e] at h; cases h
  obtain ⟨c, h1, h2⟩ := hp
  have key := sum_exch c (fun k => ((a.gains k).take (l.getD k 0)).sum) (fun k => ((a.gains k).take ((a.best r).getD k 0)).sum) (fun k => l.getD k 0) (fun k => (a.best r).getD k 0) a.kinds.length (fun k hk => one_kind c (a.gains k) ((a.best r).getD k 0) (l.getD k 0) (G.fit k hk) (hf k hk) (h1 k hk).1 (h1 k hk).2)
  have e1 : ((List.range a.kinds.length).map fun k => l.getD k 0).sum = l.sum := by rw [← hl]; exact sum_range_getD l
  have e2 : ((List.range a.kinds.length).map fun k => (a.best r).getD k 0).sum = (a.best r).sum := by rw [← G.len]; exact sum_range_getD _
  rw [e1, e2] at key
  show a.value l ≤ a.value (a.best r)
  unfold Abs.value
  omega
end MA
/-! Sums by pairs, counts, what is dropped. -/
namespace MA
open Su90
def zsum : List (List Nat) → List Nat → Nat
  | w :: ws, n :: ns => (w.take n).sum + zsum ws ns
  | _, _ => 0
theorem range_map_succ (f : Nat → Nat) (n : Nat) : ((List.range (n + 1)).map f).sum = f 0 + ((List.range n).map fun k => f (k + 1)).sum := by
  rw [List.range_succ_eq_map, List.map_cons, List.sum_cons, List.map_map]; rfl
theorem zsum_eq : ∀ (ks : List (List Nat)) (m : List Nat), m.length = ks.length → ((List.range ks.length).map fun k => ((ks.getD k []).take (m.getD k 0)).sum).sum = zsum ks m
  | [], [], _ => rfl
  | [], _ :: _, h => by simp at h
  | _ :: _, [], h => by simp at h
  | w :: ws, n :: ns, h => by
    have ih := zsum_eq ws ns (by simpa using h)
    rw [List.length_cons, range_map_succ]
    show (w.take n).sum + _ = (w.take n).sum + zsum ws ns
    rw [← ih]; rfl
theorem value_zsum {a : Abs} {m : List Nat} (h : m.length = a.kinds.length) : a.value m = zsum a.kinds m := zsum_eq a.kinds m h
theorem zsum_erase : ∀ (ks : List (List Nat)) (k : Nat) (l : List Nat), k < ks.length → l.length + 1 = ks.length → zsum ks (l.take k ++ 0 :: l.drop k) = zsum (ks.eraseIdx k) l
  | [], k, l, h, _ => by simp at h
  | w :: ws, 0, l, _, _ => by
    show (w.take 0).sum + zsum ws l = zsum ws l
    simp
  | w :: ws, k + 1, [], h, hl => by simp at hl; subst hl; simp at h
  | w :: ws, k + 1, x :: l, h, hl => by
    have ih := zsum_erase ws k l (by simpa using h) (by simpa using hl)
    show (w.take x).sum + zsum ws (l.take k ++ 0 :: l.drop k) = (w.take x).sum + zsum (ws.eraseIdx k) l
    rw [ih]
theorem gains_getElem {a : Abs} {k : Nat} (h : k < a.kinds.length) : a.gains k = a.kinds[k] := by
  unfold Abs.gains
  rw [List.getD_eq_getElem?_getD, List.getElem?_eq_getElem h]; rfl
theorem falls_of {a : Abs} (h : ∀ w ∈ a.kinds, falling w = true) : Falls a := fun k hk => by
  rw [gains_getElem hk]
  exact fall_of (h _ (List.getElem_mem hk))
theorem fits_iff {a : Abs} {l : List Nat} : a.fits l = true ↔ l.length = a.kinds.length ∧ ∀ k, k < a.kinds.length → l.getD k 0 ≤ (a.gains k).length := by
  unfold Abs.fits
  rw [Bool.and_eq_true, List.all_eq_true]
  simp only [beq_iff_eq, List.mem_range, decide_eq_true_eq]
theorem best_len {a : Abs} (F : Falls a) (r : Nat) : (a.best r).length = a.kinds.length := (good_after F r _ (good_none a)).len
theorem drop_le {a : Abs} (h : ∀ w ∈ a.kinds, falling w = true) {k r : Nat} (hk : k < a.kinds.length) : (a.dropped k).value ((a.dropped k).best r) ≤ a.value (a.best r) := by
  have Fa := falls_of h
  have hd : ∀ w ∈ (a.dropped k).kinds, falling w = true := fun w hw => h w (List.mem_of_mem_eraseIdx hw)
  have Fd := falls_of hd
  have Gd : Good (a.dropped k) ((a.dropped k).best r) := good_after Fd r _ (good_none _)
  have lk : (a.dropped k).kinds.length + 1 = a.kinds.length := by
    show (a.kinds.eraseIdx k).length + 1 = _
    rw [List.length_eraseIdx]; rw [if_pos hk]; omega
  generalize e : (a.dropped k).best r = l at Gd
  have hl : l.length + 1 = a.kinds.length := by rw [Gd.len]; exact lk
  have hs : l.sum ≤ r := by
    rw [← e]
    have : ∀ (b : Abs), Falls b → (b.best r).sum ≤ r := fun b Fb => by
      have : ∀ (n : Nat) (m : List Nat), Good b m → (after b n m).sum ≤ m.sum + n := by
        intro n
        induction n with
        | zero => intro m _; exact Nat.le_refl _
        | succ n ih =>
          intro m G
          cases q : b.next m with
          | none => rw [after_none q]; omega
          | some j =>
            rw [after_some q]
            have := ih _ (good_inc Fb G q)
            rw [inc_sum m j (by rw [G.len]; exact (next_some q).1)] at this
            omega
      have := this r _ (good_none b)
      have nz : b.none_.sum = 0 := by simp [Abs.none_]
      rw [nz] at this
      rw [best_eq]; omega
    exact this _ Fd
  have hlen : (l.take k ++ 0 :: l.drop k).length = a.kinds.length := by
    simp; omega
  rw [value_zsum Gd.len]
  show zsum (a.kinds.eraseIdx k) l ≤ _
  rw [← zsum_erase a.kinds k l hk hl, ← value_zsum hlen]
  refine best_most Fa hlen (fun j hj => ?_) ?_
  · -- of each kind no more than it has
    have ek : ∀ j, (l.take k ++ 0 :: l.drop k).getD j 0 = if j < k then l.getD j 0 else if j = k then 0 else l.getD (j - 1) 0 := by
      intro j
      simp only [List.getD_eq_getElem?_getD]
      by_cases c1 : j < k
      · rw [if_pos c1, List.getElem?_append_left (by simp; omega), List.getElem?_take_of_lt c1]
      · rw [if_neg c1, List.getElem?_append_right (by simp; omega)]
        have hm : (l.take k).length = k := by simp; omega
        rw [hm]
        by_cases c2 : j = k
        · rw [if_pos c2, c2, Nat.sub_self]; rfl
        · rw [if_neg c2]
          obtain ⟨d, rfl⟩ : ∃ d, j = k + d + 1 := ⟨j - k - 1, by omega⟩
          have : k + d + 1 - k = d + 1 := by omega
          rw [this, List.getElem?_cons_succ, List.getElem?_drop]
          rfl
    rw [ek]
    have gd : ∀ i, (a.dropped k).gains i = if i < k then a.gains i else a.gains (i + 1) := by
      intro i
      unfold Abs.gains Abs.dropped
      simp only [List.getD_eq_getElem?_getD, List.getElem?_eraseIdx]
      split <;> rfl
    by_cases c1 : j < k
    · rw [if_pos c1]
      have := Gd.fit j (by omega)
      rw [gd, if_pos c1] at this
      exact this
    · rw [if_neg c1]
      by_cases c2 : j = k
      · rw [if_pos c2]; omega
      · rw [if_neg c2]
        have := Gd.fit (j - 1) (by omega)
        rw [gd, if_neg (by omega)] at this
        have e1 : j - 1 + 1 = j := by omega
        rw [e1] at this
        exact this
  · rw [List.sum_append, List.sum_cons]
    have : l.sum = (l.take k).sum + (l.drop k).sum := by rw [← List.sum_append, List.take_append_drop]
    omega
/-! ### counts -/
theorem steps_lt {a : Abs} : ∀ (n : Nat) (m : List Nat), ∀ k ∈ a.steps n m, k < a.kinds.length
  | 0, m, k, h => by cases h
  | n + 1, m, k, h => by
    rw [steps_succ] at h
    cases e : a.next m with
    | none => rw [e] at h; cases h
    | some j =>
      rw [e] at h
      rcases List.mem_cons.mp h with rfl | h
      · exact (next_some e).1
      · exact steps_lt n _ k h
theorem steps_len {a : Abs} : ∀ (n : Nat) (m : List Nat), (a.steps n m).length ≤ n
  | 0, m => Nat.le_refl _
  | n + 1, m => by
    rw [steps_succ]
    cases e : a.next m with
    | none => exact Nat.zero_le _
    | some j => exact Nat.succ_le_succ (steps_len n _)
theorem fold_inc_len : ∀ (s m : List Nat), (s.foldl inc m).length = m.length
  | [], m => rfl
  | k :: s, m => by rw [List.foldl_cons, fold_inc_len s, inc_len]
theorem fold_inc_getD : ∀ (s m : List Nat) (j : Nat), (∀ k ∈ s, k < m.length) → (s.foldl inc m).getD j 0 = m.getD j 0 + s.count j
  | [], m, j, _ => by simp
  | k :: s, m, j, h => by
    rw [List.foldl_cons, fold_inc_getD s (inc m k) j (fun i hi => by rw [inc_len]; exact h i (List.mem_cons_of_mem _ hi)), inc_getD, List.count_cons]
    have hk := h k List.mem_cons_self
    by_cases c : k = j
    · subst c; simp [hk]; omega
    · simp [c]
theorem best_count (a : Abs) (r : Nat) : a.best r = (List.range a.kinds.length).map fun k => (a.steps r a.none_).count k := by
  have hl : (a.best r).length = a.kinds.length := by
    rw [best_eq, after, fold_inc_len]; simp [Abs.none_]
  apply List.ext_getElem (by rw [hl]; simp)
  intro i h1 h2
  have h3 := fold_inc_getD (a.steps r a.none_) a.none_ i (fun k hk => by have := steps_lt r a.none_ k hk; simpa [Abs.none_] using this)
  rw [none_getD, Nat.zero_add] at h3
  have : (a.best r).getD i 0 = (a.best r)[i] := by rw [List.getD_eq_getElem?_getD, List.getElem?_eq_getElem h1]; rfl
  rw [← this]
  simp only [List.getElem_map, List.getElem_range]
  exact h3
theorem best_len' (a : Abs) (r : Nat) : (a.best r).length = a.kinds.length := by rw [best_count]; simp
/-- sums over numbers and over naturals -/
theorem sum_cast : ∀ l : List Nat, (l.map fun n : Nat => (n : Int)).sum = ((l.sum : Nat) : Int)
  | [] => rfl
  | x :: l => by rw [List.map_cons, List.sum_cons, List.sum_cons, sum_cast l]; omega
end MA
/-! The list of calls, taken apart. -/
namespace MA
open PyFlat
/-- a call's number and its numbers -/
def numOf (c : List (List Int)) : Int := (c.headD []).headD 0
def argsOf (c : List (List Int)) : List Int := (c.headD []).tail ++ c.tail.flatten
/-- how many whole numbers; none: one row -/
def sizeOf (p : Int) : Option Nat := match PySu90.shape p with
  | some (n, 0) => some n
  | _ => none
theorem shape_mem {p : Int} {x : Nat × Nat} (h : PySu90.shape p = some x) : p = 0 ∨ p = 1 ∨ p = 2 ∨ p = 3 ∨ p = 4 ∨ p = 5 ∨ p = 6 ∨ p = 7 ∨ p = 8 ∨ p = 9 ∨ p = 10 ∨ p = 11 ∨ p = 12 ∨ p = 13 ∨ p = 14 ∨ p = 15 ∨ p = 16 ∨ p = 17 ∨ p = 18 ∨ p = 19 ∨ p = 20 := by
  apply Classical.byContradiction
  intro hn
  simp only [not_or] at hn
  obtain ⟨h0, h1, h2, h3, h4, h5, h6, h7, h8, h9, h10, h11, h12, h13, h14, h15, h16, h17, h18, h19, h20⟩ := hn
  unfold PySu90.shape at h
  rw [if_neg h0, if_neg h1, if_neg h2, if_neg h3, if_neg h4, if_neg h5, if_neg h6, if_neg h7, if_neg h8, if_neg h9, if_neg h10, if_neg h11, if_neg h12, if_neg h13, if_neg h14, if_neg h15, if_neg h16, if_neg h17, if_neg h18, if_neg h19, if_neg h20] at h
  cases h
theorem shape_cases {p : Int} {n k : Nat} (h : PySu90.shape p = some (n, k)) : (k = 0 ∧ n ≤ 3 ∧ sizeOf p = some n) ∨ (k = 1 ∧ n = 0 ∧ sizeOf p = none) := by
  rcases shape_mem h with rfl | rfl | rfl | rfl | rfl | rfl | rfl | rfl | rfl | rfl | rfl | rfl | rfl | rfl | rfl | rfl | rfl | rfl | rfl | rfl | rfl
  all_goals (have e := Prod.mk.inj (Option.some.inj h); obtain ⟨rfl, rfl⟩ := e)
  all_goals first
    | exact Or.inl ⟨rfl, by decide, rfl⟩
    | exact Or.inr ⟨rfl, rfl, rfl⟩
theorem row_some {r x s : List Int} (h : row r = some (x, s)) : ∃ z r', r = z :: r' ∧ 0 ≤ z ∧ z.toNat ≤ r'.length ∧ x = r'.take z.toNat ∧ s = r'.drop z.toNat := by
  cases r with
  | nil => cases h
  | cons z r' =>
    simp only [row] at h
    split at h
    · rename_i c
      have e := Prod.mk.inj (Option.some.inj h)
      exact ⟨z, r', rfl, c.1, c.2, e.1.symm, e.2.symm⟩
    · cases h
/-- one call at the head of what is left -/
theorem calls_turn {f : Nat} {p : Int} {r : List Int} {cs : List (List (List Int))} (h : calls PySu90.shape (f + 1) (p :: r) = some cs) :
    ∃ c cs' t, cs = c :: cs' ∧ calls PySu90.shape f t = some cs' ∧ numOf c = p ∧
      ((∃ n, sizeOf p = some n ∧ n ≤ 3 ∧ n ≤ r.length ∧ c = [p :: r.take n] ∧ argsOf c = r.take n ∧ t = r.drop n) ∨
       (∃ z r', sizeOf p = none ∧ r = z :: r' ∧ 0 ≤ z ∧ z.toNat ≤ r'.length ∧ c = [[p], r'.take z.toNat] ∧ argsOf c = r'.take z.toNat ∧ t = r'.drop z.toNat)) := by
  simp only [calls] at h
  cases e1 : call PySu90.shape (p :: r) with
  | none => rw [e1] at h; cases h
  | some ct =>
    obtain ⟨c, t⟩ := ct
    rw [e1] at h
    simp only at h
    cases e2 : calls PySu90.shape f t with
    | none => rw [e2] at h; cases h
    | some cs' =>
      rw [e2] at h
      simp only [Option.some.injEq] at h
      simp only [call] at e1
      cases e3 : PySu90.shape p with
      | none => rw [e3] at e1; cases e1
      | some nk =>
        obtain ⟨n, k⟩ := nk
        rw [e3] at e1
        simp only at e1
        split at e1
        · cases e1
        · rename_i hn
          rcases shape_cases e3 with ⟨rfl, n3, hs⟩ | ⟨rfl, rfl, hs⟩
          · simp only [rows, Option.some.injEq, Prod.mk.injEq] at e1
            obtain ⟨rfl, rfl⟩ := e1
            exact ⟨_, cs', _, h.symm, e2, rfl, Or.inl ⟨n, hs, n3, by omega, rfl, by simp [argsOf], rfl⟩⟩
          · simp only [rows, List.drop_zero] at e1
            cases e4 : row r with
            | none => rw [e4] at e1; cases e1
            | some xs =>
              obtain ⟨x, s⟩ := xs
              rw [e4] at e1
              simp only [Option.some.injEq, Prod.mk.injEq, List.take_zero] at e1
              obtain ⟨rfl, rfl⟩ := e1
              obtain ⟨z, r', rfl, z0, zl, rfl, rfl⟩ := row_some e4
              exact ⟨_, cs', _, h.symm, e2, rfl, Or.inr ⟨z, r', hs, rfl, z0, zl, rfl, by simp [argsOf], rfl⟩⟩
theorem calls_nil {f : Nat} {cs : List (List (List Int))} (h : calls PySu90.shape f [] = some cs) : cs = [] := by
  cases f <;> (simp only [calls] at h; exact (Option.some.inj h).symm)
theorem calls_zero {p : Int} {r : List Int} {cs : List (List (List Int))} (h : calls PySu90.shape 0 (p :: r) = some cs) : False := by
  simp only [calls] at h; cases h
/-- a call of the form that the reading makes: its shape is its number's -/
def Formed (c : List (List Int)) : Prop := ∃ p : Int, (∃ l n, c = [p :: l] ∧ PySu90.shape p = some (n, 0) ∧ l.length = n) ∨ (∃ l, c = [[p], l] ∧ PySu90.shape p = some (0, 1))
theorem calls_formed : ∀ (f : Nat) (l : List Int) (cs : List (List (List Int))), calls PySu90.shape f l = some cs → ∀ c ∈ cs, Formed c
  | f, [], cs, h, c, hc => by rw [calls_nil h] at hc; cases hc
  | 0, _ :: _, cs, h, c, hc => (calls_zero h).elim
  | f + 1, p :: r, cs, h, c, hc => by
    obtain ⟨c0, cs', t, rfl, h2, _, q⟩ := calls_turn h
    rcases List.mem_cons.mp hc with rfl | hc
    · rcases q with ⟨n, hs, _, hn, rfl, _, _⟩ | ⟨z, r', hs, _, _, _, rfl, _, _⟩
      · refine ⟨p, Or.inl ⟨_, n, rfl, ?_, by simp; omega⟩⟩
        unfold sizeOf at hs
        split at hs
        · rename_i n' e; rw [e]; cases hs; rfl
        · cases hs
      · refine ⟨p, Or.inr ⟨_, rfl, ?_⟩⟩
        have hsh : ∃ nk, PySu90.shape p = some nk := by
          cases e : PySu90.shape p with
          | none =>
            simp only [calls, call, e] at h
            cases h
          | some nk => exact ⟨nk, rfl⟩
        obtain ⟨⟨n, k⟩, e⟩ := hsh
        rcases shape_cases e with ⟨_, _, q⟩ | ⟨rfl, rfl, _⟩
        · rw [hs] at q; cases q
        · exact e
    · exact calls_formed f t cs' h2 c hc
theorem calls_len : ∀ (f : Nat) (l : List Int) (cs : List (List (List Int))), calls PySu90.shape f l = some cs → cs.length ≤ l.length
  | f, [], cs, h => by rw [calls_nil h]; exact Nat.le_refl _
  | 0, _ :: _, cs, h => (calls_zero h).elim
  | f + 1, p :: r, cs, h => by
    obtain ⟨c0, cs', t, rfl, h2, _, q⟩ := calls_turn h
    have := calls_len f t cs' h2
    have ht : t.length ≤ r.length := by
      rcases q with ⟨n, _, _, _, _, _, rfl⟩ | ⟨z, r', _, rfl, _, _, _, _, rfl⟩ <;> simp <;> omega
    simp only [List.length_cons]; omega
theorem len0 {l : List Int} (h : l.length = 0) : l = [] := List.length_eq_zero_iff.mp h
theorem len1 {l : List Int} (h : l.length = 1) : ∃ x, l = [x] := match l, h with
  | [x], _ => ⟨x, rfl⟩
theorem len2 {l : List Int} (h : l.length = 2) : ∃ x y, l = [x, y] := match l, h with
  | [x, y], _ => ⟨x, y, rfl⟩
theorem len3 {l : List Int} (h : l.length = 3) : ∃ x y z, l = [x, y, z] := match l, h with
  | [x, y, z], _ => ⟨x, y, z, rfl⟩
/-- the document's call is the number and its numbers -/
theorem whole_formed {c : List (List Int)} (h : Formed c) : (PySu90.whole c).headD [] = numOf c :: argsOf c := by
  obtain ⟨p, ⟨l, n, rfl, hs, hl⟩ | ⟨l, rfl, hs⟩⟩ := h
  · show _ = p :: (l ++ [])
    rw [List.append_nil]
    rcases shape_mem hs with rfl | rfl | rfl | rfl | rfl | rfl | rfl | rfl | rfl | rfl | rfl | rfl | rfl | rfl | rfl | rfl | rfl | rfl | rfl | rfl | rfl
    all_goals (have e := Prod.mk.inj (Option.some.inj hs))
    all_goals first
      | (cases e.2; done)
      | (have e1 := e.1; subst e1
         first
           | (obtain rfl := len0 hl; rfl)
           | (obtain ⟨x, rfl⟩ := len1 hl; rfl)
           | (obtain ⟨x, y, rfl⟩ := len2 hl; rfl)
           | (obtain ⟨x, y, z, rfl⟩ := len3 hl; rfl))
  · show _ = p :: ([] ++ (l ++ []))
    rw [List.append_nil, List.nil_append]
    rcases shape_mem hs with rfl | rfl | rfl | rfl | rfl | rfl | rfl | rfl | rfl | rfl | rfl | rfl | rfl | rfl | rfl | rfl | rfl | rfl | rfl | rfl | rfl
    all_goals first
      | rfl
      | (have e := (Prod.mk.inj (Option.some.inj hs)).2; cases e; done)
end MA
/-! Sellers: prices, costs, the first of the least, steps. -/
namespace MA
open Su90
/-- what the walk over the steps has: the last step from no more than q on -/
theorem price_fold (q : Nat) : ∀ (s : List (Nat × Nat)) (d : Nat × Nat), s.foldl (fun p x => if x.1 ≤ q then x.2 else p) d.2 = ((s.filter fun x => decide (x.1 ≤ q)).getLastD d).2
  | [], d => rfl
  | x :: s, d => by
    rw [List.foldl_cons]
    by_cases c : x.1 ≤ q
    · rw [if_pos c, List.filter_cons_of_pos (by simpa using c), List.getLastD_cons]
      exact price_fold q s x
    · rw [if_neg c, List.filter_cons_of_neg (by simpa using c)]
      exact price_fold q s d
theorem priceAt_fold (s : List (Nat × Nat)) (q : Nat) : s.foldl (fun p x => if x.1 ≤ q then x.2 else p) 0 = priceAt s q := price_fold q s (0, 0)
/-- the price behind the first i steps -/
def priceTo (s : List (Nat × Nat)) (q i : Nat) : Nat := (s.take i).foldl (fun p x => if x.1 ≤ q then x.2 else p) 0
theorem priceTo_zero (s : List (Nat × Nat)) (q : Nat) : priceTo s q 0 = 0 := rfl
theorem priceTo_succ {s : List (Nat × Nat)} {q i : Nat} {x : Nat × Nat} (h : s[i]? = some x) : priceTo s q (i + 1) = if x.1 ≤ q then x.2 else priceTo s q i := by
  unfold priceTo
  rw [List.take_add_one, h]
  simp only [Option.toList_some, List.foldl_append, List.foldl_cons, List.foldl_nil]
theorem priceTo_all (s : List (Nat × Nat)) (q : Nat) : priceTo s q s.length = priceAt s q := by
  unfold priceTo
  rw [List.take_length, priceAt_fold]
/-- what 0 to 60 cost -/
def costs (s : List (Nat × Nat)) : List Nat := (List.range 61).map (cost s)
theorem costs_len (s : List (Nat × Nat)) : (costs s).length = 61 := by simp [costs]
theorem costs_get {s : List (Nat × Nat)} {q : Nat} (h : q < 61) : (costs s).getD q 0 = cost s q := by
  unfold costs
  rw [List.getD_eq_getElem?_getD, List.getElem?_map, List.getElem?_range h]; rfl
/-- j is the first of the least from n on -/
structure First (cs : List Nat) (n j : Nat) : Prop where
  lo : n ≤ j
  hi : j < cs.length
  least : ∀ q, n ≤ q → q < cs.length → cs.getD j 0 ≤ cs.getD q 0
  first : ∀ q, n ≤ q → q < j → cs.getD j 0 < cs.getD q 0
/-- the walk that keeps the first of the least, from n on below k -/
def argm (f : Nat → Nat) (n k : Nat) : Nat := ((List.range k).filter fun q => decide (n ≤ q)).foldl (fun b q => if f q < f b then q else b) n
theorem argm_succ (f : Nat → Nat) (n k : Nat) : argm f n (k + 1) = if n ≤ k then (if f k < f (argm f n k) then k else argm f n k) else argm f n k := by
  unfold argm
  rw [List.range_succ, List.filter_append, List.foldl_append]
  by_cases c : n ≤ k
  · rw [if_pos c, List.filter_cons_of_pos (by simpa using c)]; rfl
  · rw [if_neg c, List.filter_cons_of_neg (by simpa using c)]; rfl
theorem argm_low (f : Nat → Nat) (n : Nat) : ∀ k, k ≤ n → argm f n k = n
  | 0, _ => rfl
  | k + 1, h => by
    rw [argm_succ, if_neg (by omega)]
    exact argm_low f n k (by omega)
theorem argm_spec (f : Nat → Nat) (n : Nat) : ∀ k, n < k → n ≤ argm f n k ∧ argm f n k < k ∧ (∀ q, n ≤ q → q < k → f (argm f n k) ≤ f q) ∧ (∀ q, n ≤ q → q < argm f n k → f (argm f n k) < f q)
  | 0, h => by omega
  | k + 1, h => by
    rw [argm_succ, if_pos (by omega)]
    by_cases c0 : k = n
    · subst c0
      rw [argm_low f k k (Nat.le_refl _), if_neg (Nat.lt_irrefl _)]
      exact ⟨Nat.le_refl _, by omega, fun q h1 h2 => by rw [show q = k by omega]; exact Nat.le_refl _, fun q h1 h2 => by omega⟩
    · obtain ⟨a1, a2, a3, a4⟩ := argm_spec f n k (by omega)
      by_cases c : f k < f (argm f n k)
      · rw [if_pos c]
        refine ⟨by omega, by omega, fun q h1 h2 => ?_, fun q h1 h2 => ?_⟩
        · by_cases e : q = k
          · subst e; exact Nat.le_refl _
          · exact Nat.le_of_lt (Nat.lt_of_lt_of_le c (a3 q h1 (by omega)))
        · exact Nat.lt_of_lt_of_le c (a3 q h1 h2)
      · rw [if_neg c]
        refine ⟨a1, by omega, fun q h1 h2 => ?_, a4⟩
        by_cases e : q = k
        · subst e; omega
        · exact a3 q h1 (by omega)
theorem first_argm {f : Nat → Nat} {n k : Nat} {cs : List Nat} (hl : cs.length = k) (hf : ∀ q, q < k → cs.getD q 0 = f q) (h : n < k) : First cs n (argm f n k) := by
  obtain ⟨a1, a2, a3, a4⟩ := argm_spec f n k h
  refine ⟨a1, by omega, fun q h1 h2 => ?_, fun q h1 h2 => ?_⟩
  · rw [hf _ a2, hf q (by omega)]; exact a3 q h1 (by omega)
  · rw [hf _ a2, hf q (by omega)]; exact a4 q h1 h2
theorem buy_argm (s : List (Nat × Nat)) (n : Nat) : buy s n = argm (cost s) n 61 := rfl
theorem first_buy {s : List (Nat × Nat)} {n : Nat} (h : n ≤ 60) : First (costs s) n (buy s n) := by
  rw [buy_argm]
  exact first_argm (costs_len s) (fun q hq => costs_get hq) (by omega)
theorem buy_le {s : List (Nat × Nat)} {n : Nat} (h : n ≤ 60) : buy s n < 61 := by
  have := (first_buy (s := s) h).hi
  rwa [costs_len] at this
theorem filter_all (k : Nat) : (List.range k).filter (fun q => decide (0 ≤ q)) = List.range k := by
  rw [List.filter_eq_self]; intro a _; simp
theorem fold_map (g : Nat → Nat × Nat) (c : Nat × Nat → Nat) : ∀ (l : List Nat) (b : Nat), (l.map g).foldl (fun b x => if c x < c b then x else b) (g b) = g (l.foldl (fun b q => if c (g q) < c (g b) then q else b) b)
  | [], b => rfl
  | x :: l, b => by
    rw [List.map_cons, List.foldl_cons, List.foldl_cons]
    by_cases h : c (g x) < c (g b)
    · rw [if_pos h, if_pos h]; exact fold_map g c l x
    · rw [if_neg h, if_neg h]; exact fold_map g c l b
/-- of two: what it costs with i of the first -/
def both2 (s t : List (Nat × Nat)) (n i : Nat) : Nat := cost s i + cost t (buy t (n - i))
def of1 (s t : List (Nat × Nat)) (n : Nat) : Nat := argm (both2 s t n) 0 61
theorem two_eq (s t : List (Nat × Nat)) (n : Nat) : two s t n = (of1 s t n, buy t (n - of1 s t n)) := by
  have h := fold_map (fun i => (i, buy t (n - i))) (fun x => cost s x.1 + cost t x.2) (List.range 61) 0
  have e : of1 s t n = (List.range 61).foldl (fun b q => if both2 s t n q < both2 s t n b then q else b) 0 := by
    unfold of1 argm
    rw [filter_all]
  rw [e]
  exact h
def togethers (s t : List (Nat × Nat)) (n : Nat) : List Nat := (List.range 61).map (both2 s t n)
theorem togethers_len (s t : List (Nat × Nat)) (n : Nat) : (togethers s t n).length = 61 := by simp [togethers]
theorem togethers_get {s t : List (Nat × Nat)} {n q : Nat} (h : q < 61) : (togethers s t n).getD q 0 = both2 s t n q := by
  unfold togethers
  rw [List.getD_eq_getElem?_getD, List.getElem?_map, List.getElem?_range h]; rfl
theorem first_of1 (s t : List (Nat × Nat)) (n : Nat) : First (togethers s t n) 0 (of1 s t n) := first_argm (togethers_len s t n) (fun q hq => togethers_get hq) (by omega)
/-- the cheapest seller -/
theorem first_cheap {f : Nat → Nat} {k : Nat} {cs : List Nat} (hl : cs.length = k) (hf : ∀ q, q < k → cs.getD q 0 = f q) (h : 0 < k) : First cs 0 ((List.range k).foldl (fun b s => if f s < f b then s else b) 0) := by
  have := first_argm hl hf h
  unfold argm at this
  rw [filter_all] at this
  exact this
/-- the most that cost no more, walked through -/
def mostTo (s : List (Nat × Nat)) (c k : Nat) : Nat := (List.range k).foldl (fun m q => if cost s q ≤ c then q else m) 0
theorem mostTo_succ (s : List (Nat × Nat)) (c k : Nat) : mostTo s c (k + 1) = if cost s k ≤ c then k else mostTo s c k := by
  unfold mostTo
  rw [List.range_succ, List.foldl_append]; rfl
theorem mostTo_le (s : List (Nat × Nat)) (c : Nat) : ∀ k, mostTo s c k ≤ k
  | 0 => Nat.le_refl _
  | k + 1 => by
    rw [mostTo_succ]
    have := mostTo_le s c k
    split <;> omega
theorem mostTo_lt (s : List (Nat × Nat)) (c : Nat) : mostTo s c 61 < 61 := by
  rw [mostTo_succ]
  have := mostTo_le s c 60
  split <;> omega
theorem most_fold (s : List (Nat × Nat)) (c : Nat) : ∀ k, ((List.range k).filter fun q => decide (cost s q ≤ c)).foldl max 0 = mostTo s c k
  | 0 => rfl
  | k + 1 => by
    rw [List.range_succ, List.filter_append, List.foldl_append, most_fold s c k, mostTo_succ]
    have := mostTo_le s c k
    by_cases h : cost s k ≤ c
    · rw [if_pos h, List.filter_cons_of_pos (by simpa using h)]
      show max (mostTo s c k) k = k
      omega
    · rw [if_neg h, List.filter_cons_of_neg (by simpa using h)]; rfl
theorem most_eq (s : List (Nat × Nat)) (c : Nat) : most s c = mostTo s c 61 := most_fold s c 61
/-! ### steps one behind another -/
def evens (l : List Nat) : List Nat := (pairs l).map (·.1)
def odds (l : List Nat) : List Nat := (pairs l).map (·.2)
theorem pairs_len : ∀ l : List Nat, (pairs l).length = l.length / 2
  | [] => rfl
  | [_] => by simp [pairs]
  | x :: y :: l => by
    show (pairs l).length + 1 = (l.length + 1 + 1) / 2
    rw [pairs_len l]; omega
theorem pairs_get : ∀ (l : List Nat) (i : Nat), 2 * i + 1 < l.length → (pairs l)[i]? = some (l.getD (2 * i) 0, l.getD (2 * i + 1) 0)
  | [], i, h => by simp at h
  | [_], i, h => by simp at h
  | x :: y :: l, 0, h => rfl
  | x :: y :: l, i + 1, h => by
    have ih := pairs_get l i (by simp at h; omega)
    show (pairs l)[i]? = _
    rw [ih]
    have e1 : 2 * (i + 1) = 2 * i + 2 := by omega
    rw [e1]
    rfl
theorem evens_len (l : List Nat) : (evens l).length = l.length / 2 := by simp [evens, pairs_len]
theorem odds_len (l : List Nat) : (odds l).length = l.length / 2 := by simp [odds, pairs_len]
theorem evens_get {l : List Nat} {i : Nat} (h : 2 * i + 1 < l.length) : (evens l)[i]? = some (l.getD (2 * i) 0) := by
  unfold evens
  rw [List.getElem?_map, pairs_get l i h]; rfl
theorem odds_get {l : List Nat} {i : Nat} (h : 2 * i + 1 < l.length) : (odds l)[i]? = some (l.getD (2 * i + 1) 0) := by
  unfold odds
  rw [List.getElem?_map, pairs_get l i h]; rfl
/-- rising, pair by pair -/
def rising : List Nat → Bool
  | x :: y :: l => decide (x < y) && rising (y :: l)
  | _ => true
theorem falling_iff : ∀ l : List Nat, falling l = true ↔ ∀ i, i + 1 < l.length → l.getD (i + 1) 0 ≤ l.getD i 0
  | [] => by simp [falling]
  | [_] => by simp [falling]
  | x :: y :: l => by
    have ih := falling_iff (y :: l)
    show (decide (y ≤ x) && falling (y :: l)) = true ↔ _
    rw [Bool.and_eq_true, decide_eq_true_eq, ih]
    constructor
    · rintro ⟨h1, h2⟩ i hi
      cases i with
      | zero => exact h1
      | succ i => exact h2 i (by simpa using hi)
    · intro h
      exact ⟨h 0 (by simp), fun i hi => h (i + 1) (by simpa using hi)⟩
theorem rising_iff : ∀ l : List Nat, rising l = true ↔ ∀ i, i + 1 < l.length → l.getD i 0 < l.getD (i + 1) 0
  | [] => by simp [rising]
  | [_] => by simp [rising]
  | x :: y :: l => by
    have ih := rising_iff (y :: l)
    show (decide (x < y) && rising (y :: l)) = true ↔ _
    rw [Bool.and_eq_true, decide_eq_true_eq, ih]
    constructor
    · rintro ⟨h1, h2⟩ i hi
      cases i with
      | zero => exact h1
      | succ i => exact h2 i (by simpa using hi)
    · intro h
      exact ⟨h 0 (by simp), fun i hi => h (i + 1) (by simpa using hi)⟩
theorem fst_getD (s : List (Nat × Nat)) (i : Nat) : (s.map (·.1)).getD i 0 = (s.getD i (0, 0)).1 := by
  rw [List.getD_eq_getElem?_getD, List.getD_eq_getElem?_getD, List.getElem?_map]
  cases s[i]? <;> rfl
theorem snd_getD (s : List (Nat × Nat)) (i : Nat) : (s.map (·.2)).getD i 0 = (s.getD i (0, 0)).2 := by
  rw [List.getD_eq_getElem?_getD, List.getD_eq_getElem?_getD, List.getElem?_map]
  cases s[i]? <;> rfl
theorem okS_iff (s : List (Nat × Nat)) : okS s = true ↔ 1 ≤ s.length ∧ s.length ≤ 4 ∧ (s.map (·.1)).getD 0 0 = 1 ∧ rising (s.map (·.1)) = true ∧ falling (s.map (·.2)) = true ∧ (∀ x ∈ s.map (·.1), x ≤ 60) ∧ (∀ x ∈ s.map (·.2), x ≤ 1000) := by
  unfold okS
  simp only [Bool.and_eq_true, decide_eq_true_eq, List.all_eq_true, beq_iff_eq, List.mem_range]
  rw [rising_iff, falling_iff]
  simp only [fst_getD, snd_getD, List.length_map]
  have hh : s.headD (0, 0) = s.getD 0 (0, 0) := by cases s <;> rfl
  rw [hh]
  constructor
  · rintro ⟨h1, h2, h3, h4, h5⟩
    refine ⟨h1, h2, h3, fun i hi => (h4 i (by omega)).1, fun i hi => (h4 i (by omega)).2, fun x hx => ?_, fun x hx => ?_⟩
    · obtain ⟨y, hy, rfl⟩ := List.mem_map.mp hx
      exact (h5 y hy).1
    · obtain ⟨y, hy, rfl⟩ := List.mem_map.mp hx
      exact (h5 y hy).2
  · rintro ⟨h1, h2, h3, h4, h5, h6, h7⟩
    exact ⟨h1, h2, h3, fun i hi => ⟨h4 i (by omega), h5 i (by omega)⟩, fun x hx => ⟨h6 _ (List.mem_map.mpr ⟨x, hx, rfl⟩), h7 _ (List.mem_map.mpr ⟨x, hx, rfl⟩)⟩⟩
end MA
/-! Calls by their numbers; all of a call's numbers are of the list. -/
namespace MA
open PyFlat
theorem calls_mem : ∀ (f : Nat) (l : List Int) (cs : List (List (List Int))), calls PySu90.shape f l = some cs → ∀ c ∈ cs, ∀ x ∈ argsOf c, x ∈ l
  | f, [], cs, h, c, hc => by rw [calls_nil h] at hc; cases hc
  | 0, _ :: _, cs, h, c, hc => (calls_zero h).elim
  | f + 1, p :: r, cs, h, c, hc => by
    obtain ⟨c0, cs', t, rfl, h2, _, q⟩ := calls_turn h
    intro x hx
    rcases List.mem_cons.mp hc with rfl | hc
    · rcases q with ⟨n, _, _, _, _, e, _⟩ | ⟨z, r', _, e1, _, _, _, e, _⟩
      · rw [e] at hx
        exact List.mem_cons_of_mem _ (List.mem_of_mem_take hx)
      · rw [e] at hx
        rw [e1]
        exact List.mem_cons_of_mem _ (List.mem_cons_of_mem _ (List.mem_of_mem_take hx))
    · have hm := calls_mem f t cs' h2 c hc x hx
      rcases q with ⟨n, _, _, _, _, _, e⟩ | ⟨z, r', _, e1, _, _, _, _, e⟩
      · rw [e] at hm
        exact List.mem_cons_of_mem _ (List.mem_of_mem_drop hm)
      · rw [e] at hm
        rw [e1]
        exact List.mem_cons_of_mem _ (List.mem_cons_of_mem _ (List.mem_of_mem_drop hm))
def one (f : Nat → Su90.Call) : List Nat → Option Su90.Call
  | [x] => some (f x)
  | _ => none
def none0 (c : Su90.Call) : List Nat → Option Su90.Call
  | [] => some c
  | _ => none
def both (f : Nat → Nat → Su90.Call) : List Nat → Option Su90.Call
  | [x, y] => some (f x y)
  | _ => none
def three (f : Nat → Nat → Nat → Su90.Call) : List Nat → Option Su90.Call
  | [x, y, z] => some (f x y z)
  | _ => none
def row (f : List Nat → Su90.Call) (l : List Nat) : Option Su90.Call := some (f l)
/-- the call of a number and its numbers -/
def callN : Nat → List Nat → Option Su90.Call
  | 0 => one .begin_
  | 1 => row .kind
  | 2 => one .drop
  | 3 => one .room
  | 4 => none0 .best
  | 5 => one .at_
  | 6 => one .price
  | 7 => none0 .steps
  | 8 => row .value
  | 9 => both .worth
  | 10 => one .without
  | 11 => row .would
  | 12 => row .seller
  | 13 => one .away
  | 14 => both .cost
  | 15 => both .buy
  | 16 => one .cheapest
  | 17 => three .two
  | 18 => both .upTo
  | 19 => none0 .sums
  | 20 => none0 .state
  | _ => fun _ => none
theorem nats_of {l : List Int} (h : ∀ x ∈ l, 0 ≤ x) : (l.map Int.toNat).map (fun n : Nat => (n : Int)) = l := by
  rw [List.map_map]
  conv => rhs; rw [← List.map_id l]
  apply List.map_congr_left
  intro x hx
  have := h x hx
  show ((x.toNat : Nat) : Int) = x
  omega
theorem formed_call {c : List (List Int)} (h : Formed c) (h0 : ∀ x ∈ argsOf c, 0 ≤ x) : ∃ (n : Nat) (x : Su90.Call), n < 21 ∧ numOf c = (n : Int) ∧ callN n ((argsOf c).map Int.toNat) = some x ∧ Su90Neutral.callOf (numOf c :: argsOf c) = some x ∧ (n = 0 ↔ ∃ r, x = .begin_ r) := by
  obtain ⟨p, ⟨l, n, rfl, hs, hl⟩ | ⟨l, rfl, hs⟩⟩ := h
  · have ea : argsOf [p :: l] = l := by simp [argsOf]
    have en : numOf [p :: l] = p := rfl
    rw [ea, en]
    rcases shape_mem hs with rfl | rfl | rfl | rfl | rfl | rfl | rfl | rfl | rfl | rfl | rfl | rfl | rfl | rfl | rfl | rfl | rfl | rfl | rfl | rfl | rfl
    all_goals (have e := Prod.mk.inj (Option.some.inj hs))
    all_goals first
      | (cases e.2; done)
      | (have e1 := e.1; subst e1
         first
           | (obtain rfl := len0 hl
              first
                | exact ⟨4, _, by decide, rfl, rfl, rfl, by simp⟩
                | exact ⟨7, _, by decide, rfl, rfl, rfl, by simp⟩
                | exact ⟨19, _, by decide, rfl, rfl, rfl, by simp⟩
                | exact ⟨20, _, by decide, rfl, rfl, rfl, by simp⟩)
           | (obtain ⟨x, rfl⟩ := len1 hl
              first
                | exact ⟨0, _, by decide, rfl, rfl, rfl, by simp⟩
                | exact ⟨2, _, by decide, rfl, rfl, rfl, by simp⟩
                | exact ⟨3, _, by decide, rfl, rfl, rfl, by simp⟩
                | exact ⟨5, _, by decide, rfl, rfl, rfl, by simp⟩
                | exact ⟨6, _, by decide, rfl, rfl, rfl, by simp⟩
                | exact ⟨10, _, by decide, rfl, rfl, rfl, by simp⟩
                | exact ⟨13, _, by decide, rfl, rfl, rfl, by simp⟩
                | exact ⟨16, _, by decide, rfl, rfl, rfl, by simp⟩)
           | (obtain ⟨x, y, rfl⟩ := len2 hl
              first
                | exact ⟨9, _, by decide, rfl, rfl, rfl, by simp⟩
                | exact ⟨14, _, by decide, rfl, rfl, rfl, by simp⟩
                | exact ⟨15, _, by decide, rfl, rfl, rfl, by simp⟩
                | exact ⟨18, _, by decide, rfl, rfl, rfl, by simp⟩)
           | (obtain ⟨x, y, z, rfl⟩ := len3 hl
              exact ⟨17, _, by decide, rfl, rfl, rfl, by simp⟩))
  · have ea : argsOf [[p], l] = l := by simp [argsOf]
    have en : numOf [[p], l] = p := rfl
    rw [ea, en]
    rcases shape_mem hs with rfl | rfl | rfl | rfl | rfl | rfl | rfl | rfl | rfl | rfl | rfl | rfl | rfl | rfl | rfl | rfl | rfl | rfl | rfl | rfl | rfl
    all_goals first
      | (have e := (Prod.mk.inj (Option.some.inj hs)).2; cases e; done)
      | exact ⟨1, _, by decide, rfl, rfl, by simp [Su90Neutral.callOf], by simp⟩
      | exact ⟨8, _, by decide, rfl, rfl, by simp [Su90Neutral.callOf], by simp⟩
      | exact ⟨11, _, by decide, rfl, rfl, by simp [Su90Neutral.callOf], by simp⟩
      | exact ⟨12, _, by decide, rfl, rfl, by simp [Su90Neutral.callOf], by simp⟩
/-- a call leaves an object as told -/
structure Valid (a : Su90.Abs) : Prop where
  room : a.room ≤ 20
  few : a.kinds.length ≤ 5
  ok : ∀ l ∈ a.kinds, Su90.Abs.okG l = true
  fewS : a.sellers.length ≤ 3
  okS : ∀ s ∈ a.sellers, Su90.okS s = true
theorem valid_new {r : Nat} (h : r ≤ 20) : Valid (Su90.new r) := ⟨h, by simp [Su90.new], by simp [Su90.new], by simp [Su90.new], by simp [Su90.new]⟩
theorem valid_does {a : Su90.Abs} (v : Valid a) (x : Su90.Call) : Valid (Su90.does a x).1 := by
  cases x with
  | begin_ r =>
    show Valid (if 20 < r then (a, Su90.no (-22)) else (Su90.new r, Su90.no 0)).1
    split
    · exact v
    · exact valid_new (by omega)
  | kind l =>
    show Valid (if Su90.Abs.okG l = false then (a, Su90.no (-22)) else if 5 ≤ a.kinds.length then (a, Su90.no (-28)) else ({ a with kinds := a.kinds ++ [l] }, Su90.num a.kinds.length [])).1
    split
    · exact v
    · rename_i h1
      split
      · exact v
      · refine ⟨v.room, by show (a.kinds ++ [l]).length ≤ 5; rw [List.length_append, List.length_singleton]; omega, fun k hk => ?_, v.fewS, v.okS⟩
        rcases List.mem_append.mp hk with hk | hk
        · exact v.ok k hk
        · rw [List.mem_singleton.mp hk]
          simpa using h1
  | drop k =>
    show Valid (if a.isK k = false then (a, Su90.no (-2)) else (a.dropped k, Su90.num (a.kinds.length - 1) [])).1
    split
    · exact v
    · refine ⟨v.room, ?_, fun l hl => v.ok l (List.mem_of_mem_eraseIdx hl), v.fewS, v.okS⟩
      have := v.few
      show (a.kinds.eraseIdx k).length ≤ 5
      rw [List.length_eraseIdx]
      split <;> omega
  | room r =>
    show Valid (if 20 < r then (a, Su90.no (-22)) else ({ a with room := r }, Su90.num a.room [])).1
    split
    · exact v
    · exact ⟨by show r ≤ 20; omega, v.few, v.ok, v.fewS, v.okS⟩
  | seller l =>
    show Valid (if l.length % 2 ≠ 0 ∨ Su90.okS (Su90.pairs l) = false then (a, Su90.no (-22)) else if 3 ≤ a.sellers.length then (a, Su90.no (-28)) else ({ a with sellers := a.sellers ++ [Su90.pairs l] }, Su90.num a.sellers.length [])).1
    split
    · exact v
    · rename_i h1
      split
      · exact v
      · refine ⟨v.room, v.few, v.ok, by show (a.sellers ++ [Su90.pairs l]).length ≤ 3; rw [List.length_append, List.length_singleton]; omega, fun k hk => ?_⟩
        rcases List.mem_append.mp hk with hk | hk
        · exact v.okS k hk
        · rw [List.mem_singleton.mp hk]
          cases e : Su90.okS (Su90.pairs l) with
          | true => rfl
          | false => exact absurd (Or.inr e) h1
  | away s =>
    show Valid (if a.isS s = false then (a, Su90.no (-2)) else ({ a with sellers := a.sellers.eraseIdx s }, Su90.num (a.sellers.length - 1) [])).1
    split
    · exact v
    · refine ⟨v.room, v.few, v.ok, ?_, fun l hl => v.okS l (List.mem_of_mem_eraseIdx hl)⟩
      have := v.fewS
      show (a.sellers.eraseIdx s).length ≤ 3
      rw [List.length_eraseIdx]
      split <;> omega
  | at_ r => show Valid (if 20 < r then (a, Su90.no (-22)) else (a, _)).1; split <;> exact v
  | price r => show Valid (if 20 < r then (a, Su90.no (-22)) else (a, _)).1; split <;> exact v
  | value l => show Valid (if a.fits l = false then (a, Su90.no (-22)) else if a.room < l.sum then (a, Su90.no (-28)) else (a, _)).1; (split; exact v; (split <;> exact v))
  | worth k n => show Valid (if a.isK k = false then (a, Su90.no (-2)) else if (a.gains k).length < n then (a, Su90.no (-22)) else (a, _)).1; (split; exact v; (split <;> exact v))
  | without k => show Valid (if a.isK k = false then (a, Su90.no (-2)) else (a, _)).1; split <;> exact v
  | would l => show Valid (if Su90.Abs.okG l = false then (a, Su90.no (-22)) else if 5 ≤ a.kinds.length then (a, Su90.no (-28)) else (a, _)).1; (split; exact v; (split <;> exact v))
  | cost s q => show Valid (if a.isS s = false then (a, Su90.no (-2)) else if 60 < q then (a, Su90.no (-22)) else (a, _)).1; (split; exact v; (split <;> exact v))
  | buy s q => show Valid (if a.isS s = false then (a, Su90.no (-2)) else if 60 < q then (a, Su90.no (-22)) else (a, _)).1; (split; exact v; (split <;> exact v))
  | cheapest n => show Valid (if 60 < n then (a, Su90.no (-22)) else if a.sellers = [] then (a, Su90.no (-6)) else (a, _)).1; (split; exact v; (split <;> exact v))
  | two s t n => show Valid (if a.isS s = false ∨ a.isS t = false then (a, Su90.no (-2)) else if s = t ∨ 60 < n then (a, Su90.no (-22)) else (a, _)).1; (split; exact v; (split <;> exact v))
  | upTo s c => show Valid (if a.isS s = false then (a, Su90.no (-2)) else if 60000 < c then (a, Su90.no (-22)) else (a, _)).1; (split; exact v; (split <;> exact v))
  | best => exact v
  | steps => exact v
  | sums => exact v
  | state => exact v
end MA
/-! Rules that the layer lacks: a written dict with whole numbers as keys; a call of what an expression gives. -/
namespace Su
open PySem PySem.Spec PyProof.Rows L2
/-! ### a written dict, its keys whole numbers -/
def ikOk : List DictEntry → List (Int × Value) → Prop
  | [], [] => True
  | e :: es, (k, v) :: r => (∃ t, e.key = .int k t) ∧ e.hash = hashInt k ∧ e.val = v ∧ ikOk es r
  | _, _ => False
theorem ikOk.keys : ∀ {es : List DictEntry} {kvs : List (Int × Value)}, ikOk es kvs → ∀ e ∈ es, ∃ k t, e.key = .int k t ∧ e.hash = hashInt k
  | e :: es, (k, v) :: r, ⟨⟨t, h1⟩, h2, _, _⟩, _, .head _ => ⟨k, t, h1, h2⟩
  | e :: es, (k, v) :: r, ⟨_, _, _, h⟩, _, .tail _ m => ikOk.keys h _ m
theorem ikOk.find : ∀ {es : List DictEntry} {kvs : List (Int × Value)}, ikOk es kvs → ∀ k, (es.find? fun e => Value.isInt k e.key).map (·.val) = kvs.lookup k
  | [], [], _, k => rfl
  | e :: es, (j, v) :: r, ⟨⟨t, h1⟩, _, h3, h⟩, k => by
    rw [List.find?_cons, h1]
    show Option.map _ (match (j == k) with | true => some e | false => es.find? _) = List.lookup k ((j, v) :: r)
    by_cases c : j = k
    · subst c
      simp only [List.lookup, beq_self_eq_true]
      exact congrArg some h3
    · have c1 : (j == k) = false := by simpa using c
      have c2 : (k == j) = false := by simpa using fun z => c z.symm
      simp only [List.lookup, c1, c2]
      exact ikOk.find h k
/-- at d: a written dict of kvs -/
structure IKD (K : PySem.W.Frag) (d : Addr) (kvs : List (Int × Value)) : Prop where
  ex : ∃ es n, K.lookup d = some ⟨.type "dict", none, .dict es n, #[]⟩ ∧ ikOk es.toList kvs
  low : (d == sysModules) = false
section
variable {X : Cx} {d : Addr} {kvs : List (Int × Value)}
theorem IKD.map {h : Heap} (D : IKD X.K d kvs) (I : X.K.In h) : h.MapOf (intKind X.prog X.w) d (fun k => kvs.lookup k) := by
  obtain ⟨es, n, hl, ok⟩ := D.ex
  refine ⟨_, es, n, I _ _ hl, ⟨rfl, rfl, rfl⟩, rfl, fun e he => ?_, fun k => ?_⟩
  · obtain ⟨k, t, h1, h2⟩ := ok.keys e (Array.mem_toList_iff.mpr he)
    exact ⟨k, by rw [h1]; exact intKind_is X.prog X.w k t, h2⟩
  · show _ = kvs.lookup k
    rw [← ok.find k]
    obtain ⟨l⟩ := es
    unfold findBy
    rw [List.find?_toArray]
    rfl
theorem op_in_ikd (D : IKD X.K d kvs) : OpR X (compareOp .In) (fun x y H Q => ∃ k : Int, x = .int k ∧ y = .ref d ∧ Q (.bl (kvs.lookup k).isSome) H) := by
  intro pins s σ H x y v u Q I rx ry h
  obtain ⟨k, rfl, rfl, q⟩ := h
  obtain ⟨t, rfl⟩ := rx
  cases ry
  refine wpAny_in_of (PySem.intKind_is X.prog X.w k t) D.low (D.map I.kIn) ?_
  exact ⟨.bl (kvs.lookup k).isSome, H, I.tok _, rfl, q⟩
theorem ix_ikd (D : IKD X.K d kvs) : IxR X (fun x y H Q => ∃ (k : Int) (u0 : Value) (v0 : V), x = .ref d ∧ y = .int k ∧ kvs.lookup k = some u0 ∧ RelV v0 u0 ∧ Q v0 H) := by
  intro value slice pins s σ H x y v u Q I rx ry h hs
  obtain ⟨k, u0, v0, rfl, rfl, e, ru, q⟩ := h
  obtain rfl : v = Value.ref d := rx
  obtain ⟨t, rfl⟩ := ry
  have hm := D.map I.kIn
  exact tail_any hm.typeIs slot_dict_getitem.lookup (wpAny_getItem_of (intKind_is X.prog X.w k t) hm e ⟨v0, H, I.tok _, ru, q⟩) hs
end
/-! ### a call of what an expression gives: one of the defs that S knows -/
/-- fe(e, ..) -/
def tCallE (S : Addr → Sp → Prop) (E : XK) (tf : TE) (t : TA) : TE := fun σ H Q => tf σ H fun y H1 => ∃ f sp, y = .ref f ∧ S f sp ∧ t σ H1 fun vs H2 => sp vs H2 Q E
theorem pe_callE {X : Cx} {CX : CXT} {k : Nat} {E : XK} {S : Addr → Sp → Prop} {fe e : Expr} {es : List Expr} {pos : Pos} {tf : TE} {t : TA} (hf : PE X fe tf) (F : ∀ f sp, S f sp → FnR X.prog X.w X.K X.mg X.base CX k f sp ∧ PySem.W.keepIn X.K (.ref f) = true) (hr : Room k X.A) (hx : Passes CX X E) (ha : PA X (e :: es) t)
    (ht : eval (.Call fe (e :: es) [] pos) X.env = (do callWith pos (← eval fe X.env) [] (backTo pos (starEach (e :: es) X.env)) (backToKw pos (keywordEach [] X.env))) := by rfl)
    (he : starEach (e :: es) X.env = (false, eval e X.env) :: starEach es X.env := by rfl) (hpl : (backTo pos (starEach es X.env)).any (·.1) = false := by rfl) : PE X (.Call fe (e :: es) [] pos) (tCallE S E tf t) := by
  refine ⟨fun pins s σ H Q I h => ?_⟩
  refine Call_ (thn (hf.run pins s σ H _ I h) fun u s1 ⟨y, H1, I1, ry, f, sp, ey, hS, q⟩ => ?_) ht
  subst ey
  obtain rfl : u = Value.ref f := ry
  refine PySem.W.callWith_K (first := []) (h₀ := X.base) I.ok.mod.kin (F f sp hS).2 (thn (ha.run pos pins s1 σ H1 _ I1 q) fun us s2 ⟨vs, H2, I2, r, q2⟩ => ⟨I2.kIn, ?_⟩) he hpl
  exact wpAny_call (run_fnR (F f sp hS).1 hr hx I2 r q2)
end Su
/-! Two more rules that the layer lacks: a slice with a step, and list(zip(a, b)). -/
namespace Su
open PySem PySem.Spec PyProof.Rows L2
/-! ### xs[lo:hi:step] -/
def pickV (xs : List V) (lo hi st : Option Int) : List V :=
  (sliceRange (sliceBounds lo hi st xs.length).1 (sliceBounds lo hi st xs.length).2.1 (sliceBounds lo hi st xs.length).2.2).filterMap fun i => xs[i]?
theorem vals_pick {xs : List V} {us : List Value} (r : Vals xs us) : ∀ is : List Nat, Vals (is.filterMap fun i => xs[i]?) (is.filterMap fun i => us[i]?)
  | [] => .nil
  | i :: is => by
    have ih := vals_pick r is
    cases e : xs[i]? with
    | none =>
      rw [List.filterMap_cons_none e, List.filterMap_cons_none (r.none_of e)]
      exact ih
    | some x =>
      obtain ⟨u, hu, ru⟩ := r.get e
      rw [List.filterMap_cons_some e, List.filterMap_cons_some hu]
      exact .cons ru ih
def rSl3 (K : PySem.W.Frag) : V → Option Int → Option Int → Option Int → Hp → VK → Prop := fun x lo hi st H Q => ∃ a xs, x = .ref a ∧ SqL K H a xs ∧ st ≠ some 0 ∧ ∀ p, H p = none → Q (.ref p) (upd H p (.lst (pickV xs lo hi st)))
def tSl3 (K : PySem.W.Frag) (te : TE) (tl th ts : TO) : TE := fun σ H Q => te σ H fun x H1 => tl σ H1 fun l H2 => th σ H2 fun u H3 => ts σ H3 fun k H4 => rSl3 K x l u k H4 Q
theorem pe_slice3 {X : Cx} {e : Expr} {te : TE} {lo hi : Option Expr} {st : Expr} {tl th ts : TO} {pos p2 : Pos} (he : PE X e te) (hl : PO X lo tl) (hu : PO X hi th) (hk : PO X (some st) ts) : PE X (.Subscript e (.Slice lo hi (some st) p2) pos) (tSl3 X.K te tl th ts) := by
  refine ⟨fun pins s σ H Q I h => ?_⟩
  refine Subscript_ (thn (he.run pins s σ H _ I h) fun v s1 ⟨x, H1, I1, r1, q1⟩ => ?_)
  refine wpAny_Slice (thn (hl.run pins s1 σ H1 _ I1 q1) fun vl s2 ⟨l, H2, I2, pl, q2⟩ => thn (hu.run pins s2 σ H2 _ I2 q2) fun vu s3 ⟨u, H3, I3, pu, q3⟩ => thn (hk.run pins s3 σ H3 _ I3 q3) fun vk s4 ⟨k, H4, I4, pk, q4⟩ => ?_)
  have I5 : Inv X pins σ H4 { s4 with heap := s4.heap.push { cls := .type "slice", data := .fields #[vl, vu, vk] } } := I4.kept (t' := s4.toks) fun b ob q => Heap.get?_push_of_some _ q
  obtain ⟨a, xs, rfl, hx, h0, q⟩ := q4
  cases r1
  obtain ⟨its, r, ht, hz⟩ := I5.list hx
  have hlen := r.length
  show wpAny (model X.prog X.w) X.A (subscriptTail e (.Slice lo hi (some st) p2) (.ref a) (.ref s4.heap.objs.size)) (EP X pins σ Q) X.xe { s4 with heap := s4.heap.push { cls := .type "slice", data := .fields #[vl, vu, vk] } }
  refine tail_any (ops := [.ref a, .ref s4.heap.objs.size]) ht.isList.typeIs slot_list_getitem.lookup ?_ (by with_unfolding_all rfl)
  refine wpAny_getItem_list_slice ht.isList (Heap.IsSliceOf.new ..) pl pu pk h0 ?_ (by rw [List.size_toArray] <;> omega)
  have ep : slicePick its.toArray l u k = ((sliceRange (sliceBounds l u k xs.length).1 (sliceBounds l u k xs.length).2.1 (sliceBounds l u k xs.length).2.2).filterMap fun i => its[i]?).toArray := by
    unfold slicePick
    rw [List.size_toArray, ← hlen]
    simp only [List.getElem?_toArray]
  have es : (pickV xs l u k).length ≤ xs.length := by
    have := slicePick_size_le its.toArray l u k
    rw [ep, List.size_toArray, List.size_toArray, ← hlen] at this
    have e2 : (pickV xs l u k).length = _ := (vals_pick r _).length
    omega
  rw [ep]
  refine ⟨.ref _, _, I5.laid (t' := s4.toks) (o := .lst (pickV xs l u k)) (fun b ob q => Heap.get?_push_of_some _ q) (Nat.le_refl _) ?_, rfl, q _ (I5.hok.fresh (Nat.le_refl _))⟩
  exact ⟨Nat.le_trans es hz, _, 0, vals_pick r _, Heap.get?_push_size _ rfl⟩
/-! ### list(zip(a, b)): the pairs, each a new tuple -/
theorem zip_nolen : typeLookup (.type "zip") "__len__" = pure none := am_miss_of_fast (by decide +kernel)
theorem zip_nohint : typeLookup (.type "zip") "__length_hint__" = pure none := am_miss_of_fast (by decide +kernel)
/-- the addresses as hold the first pairs, as tuples; they lie above lo and rise -/
structure ZG (xs ys : Array Value) (lo : Addr) (h : Heap) (as : List Addr) : Prop where
  rise : as.Pairwise (· < ·)
  above : ∀ a ∈ as, lo < a
  pairs : ∀ (j : Nat) (a : Addr), as[j]? = some a → ∃ x y, xs[j]? = some x ∧ ys[j]? = some y ∧ h.get? a = some { cls := .type "tuple", data := .seq #[x, y] }
theorem ZG.there {xs ys : Array Value} {lo : Addr} {h : Heap} {as : List Addr} (g : ZG xs ys lo h as) {a : Addr} (ha : a ∈ as) : a < h.objs.size := by
  obtain ⟨j, hj⟩ := List.mem_iff_getElem?.mp ha
  obtain ⟨_, _, _, _, e⟩ := g.pairs j a hj
  exact Heap.lt_size e
theorem ZG.keep {xs ys : Array Value} {lo : Addr} {h h' : Heap} {as : List Addr} (g : ZG xs ys lo h as) (k : ∀ a ∈ as, ∀ o, h.get? a = some o → h'.get? a = some o) : ZG xs ys lo h' as :=
  ⟨g.rise, g.above, fun j a hj => let ⟨x, y, e1, e2, e3⟩ := g.pairs j a hj; ⟨x, y, e1, e2, k a (List.mem_of_getElem? hj) _ e3⟩⟩
theorem ZG.push {xs ys : Array Value} {lo : Addr} {h : Heap} {as : List Addr} {T : Addr} {x y : Value} (g : ZG xs ys lo h as) (hT : ∀ a ∈ as, a < T) (hlo : lo < T) (e1 : xs[as.length]? = some x) (e2 : ys[as.length]? = some y) (e3 : h.get? T = some { cls := .type "tuple", data := .seq #[x, y] }) : ZG xs ys lo h (as ++ [T]) := by
  refine ⟨List.pairwise_append.mpr ⟨g.rise, List.pairwise_singleton _ _, fun a ha b hb => ?_⟩, fun a ha => ?_, fun j a hj => ?_⟩
  · rw [List.mem_singleton.mp hb]
    exact hT a ha
  · rcases List.mem_append.mp ha with ha | ha
    · exact g.above a ha
    · rw [List.mem_singleton.mp ha]
      exact hlo
  · by_cases h1 : j < as.length
    · rw [List.getElem?_append_left h1] at hj
      exact g.pairs j a hj
    · have hj' := (List.getElem?_eq_some_iff.mp hj).1
      rw [List.length_append, List.length_singleton] at hj'
      have hz : j = as.length := by omega
      subst hz
      rw [List.getElem?_append_right (Nat.le_refl _), Nat.sub_self] at hj
      have eT : T = a := Option.some.inj hj
      subst eT
      exact ⟨x, y, e1, e2, e3⟩
/-- where a zip stands behind i pairs -/
structure ZSt (h : Heap) (z TI TO i1 i2 l1 l2 S : Addr) (xs ys : Array Value) (i : Nat) : Prop where
  ti : IsPair h TI (.ref i1) (.ref i2)
  it1 : h.IsListIter i1 l1 i
  it2 : h.IsListIter i2 l2 i
  ls1 : h.IsList l1 xs
  ls2 : h.IsList l2 ys
  zp : (IsZip h z TI TO .none ∧ ∃ a b, IsPair h TO a b) ∨ ∃ T f oT, IsZipHeld h z TI TO T f ∧ h.get? T = some oT ∧ T ≠ z ∧ T ≠ i1 ∧ T ≠ i2 ∧ T ≠ S
structure ZOff (z TI TO i1 i2 l1 l2 S : Addr) : Prop where
  z : S ≠ z
  TI : S ≠ TI
  TO : S ≠ TO
  i1 : S ≠ i1
  i2 : S ≠ i2
  l1 : S ≠ l1
  l2 : S ≠ l2
theorem ZSt.keep {h h' : Heap} {z TI TO i1 i2 l1 l2 S : Addr} {xs ys : Array Value} {i : Nat} (st : ZSt h z TI TO i1 i2 l1 l2 S xs ys i) (D : ZOff z TI TO i1 i2 l1 l2 S) (hk : ∀ b o, b ≠ S → h.get? b = some o → h'.get? b = some o) : ZSt h' z TI TO i1 i2 l1 l2 S xs ys i := by
  refine ⟨hk _ _ D.TI.symm st.ti, st.it1.at fun o e => hk _ o D.i1.symm e, st.it2.at fun o e => hk _ o D.i2.symm e, st.ls1.at fun o e => hk _ o D.l1.symm e, st.ls2.at fun o e => hk _ o D.l2.symm e, ?_⟩
  rcases st.zp with ⟨hz, a, b, hTO⟩ | ⟨T, f, oT, hz, hT, r1, r2, r3, r4⟩
  · exact .inl ⟨hk _ _ D.z.symm hz, a, b, hk _ _ D.TO.symm hTO⟩
  · exact .inr ⟨T, f, oT, hk _ _ D.z.symm hz, hk _ _ r4 hT, r1, r2, r3, r4⟩
section
variable {prog : Program} {w : World} {A : Around} {E : Value → Shared → Prop} {s : Shared} {z TI TO i1 i2 l1 l2 S : Addr} {xs ys : Array Value}
theorem zst_item {i : Nat} {x y : Value} {Q : Option Value → Shared → Prop} (D : ZipApart z TI TO i1 i2 l1 l2) (st : ZSt s.heap z TI TO i1 i2 l1 l2 S xs ys i) (hS : S < s.heap.objs.size) (ex : xs[i]? = some x) (ey : ys[i]? = some y)
    (hQ : ∀ h', ZSt h' z TI TO i1 i2 l1 l2 S xs ys (i + 1) → h'.get? s.heap.objs.size = some { cls := .type "tuple", data := .seq #[x, y] } → h'.objs.size = s.heap.objs.size + 1 →
      (∀ b o, b ≠ z → b ≠ TO → b ≠ i1 → b ≠ i2 → s.heap.get? b = some o → h'.get? b = some o) → Q (some (.ref s.heap.objs.size)) { s with heap := h' }) : wpAny (model prog w) A (pyNext (.ref z)) Q E s := by
  obtain ⟨hTI, h1, h2, hl1, hl2, hz⟩ := st
  have lt : ∀ {c o}, s.heap.get? c = some o → s.heap.objs.size ≠ c := fun e => Nat.ne_of_gt (Heap.lt_size e)
  have n1 : s.heap.objs.size ≠ i1 := let ⟨_, e, _⟩ := h1; lt e
  have n2 : s.heap.objs.size ≠ i2 := let ⟨_, e, _⟩ := h2; lt e
  rcases hz with ⟨hz, a, b, hTO⟩ | ⟨T, f, oT, hz, hT, r1, r2, r3, r4⟩
  · refine wpAny_pyNext_zip_item D hz hTI hTO h1 h2 hl1 hl2 ex ey fun h' a1 a2 a3 a4 a5 a6 hk => hQ h' ⟨?_, a3, a4, ?_, ?_, ?_⟩ a5 a6 hk
    · exact hk _ _ D.TIz D.TITO D.TIi1 D.TIi2 hTI
    · exact hl1.at fun o e => hk _ o D.l1z D.l1TO D.l1i1 D.l1i2 e
    · exact hl2.at fun o e => hk _ o D.l2z D.l2TO D.l2i1 D.l2i2 e
    · exact .inr ⟨s.heap.objs.size, false, _, a1, a5, lt hz, n1, n2, Nat.ne_of_gt hS⟩
  · refine wpAny_pyNext_zip_item_held D hz hT hTI h1 h2 hl1 hl2 ex ey fun h' a1 a3 a4 a5 a6 hk => hQ h' ⟨?_, a3, a4, ?_, ?_, ?_⟩ a5 a6 fun b o b1 _ b3 b4 e => hk b o b1 b3 b4 e
    · exact hk _ _ D.TIz D.TIi1 D.TIi2 hTI
    · exact hl1.at fun o e => hk _ o D.l1z D.l1i1 D.l1i2 e
    · exact hl2.at fun o e => hk _ o D.l2z D.l2i1 D.l2i2 e
    · exact .inr ⟨T, true, oT, a1, hk _ _ r1 r2 r3 hT, r1, r2, r3, r4⟩
theorem zst_done {i : Nat} {Q : Option Value → Shared → Prop} (hA : A.handled = none) (D : ZipApart z TI TO i1 i2 l1 l2) (st : ZSt s.heap z TI TO i1 i2 l1 l2 S xs ys i) (hend : xs[i]? = none ∨ ys[i]? = none)
    (hQ : ∀ h', (∀ b o, b ≠ z → b ≠ TO → b ≠ i1 → b ≠ i2 → s.heap.get? b = some o → h'.get? b = some o) → Q none { s with heap := h' }) : wpAny (model prog w) A (pyNext (.ref z)) Q E s := by
  obtain ⟨hTI, h1, h2, hl1, hl2, hz⟩ := st
  rcases hz with ⟨hz, a, b, hTO⟩ | ⟨T, f, oT, hz, hT, r1, r2, r3, r4⟩
  · exact wpAny_pyNext_zip_end hA D hz hTI hTO h1 h2 hl1 hl2 hend fun h' hk => hQ h' hk
  · exact wpAny_pyNext_zip_end_held hA D hz hT hTI h1 h2 hl1 hl2 hend fun h' hk => hQ h' fun b o b1 _ b3 b4 e => hk b o b1 b3 b4 e
end
section
variable {prog : Program} {w : World} {A : Around} {s : Shared} {R : Result → Shared → Prop} {z TI TO i1 i2 l1 l2 S : Addr} {xs ys : Array Value}
/-- the loop of extend over a zip -/
theorem zst_loop {n : Nat} (hA : A.handled = none) (D : ZipApart z TI TO i1 i2 l1 l2) (O : ZOff z TI TO i1 i2 l1 l2 S) (hn : n = min xs.size ys.size) (hsz : n ≤ sizeLine) (lo : Addr) (hlo : S ≤ lo) (hlz : z ≤ lo ∧ TO ≤ lo ∧ i1 ≤ lo ∧ i2 ≤ lo) (res : Value) {h₁ : Heap}
    (hR : ∀ h' tk acc c as, (∀ b o, b ≠ S → b ≠ z → b ≠ TO → b ≠ i1 → b ≠ i2 → h₁.get? b = some o → h'.get? b = some o) → h'.get? S = some { cls := .type "list", dict := none, data := .seq acc c, slots := #[] } → as.length = n → ZG xs ys lo h' as → acc.toList = as.map Value.ref → R (.ok (.ret res)) { s with heap := h', toks := tk }) :
    ∀ (k i : Nat) (h : Heap) (tk c : Nat) (acc : Array Value) (as : List Addr), n - i = k → i ≤ n → ZSt h z TI TO i1 i2 l1 l2 S xs ys i → (∀ b o, b ≠ S → b ≠ z → b ≠ TO → b ≠ i1 → b ≠ i2 → h₁.get? b = some o → h.get? b = some o) →
      h.get? S = some { cls := .type "list", dict := none, data := .seq acc c, slots := #[] } → acc.toList = as.map Value.ref → as.length = i → ZG xs ys lo h as → lo < h.objs.size →
      codeAny (model prog w) A (.builtin "list.extend.loop" ⟨[.ref S, .ref z, res], []⟩) R { s with heap := h, toks := tk } := by
  intro k
  have apart : ∀ {a : Addr} {h : Heap} {as : List Addr}, ZG xs ys lo h as → a ∈ as → a ≠ S ∧ a ≠ z ∧ a ≠ TO ∧ a ≠ i1 ∧ a ≠ i2 := fun g ha => by
    have := g.above _ ha
    obtain ⟨q1, q2, q3, q4⟩ := hlz
    refine ⟨?_, ?_, ?_, ?_, ?_⟩ <;> (intro e; subst e; exact absurd this (Nat.not_lt.mpr (by assumption)))
  induction k with
  | zero =>
    intro i h tk c acc as hk hi st hkeep hS hacc hal hG hIs
    have hin : i = n := by omega
    have hend : xs[i]? = none ∨ ys[i]? = none := by
      rcases Nat.le_total xs.size ys.size with q | q
      · exact .inl (Array.getElem?_eq_none (by rw [hin, hn, Nat.min_eq_left q]; exact Nat.le_refl _))
      · exact .inr (Array.getElem?_eq_none (by rw [hin, hn, Nat.min_eq_right q]; exact Nat.le_refl _))
    refine codeAny_builtin PySem.F.entry_extend_loop ?_
    rw [Around.under_plainId PySem.F.plain_extend_loop _]
    show wpAny _ A.in1 (pyNext (.ref z) >>= _) _ _ _
    refine wpAny_bind (zst_done (s := { s with heap := h, toks := tk }) (A := A.in1) hA D st hend fun h' he => ?_)
    refine wpAny_pure (hR h' tk acc c as (fun b o b0 b1 b2 b3 b4 e => he b o b1 b2 b3 b4 (hkeep b o b0 b1 b2 b3 b4 e)) (he S _ O.z O.TO O.i1 O.i2 hS) (by omega) (hG.keep fun a ha o e => ?_) hacc)
    obtain ⟨_, q1, q2, q3, q4⟩ := apart hG ha
    exact he a o q1 q2 q3 q4 e
  | succ k ih =>
    intro i h tk c acc as hk hi st hkeep hS hacc hal hG hIs
    have hlt : i < n := by omega
    have hix : i < xs.size := Nat.lt_of_lt_of_le hlt (by rw [hn]; exact Nat.min_le_left ..)
    have hiy : i < ys.size := Nat.lt_of_lt_of_le hlt (by rw [hn]; exact Nat.min_le_right ..)
    have hasz : acc.size = i := by rw [← Array.length_toList, hacc, List.length_map, hal]
    refine codeAny_builtin PySem.F.entry_extend_loop ?_
    rw [Around.under_plainId PySem.F.plain_extend_loop _]
    show wpAny _ A.in1 (pyNext (.ref z) >>= _) _ _ _
    refine wpAny_bind (zst_item (s := { s with heap := h, toks := tk }) (S := S) D st (Heap.lt_size hS) (Array.getElem?_eq_getElem hix) (Array.getElem?_eq_getElem hiy) fun h' st' ht hz hkp => ?_)
    dsimp only at ht hz hkp ⊢
    have hS' := hkp S _ O.z O.TO O.i1 O.i2 hS
    have up : ∀ b o, b ≠ S → h'.get? b = some o → (h'.update S (Obj.mapSeq (·.push (Value.ref h.objs.size)))).get? b = some o := fun b o hb e => (Heap.get?_update_other _ _ (Ne.symm hb)).trans e
    have hSl : S < h.objs.size := Heap.lt_size hS
    have hTn : h.objs.size ≠ S := Nat.ne_of_gt hSl
    show wpAny _ A.in1 (updateSeq S (·.push (Value.ref h.objs.size)) >>= _) _ _ _
    refine wpAny_bind (wpAny_updateSeq hS' rfl (wpAny_pure ⟨plainId_quiet PySem.F.plain_extend_loop _, ?_⟩) (by rw [hasz]; omega) (by show (acc.push (Value.ref h.objs.size)).size ≤ sizeLine + 1; rw [Array.size_push, hasz]; omega))
    refine ih (i + 1) _ tk _ (acc.push (Value.ref h.objs.size)) (as ++ [h.objs.size]) (by omega) hlt (st'.keep O up) (fun b o b0 b1 b2 b3 b4 e => up b o b0 (hkp b o b1 b2 b3 b4 (hkeep b o b0 b1 b2 b3 b4 e))) (Heap.get?_update_self _ hS' rfl) (by rw [Array.toList_push, hacc, List.map_append]; rfl) (by rw [List.length_append, hal]; rfl) ?_ ?_
    · refine (hG.keep fun a ha o e => ?_).push (fun a ha => hG.there ha) hIs (by rw [hal]; exact Array.getElem?_eq_getElem hix) (by rw [hal]; exact Array.getElem?_eq_getElem hiy) (up _ _ hTn ht)
      obtain ⟨q0, q1, q2, q3, q4⟩ := apart hG ha
      exact up a o q0 (hkp a o q1 q2 q3 q4 e)
    · have e : (h'.update S (Obj.mapSeq (·.push (Value.ref h.objs.size)))).get? h.objs.size = _ := up _ _ hTn ht
      exact Nat.lt_trans hIs (Heap.lt_size e)
/-- list(z), z a new zip of two lists -/
theorem call_list_zip {E : Value → Shared → Prop} {Q : Value → Shared → Prop} (hA : A.handled = none) (D : ZipApart z TI TO i1 i2 l1 l2) (hz : IsZip s.heap z TI TO .none) (hTI : IsPair s.heap TI (.ref i1) (.ref i2)) (hTO : ∃ a b, IsPair s.heap TO a b) (h1 : s.heap.IsListIter i1 l1 0) (h2 : s.heap.IsListIter i2 l2 0) (hl1 : s.heap.IsList l1 xs) (hl2 : s.heap.IsList l2 ys) (hsz : min xs.size ys.size ≤ sizeLine)
    (hQ : ∀ h' tk acc c as, (∀ b o, b ≠ z → b ≠ TO → b ≠ i1 → b ≠ i2 → s.heap.get? b = some o → h'.get? b = some o) → h'.get? s.heap.objs.size = some { cls := .type "list", dict := none, data := .seq acc c, slots := #[] } → as.length = min xs.size ys.size → ZG xs ys s.heap.objs.size h' as → acc.toList = as.map Value.ref → Q (.ref s.heap.objs.size) { s with heap := h', toks := tk }) :
    wpAny (model prog w) A (call (.type "list") [.ref z]) Q E s := by
  obtain ⟨ta, tb, hTO⟩ := hTO
  have lz : z < s.heap.objs.size := Heap.lt_size hz
  have lTI : TI < s.heap.objs.size := Heap.lt_size hTI
  have lTO : TO < s.heap.objs.size := Heap.lt_size hTO
  have li1 : i1 < s.heap.objs.size := let ⟨_, e, _⟩ := h1; Heap.lt_size e
  have li2 : i2 < s.heap.objs.size := let ⟨_, e, _⟩ := h2; Heap.lt_size e
  have ll1 : l1 < s.heap.objs.size := let ⟨_, e, _⟩ := hl1; Heap.lt_size e
  have ll2 : l2 < s.heap.objs.size := let ⟨_, e, _⟩ := hl2; Heap.lt_size e
  have O : ZOff z TI TO i1 i2 l1 l2 s.heap.objs.size := ⟨Nat.ne_of_gt lz, Nat.ne_of_gt lTI, Nat.ne_of_gt lTO, Nat.ne_of_gt li1, Nat.ne_of_gt li2, Nat.ne_of_gt ll1, Nat.ne_of_gt ll2⟩
  have st0 : ZSt s.heap z TI TO i1 i2 l1 l2 s.heap.objs.size xs ys 0 := ⟨hTI, h1, h2, hl1, hl2, .inl ⟨hz, ta, tb, hTO⟩⟩
  refine callType_codes (Q₁ := fun obj s₁ => obj = .ref s.heap.objs.size ∧ s₁ = { s with heap := s.heap.push { cls := .type "list", data := .seq #[] } }) PySem.F.called_list (PySem.F.typeCall_list_1 _) PySem.F.entry_list_init (code_list_new _ ⟨rfl, rfl⟩) fun obj s₁ h₁ => ?_
  obtain ⟨rfl, rfl⟩ := h₁
  have hS : (s.heap.push { cls := .type "list", data := .seq #[] }).get? s.heap.objs.size = some { cls := .type "list", data := .seq #[] } := Heap.get?_push_size _ rfl
  refine ⟨⟨_, hS, rfl⟩, PySem.F.args_list_init_2 _ _, ?_⟩
  show wpAny _ _ (do let old ← Builtin.List.listItems (.ref s.heap.objs.size); Builtin.List.listUpdate (.ref s.heap.objs.size) (fun _ => #[]); letGo old.toList.reverse; Builtin.List.listExtendWith (.ref s.heap.objs.size) (.ref z) .none) _ _ _
  refine wpAny_bind ?_
  unfold Builtin.List.listItems
  refine wpAny_bind (wpAny_seqItems hS rfl (wpAny_pure ?_))
  show wpAny _ _ (updateSeq s.heap.objs.size (fun _ => #[]) >>= fun _ => letGo (#[] : Array Value).toList.reverse >>= fun _ => Builtin.List.listExtendWith (.ref s.heap.objs.size) (.ref z) .none) _ _ _
  refine wpAny_bind (wpAny_updateSeq hS rfl ?_)
  have hS2 := Heap.get?_update_self (Obj.mapSeq (fun _ => (#[] : Array Value))) hS rfl
  refine wpAny_bind (wpAny_letGo ?_)
  have k2 : ∀ b o, b ≠ s.heap.objs.size → s.heap.get? b = some o → ((s.heap.push { cls := .type "list", data := .seq #[] }).update s.heap.objs.size (Obj.mapSeq (fun _ => (#[] : Array Value)))).get? b = some o := fun b o hb e => (Heap.get?_update_other _ _ (Ne.symm hb)).trans (Heap.get?_push_of_some _ e)
  have hz2 := k2 _ _ O.z.symm hz
  have hTy : (Shared.mk ((s.heap.push { cls := .type "list", data := .seq #[] }).update s.heap.objs.size (Obj.mapSeq (fun _ => (#[] : Array Value)))) s.gens s.drawn s.toks s.os).TypeIs (.ref z) "zip" := ⟨_, hz2, rfl⟩
  unfold Builtin.List.listExtendWith
  refine wpAny_bind (wpAny_typeOf hTy ?_)
  have g1 : Builtin.List.listSameRef (.ref s.heap.objs.size) (.ref z) = false := by simp [Builtin.List.listSameRef, O.z]
  have g2 : (Value.type "zip" == Value.type "list") = false := by decide
  have g3 : (Value.type "zip" == Value.type "tuple") = false := by decide
  simp only [g1, g2, g3, Bool.or_false, Bool.false_eq_true, if_false]
  refine wpAny_bind (wpAny_pyIter_zip hz2 ?_)
  refine wpAny_bind (wpAny_holding ?_)
  unfold Builtin.List.listLengthHint
  refine wpAny_bind (wpAny_specialOf hTy zip_nolen ?_)
  show wpAny _ _ (specialOf (Value.ref z) (Str.ofString "__length_hint__") >>= _) _ _ _
  refine wpAny_bind (wpAny_specialOf hTy zip_nohint ?_)
  refine wpAny_pure ?_
  show wpAny _ _ (rule "list.extend.makes-room" >>= fun _ => Builtin.List.listTouch (.ref s.heap.objs.size) >>= fun _ => again (.builtin "list.extend.loop" ⟨[.ref s.heap.objs.size, .ref z, .none], []⟩)) _ _ _
  refine wpAny_bind (wpAny_rule ?_)
  refine wpAny_bind ?_
  show wpAny _ _ (updateSeq s.heap.objs.size (·.push .none) >>= fun _ => updateSeq s.heap.objs.size (·.pop)) _ _ _
  refine wpAny_bind (wpAny_updateSeq hS2 rfl ?_)
  have hS3 := Heap.get?_update_self (Obj.mapSeq (·.push Value.none)) hS2 rfl
  refine wpAny_updateSeq (hz := by seq_fits) hS3 rfl ?_
  have hS4 := Heap.get?_update_self (Obj.mapSeq (·.pop)) hS3 rfl
  have k4 : ∀ b o, b ≠ s.heap.objs.size → s.heap.get? b = some o → ((((s.heap.push { cls := .type "list", data := .seq #[] }).update s.heap.objs.size (Obj.mapSeq (fun _ => (#[] : Array Value)))).update s.heap.objs.size (Obj.mapSeq (·.push Value.none))).update s.heap.objs.size (Obj.mapSeq (·.pop))).get? b = some o :=
    fun b o hb e => (Heap.get?_update_other _ _ (Ne.symm hb)).trans ((Heap.get?_update_other _ _ (Ne.symm hb)).trans (k2 b o hb e))
  refine wpAny_pure ⟨plainId_quiet PySem.F.plain_extend_loop _, zst_loop (s := s) (h₁ := s.heap) (A := A.in1) hA D O rfl hsz s.heap.objs.size (Nat.le_refl _) ⟨Nat.le_of_lt lz, Nat.le_of_lt lTO, Nat.le_of_lt li1, Nat.le_of_lt li2⟩ .none
    (fun h' tk acc c as hk hS' hl hG hacc => ⟨rfl, hQ h' tk acc c as (fun b o b1 b2 b3 b4 e => hk b o (Nat.ne_of_lt (Heap.lt_size e)) b1 b2 b3 b4 e) hS' hl hG hacc⟩)
    _ 0 _ _ _ #[] [] rfl (Nat.zero_le _) (st0.keep O k4) (fun b o b0 _ _ _ _ e => k4 b o b0 e) hS4 rfl rfl ⟨List.Pairwise.nil, (fun _ ha => nomatch ha), (fun j a hj => by simp at hj)⟩ (Heap.lt_size hS4)⟩
end
/-- the tuples and the list of them, tracked -/
def putZ (H : Hp) (S : Addr) (as : List Addr) (xs ys : List V) : Hp := fun b => if b = S then some (.lst (as.map V.ref)) else match as.idxOf? b with
  | some j => some (.tup [xs.getD j .non, ys.getD j .non])
  | none => H b
theorem putZ_S {H : Hp} {S : Addr} {as : List Addr} {xs ys : List V} : putZ H S as xs ys S = some (.lst (as.map V.ref)) := if_pos rfl
theorem putZ_off {H : Hp} {S b : Addr} {as : List Addr} {xs ys : List V} (h : b ∉ as) (hS : b ≠ S) : putZ H S as xs ys b = H b := by
  unfold putZ
  rw [if_neg hS, List.idxOf?_eq_none_iff.mpr h]
theorem putZ_at {H : Hp} {S t : Addr} {as : List Addr} {xs ys : List V} {j : Nat} (nd : as.Nodup) (hS : t ≠ S) (h : as[j]? = some t) : putZ H S as xs ys t = some (.tup [xs.getD j .non, ys.getD j .non]) := by
  unfold putZ
  obtain ⟨hj, e⟩ := List.getElem?_eq_some_iff.mp h
  have : as.idxOf? t = some j := by
    rw [List.idxOf?_eq_some_iff]
    refine ⟨hj, e, fun i hi z => ?_⟩
    have hij : i < as.length := Nat.lt_trans hi hj
    exact List.pairwise_iff_getElem.mp nd i j hij hj hi (z.trans e.symm)
  rw [if_neg hS, this]
section
variable {X : Cx}
theorem zip_laid {pins : List (Addr × Obj)} {σ : L2.St} {H : Hp} {s : Shared} {h' : Heap} {tk : Nat} {xs ys : List V} {us ws : List Value} {acc : Array Value} {c : Nat} {S : Addr} {as : List Addr} (I : Inv X pins σ H s) (rx : Vals xs us) (ry : Vals ys ws) (hz : as.length ≤ sizeLine)
    (hk : ∀ b o, s.heap.get? b = some o → h'.get? b = some o) (hlow : s.heap.objs.size ≤ S) (hS : h'.get? S = some { cls := .type "list", dict := none, data := .seq acc c, slots := #[] }) (hG : ZG us.toArray ws.toArray S h' as) (hacc : acc.toList = as.map Value.ref) :
    ∃ H' : Hp, Same H H' ∧ H S = none ∧ (∀ t ∈ as, H t = none) ∧ S ∉ as ∧ H' S = some (.lst (as.map V.ref)) ∧ (∀ (j : Nat) (t : Addr), as[j]? = some t → ∃ x y, xs[j]? = some x ∧ ys[j]? = some y ∧ H' t = some (.tup [x, y])) ∧ Inv X pins σ H' { s with heap := h', toks := tk } := by
  have hSn : S ∉ as := fun z => Nat.lt_irrefl _ (hG.above _ z)
  have nd : as.Nodup := List.Pairwise.imp (fun {a b} (h : a < b) => Nat.ne_of_lt h) hG.rise
  have new : ∀ t ∈ as, H t = none := fun t ht => I.hok.fresh (Nat.le_trans hlow (Nat.le_of_lt (hG.above t ht)))
  have newS : H S = none := I.hok.fresh hlow
  have low : ∀ b o, s.heap.get? b = some o → b ∉ as ∧ b ≠ S := fun b o e => by
    have := Heap.lt_size e
    refine ⟨fun z => ?_, fun z => ?_⟩
    · have q := hG.above b z
      exact absurd (Nat.lt_of_lt_of_le this hlow) (Nat.not_lt.mpr (Nat.le_of_lt q))
    · subst z
      exact absurd this (Nat.not_lt.mpr hlow)
  have at_ : ∀ (j : Nat) (t : Addr), as[j]? = some t → ∃ x y, xs[j]? = some x ∧ ys[j]? = some y ∧ putZ H S as xs ys t = some (.tup [x, y]) := fun j t hj => by
    obtain ⟨u, v, e1, e2, _⟩ := hG.pairs j t hj
    have l1 : j < xs.length := by rw [rx.length]; simpa using (Array.getElem?_eq_some_iff.mp e1).1
    have l2 : j < ys.length := by rw [ry.length]; simpa using (Array.getElem?_eq_some_iff.mp e2).1
    refine ⟨xs[j], ys[j], List.getElem?_eq_getElem l1, List.getElem?_eq_getElem l2, ?_⟩
    rw [putZ_at nd (fun z => hSn (by rw [← z]; exact List.mem_of_getElem? hj)) hj, List.getD_eq_getElem?_getD, List.getD_eq_getElem?_getD, List.getElem?_eq_getElem l1, List.getElem?_eq_getElem l2]
    rfl
  have kp : ∀ b u, H b = some u → putZ H S as xs ys b = some u := fun b u e => by
    rw [putZ_off (fun z => by rw [new b z] at e; cases e) (fun z => by rw [z, newS] at e; cases e)]
    exact e
  refine ⟨putZ H S as xs ys, kp, newS, new, hSn, putZ_S, at_, ?_⟩
  refine I.call' (ch := []) rfl ⟨fun b o q _ _ _ => hk b o q, fun b o q _ _ _ => ⟨o.slots, hk b o q⟩, fun b o q n _ => ?_,
    fun b o q _ => ⟨o, hk b o q⟩, fun b xs q => kp b _ q, fun b o u q => kp b _ q, fun b ps q => ⟨#[], by rw [kp b _ q]; simp⟩⟩ (fun b u q => ?_) I.bare fun b z => by simp at z
  · obtain ⟨z1, z2⟩ := low b o q
    rw [putZ_off z1 z2]
    exact n
  · by_cases hb : b ∈ as
    · obtain ⟨j, hj⟩ := List.mem_iff_getElem?.mp hb
      obtain ⟨x, y, e1, e2, e3⟩ := at_ j b hj
      rw [e3] at q
      cases q
      obtain ⟨u, v, f1, f2, f3⟩ := hG.pairs j b hj
      obtain ⟨u', g1, g2⟩ := rx.get e1
      obtain ⟨v', g3, g4⟩ := ry.get e2
      rw [List.getElem?_toArray, g1] at f1
      rw [List.getElem?_toArray, g3] at f2
      obtain rfl : u' = u := Option.some.inj f1
      obtain rfl : v' = v := Option.some.inj f2
      exact ⟨by show 2 ≤ sizeLine; decide, [u', v'], .cons g2 (.cons g4 .nil), ⟨_, f3, rfl, _, rfl⟩⟩
    · by_cases hb2 : b = S
      · subst hb2
        rw [putZ_S] at q
        cases q
        refine ⟨by rw [List.length_map]; exact hz, acc.toList, c, by rw [hacc]; exact LiI.vals_refs as, ?_⟩
        rw [Array.toArray_toList]
        exact hS
      · rw [putZ_off hb hb2] at q
        exact (I.hok b u q).stay (fun d v _ y => hk d v y) (fun d y => kp d _ y) fun d xs y => kp d _ y
def rZipL (K : PySem.W.Frag) : List V → Hp → VK → Prop := fun vs H Q => ∃ (a b : Addr) (xs ys : List V), vs = [.ref a, .ref b] ∧ SqL K H a xs ∧ SqL K H b ys ∧
  ∀ (H' : Hp) (p : Addr) (ts : List Addr), Same H H' → H p = none → (∀ t ∈ ts, H t = none) → p ∉ ts → ts.length = min xs.length ys.length → H' p = some (.lst (ts.map V.ref)) →
    (∀ (j : Nat) (t : Addr), ts[j]? = some t → ∃ x y, xs[j]? = some x ∧ ys[j]? = some y ∧ H' t = some (.tup [x, y])) → Q (.ref p) H'
def tListZip (K : PySem.W.Frag) (ta : TA) : TE := fun σ H Q => ta σ H fun vs H1 => rZipL K vs H1 Q
/-- list(zip(e, e2)) -/
theorem pe_listZip {e e2 : Expr} {ta : TA} {p p2 pos pos2 : Pos} (hc : X.calm = true) (hgl : Gl X "list") (hml : X.mg "list" = none) (hgz : Gl X "zip") (hmz : X.mg "zip" = none) (ha : PA X [e, e2] ta)
    (hs : starEach [.Call (.Name "zip" p2) [e, e2] [] pos2] X.env = (false, eval (.Call (.Name "zip" p2) [e, e2] [] pos2) X.env) :: starEach [] X.env := by rfl)
    (hs2 : starEach [e, e2] X.env = (false, eval e X.env) :: starEach [e2] X.env := by rfl) (hpl : (backTo pos2 (starEach [e2] X.env)).any (·.1) = false := by rfl) :
    PE X (.Call (.Name "list" p) [.Call (.Name "zip" p2) [e, e2] [] pos2] [] pos) (tListZip X.K ta) := by
  refine ⟨fun pins s σ H Q I hq => ?_⟩
  refine wpAny_Call_Name_kw (ld_blt I hgl hml PyProof.Rows.boot_list ?_)
  refine PyProof.Rows.callWith_type1 ?_ hs rfl
  rw [hs]
  show wpAny _ _ (spliced ((false, eval (.Call (.Name "zip" p2) [e, e2] [] pos2) X.env) :: backTo pos (starEach [] X.env))) _ _ s
  refine Calls.spliced_cons ?_
  refine Call_ (ld_blt I hgz hmz PyProof.Rows.boot_zip (PyProof.Rows.callWith_type1 (thn (ha.run pos2 pins s σ H _ I hq) fun us s1 ⟨vs, H1, I1, r1, q1⟩ => ?_) hs2 hpl))
  obtain ⟨a, b, xs, ys, rfl, hx, hy, q⟩ := q1
  obtain ⟨ua, ub, rfl, ra, rb⟩ := vals2 r1
  cases ra
  cases rb
  obtain ⟨its, rx, pl1, z1⟩ := I1.list hx
  obtain ⟨jts, ry, pl2, z2⟩ := I1.list hy
  have la : a < s1.heap.objs.size := let ⟨_, e, _⟩ := pl1.isList; Heap.lt_size e
  have lb : b < s1.heap.objs.size := let ⟨_, e, _⟩ := pl2.isList; Heap.lt_size e
  refine call_zip_2 pl1.isList pl2.isList fun h' hz hTI hTO h1 h2 hsz hk => ?_
  refine Calls.spliced_nil ?_
  have l1 := rx.length
  have l2 := ry.length
  refine call_list_zip (I1.ok.hd hc) (PySem.W.ktu_apart s1.heap.objs.size a b la lb) (s := { s1 with heap := h' }) hz hTI ⟨_, _, hTO⟩ h1 h2 (pl1.isList.at fun o e => hk _ o e) (pl2.isList.at fun o e => hk _ o e) (by rw [List.size_toArray, List.size_toArray]; exact Nat.le_trans (Nat.min_le_left ..) (by omega)) fun h'' tk acc c as hk2 hS hl hG hacc => ?_
  have kk : ∀ b o, s1.heap.get? b = some o → h''.get? b = some o := fun b o e => by
    have := Heap.lt_size e
    exact hk2 b o (Nat.ne_of_lt (Nat.lt_add_right _ this)) (Nat.ne_of_lt (Nat.lt_add_right _ this)) (Nat.ne_of_lt this) (Nat.ne_of_lt (Nat.lt_add_right _ this)) (hk b o e)
  rw [List.size_toArray, List.size_toArray] at hl
  obtain ⟨H', k1, k2, k3, k4, k5, k6, J⟩ := zip_laid (tk := tk) I1 rx ry (by rw [hl]; exact Nat.le_trans (Nat.min_le_left ..) (by omega)) kk (by show s1.heap.objs.size ≤ h'.objs.size; omega) hS hG hacc
  exact ⟨.ref _, H', J, rfl, q H' _ as k1 k2 k3 k4 (by rw [hl, l1, l2]) k5 k6⟩
end
end Su
namespace Su
open PySem PySem.Spec PyProof.Rows L2
def top (i : Nat) : Stmt := PySem.Challenge.pw_shelfshares_s01_answers.main.body.getD i (.Pass ⟨0, 0, 0, 0⟩)
abbrev sCallsIn : Stmt := top 15
abbrev sOne : Stmt := top 1
abbrev sLay : Stmt := top 2
abbrev sOrder : Stmt := top 3
abbrev sSharing : Stmt := top 4
abbrev sTogether : Stmt := top 5
abbrev sWorth : Stmt := top 6
abbrev sPrice : Stmt := top 7
abbrev sIs : Stmt := top 8
abbrev sBut : Stmt := top 31
/-- the built-ins are what they are -/
structure Bt (mg : Str → Option Value) : Prop where
  len : mg "len" = none
  sum : mg "sum" = none
  zip : mg "zip" = none
  enumerate : mg "enumerate" = none
  range : mg "range" = none
  all : mg "all" = none
  max : mg "max" = none
  min : mg "min" = none
  list : mg "list" = none
/-! ### data -/
def vn (l : List Nat) : List V := l.map fun n : Nat => V.int (n : Int)
theorem vn_len (l : List Nat) : (vn l).length = l.length := by unfold vn; simp
theorem vn_get (l : List Nat) (i : Nat) : (vn l)[i]? = l[i]?.map fun n : Nat => V.int (n : Int) := by unfold vn; rw [List.getElem?_map]
theorem vn_ints (l : List Nat) : vn l = (l.map fun n : Nat => (n : Int)).map V.int := by unfold vn; rw [List.map_map]; rfl
theorem vn_append (l m : List Nat) : vn (l ++ m) = vn l ++ vn m := by unfold vn; simp
/-- at a a list of lists stands: the kinds -/
structure RowsAt (H : Hp) (a : Addr) (as : List Addr) (ks : List (List Nat)) : Prop where
  lst : H a = some (.lst (as.map V.ref))
  len : as.length = ks.length
  at_ : ∀ (i : Nat) (b : Addr), as[i]? = some b → ∃ w, ks[i]? = some w ∧ H b = some (.lst (vn w))
theorem RowsAt.same {H H' : Hp} {a : Addr} {as : List Addr} {ks : List (List Nat)} (R : RowsAt H a as ks) (s : Same H H') : RowsAt H' a as ks :=
  ⟨s _ _ R.lst, R.len, fun i b h => let ⟨w, h1, h2⟩ := R.at_ i b h; ⟨w, h1, s _ _ h2⟩⟩
theorem RowsAt.get {H : Hp} {a : Addr} {as : List Addr} {ks : List (List Nat)} (R : RowsAt H a as ks) {i : Nat} (h : i < ks.length) : ∃ b, as[i]? = some b ∧ H b = some (.lst (vn (ks.getD i []))) := by
  have h' : i < as.length := by rw [R.len]; exact h
  refine ⟨as[i], List.getElem?_eq_getElem h', ?_⟩
  obtain ⟨w, h1, h2⟩ := R.at_ i _ (List.getElem?_eq_getElem h')
  rw [List.getD_eq_getElem?_getD, h1]
  exact h2
theorem same_upd {H : Hp} {p : Addr} {o : HO} (h : H p = none) : Same H (upd H p o) := fun b x e => by
  rw [upd_ne (ne_of_none e h)]
  exact e
end Su
namespace Su
open PySem PySem.Spec PyProof.Rows L2
/-! ### every second one -/
theorem filterMap_range {β : Type} {f : Nat → Option β} {h : Nat → β} : ∀ m : Nat, (∀ k, k < m → f k = some (h k)) → (List.range m).filterMap f = (List.range m).map h
  | 0, _ => rfl
  | m + 1, hf => by
    rw [List.range_succ, List.filterMap_append, List.map_append, filterMap_range m (fun k hk => hf k (by omega)), List.filterMap_cons_some (hf m (by omega))]
    rfl
theorem vn_range {es : List Nat} {g : Nat → Nat} {m : Nat} (hl : es.length = m) (hg : ∀ k, k < m → es[k]? = some (g k)) : vn es = (List.range m).map fun k => V.int ((g k : Nat) : Int) := by
  apply List.ext_getElem?
  intro i
  rw [vn_get, List.getElem?_map]
  by_cases c : i < m
  · rw [hg i c, List.getElem?_range c]
    rfl
  · rw [List.getElem?_eq_none (by omega), List.getElem?_eq_none (by simp; omega)]
    rfl
theorem pick_evens {l : List Nat} (h2 : l.length % 2 = 0) : pickV (vn l) none none (some 2) = vn (MA.evens l) := by
  have hb : sliceBounds none none (some 2) (vn l).length = (((0 : Nat) : Int), (l.length : Int), 2) := by
    rw [vn_len]
    simp [sliceBounds]
  unfold pickV
  rw [hb]
  rw [vn_range (g := fun k => l.getD (2 * k) 0) (MA.evens_len l) fun k hk => MA.evens_get (by omega)]
  show ((sliceRange ((0 : Nat) : Int) (l.length : Int) 2).filterMap _) = _
  have hr : sliceRange ((0 : Nat) : Int) (l.length : Int) 2 = (List.range (l.length / 2)).map fun k => 2 * k := by
    unfold sliceRange
    have hc : (if (2 : Int) > 0 then (if ((0 : Nat) : Int) < (l.length : Int) then ((l.length : Int) - ((0 : Nat) : Int) + 2 - 1) / 2 else 0) else (if ((0 : Nat) : Int) > (l.length : Int) then (((0 : Nat) : Int) - (l.length : Int) - 2 - 1) / (-2) else 0)) = ((l.length / 2 : Nat) : Int) := by
      rw [if_pos (by decide)]
      split <;> omega
    rw [hc]
    simp only [Int.toNat_natCast]
    apply List.map_congr_left
    intro k _
    omega
  rw [hr, List.filterMap_map]
  refine filterMap_range _ fun k hk => ?_
  show (vn l)[2 * k]? = _
  have : 2 * k < l.length := by omega
  rw [vn_get, List.getD_eq_getElem?_getD, List.getElem?_eq_getElem this]
  rfl
theorem pick_odds {l : List Nat} (h2 : l.length % 2 = 0) : pickV (vn l) (some 1) none (some 2) = vn (MA.odds l) := by
  have hb : sliceBounds (some 1) none (some 2) (vn l).length = (((min 1 l.length : Nat) : Int), (l.length : Int), 2) := by
    rw [vn_len]
    simp only [sliceBounds, Option.getD_some, show (2 : Int) > 0 by decide, if_true, show ¬ ((1 : Int) < 0) by decide, if_false]
    congr 1
    omega
  unfold pickV
  rw [hb]
  rw [vn_range (g := fun k => l.getD (2 * k + 1) 0) (MA.odds_len l) fun k hk => MA.odds_get (by omega)]
  show ((sliceRange ((min 1 l.length : Nat) : Int) (l.length : Int) 2).filterMap _) = _
  by_cases c0 : l.length = 0
  · rw [c0]
    rfl
  have e1 : min 1 l.length = 1 := by omega
  rw [e1]
  have hr : sliceRange ((1 : Nat) : Int) (l.length : Int) 2 = (List.range (l.length / 2)).map fun k => 2 * k + 1 := by
    unfold sliceRange
    have hc : (if (2 : Int) > 0 then (if ((1 : Nat) : Int) < (l.length : Int) then ((l.length : Int) - ((1 : Nat) : Int) + 2 - 1) / 2 else 0) else (if ((1 : Nat) : Int) > (l.length : Int) then (((1 : Nat) : Int) - (l.length : Int) - 2 - 1) / (-2) else 0)) = ((l.length / 2 : Nat) : Int) := by
      rw [if_pos (by decide)]
      split <;> omega
    rw [hc]
    simp only [Int.toNat_natCast]
    apply List.map_congr_left
    intro k _
    omega
  rw [hr, List.filterMap_map]
  refine filterMap_range _ fun k hk => ?_
  show (vn l)[2 * k + 1]? = _
  have : 2 * k + 1 < l.length := by omega
  rw [vn_get, List.getD_eq_getElem?_getD, List.getElem?_eq_getElem this]
  rfl
end Su
namespace Su
open PySem PySem.Spec PyProof.Rows L2
section
variable {P : Program} {w : World} {K : PySem.W.Frag} {mg : Str → Option Value} {base : Heap}
/-! ### worth_of_one_more -/
def spOne : Sp := fun vs H Q _ => ∃ (a : Addr) (ws : List Nat) (n : Nat), vs = [.ref a, .int (n : Int)] ∧ H a = some (.lst (vn ws)) ∧ Q (.int ((ws.getD n 0 : Nat) : Int)) H
theorem scOne : FnScope ["worths", "pieces"] ["worths", "pieces"] (defScope sOne) := ⟨rfl, rfl, rfl, by decide +kernel, rfl, by decide +kernel, by decide +kernel⟩
theorem at_vn {l : List Nat} {i : Nat} (h : i < l.length) : atI (vn l) (i : Int) = some (V.int ((l.getD i 0 : Nat) : Int)) := by
  refine atI_nat ?_
  rw [vn_get, List.getD_eq_getElem?_getD, List.getElem?_eq_getElem h]
  rfl
theorem ok_one {f : Addr} {fd : FuncData} (F : Fun K "worth_of_one_more" "worth_of_one_more" sOne f fd) (B : Bt mg) : FnOk P w K mg base CX0 1 f fd ["worths", "pieces"] spOne := by
  refine F.ok scOne (fun vs H Q E h => ?_) (fun cdv A outer s H vs Q E hr h => ?_)
  · obtain ⟨a, ws, n, rfl, _⟩ := h
    rfl
  · obtain ⟨a, ws, n, rfl, ha, k⟩ := h
    refine ⟨_, pss_cons (ps_if (pt_cmpR op_lt (pv 1) (pe_callB call_len_seq (by rfl) B.len PySem.boot_len (pa_cons (pv 0) pa_nil)) (nomark _)) (pss_one (ps_ret (pe_ix ix_list (pv 0) (pv 1) (fun _ _ => rfl)))) pss_nil)
      (pss_one (ps_ret pe_int)), ?_⟩
    refine ⟨_, rfl, _, rfl, a, _, rfl, .inl (SqL.of ha), _, _, rfl, rfl, _, rfl, ?_⟩
    refine ite2 (fun c => ?_) (fun c => ?_)
    · have c' : n < ws.length := by
        have := of_decide_eq_true c
        rw [vn_len] at this
        exact Int.ofNat_lt.mp this
      exact ⟨_, rfl, _, rfl, a, _, _, _, rfl, rfl, SqL.of ha, at_vn c', k⟩
    · have c' : ¬ n < ws.length := fun q => c (decide_eq_true (by rw [vn_len]; exact Int.ofNat_lt.mpr q))
      have e : ws.getD n 0 = 0 := by
        rw [List.getD_eq_getElem?_getD, List.getElem?_eq_none (by omega)]; rfl
      rw [e] at k
      exact k
end
end Su
namespace Su
open PySem PySem.Spec PyProof.Rows L2
/-- a number, or None -/
def opt : Option Nat → V
  | none => .non
  | some k => .int (k : Int)
def mostOf (a : Su90.Abs) (m : List Nat) : Option Nat → Int
  | none => -1
  | some j => (MA.head a m j : Nat)
theorem most_some (a : Su90.Abs) (m : List Nat) (b : Option Nat) (k : Nat) : MA.pick a m b k = if mostOf a m b < (MA.head a m k : Nat) then some k else b := by
  cases b with
  | none =>
    show some k = _
    rw [if_pos]
    show (-1 : Int) < _
    omega
  | some j =>
    show (if MA.head a m j < MA.head a m k then some k else some j) = if ((MA.head a m j : Nat) : Int) < (MA.head a m k : Nat) then some k else some j
    by_cases c : MA.head a m j < MA.head a m k
    · rw [if_pos c, if_pos (by omega)]
    · rw [if_neg c, if_neg (by omega)]
section
variable {P : Program} {w : World} {K : PySem.W.Frag} {mg : Str → Option Value} {base : Heap}
/-! ### kind_to_lay -/
def spLay : Sp := fun vs H Q _ => ∃ (ka sa : Addr) (as : List Addr) (a : Su90.Abs) (m : List Nat), vs = [.ref ka, .ref sa] ∧ RowsAt H ka as a.kinds ∧ H sa = some (.lst (vn m)) ∧ m.length = a.kinds.length ∧
  ∀ H', Same H H' → Q (opt (a.next m)) H'
theorem scLay : FnScope ["kinds", "sharing", "chosen", "most", "k", "worths"] ["kinds", "sharing"] (defScope sLay) := ⟨rfl, rfl, rfl, by decide +kernel, rfl, by decide +kernel, by decide +kernel⟩
theorem ok_lay {f : Addr} {fd : FuncData} (F : Fun K "kind_to_lay" "kind_to_lay" sLay f fd) (B : Bt mg) : FnOk P w K mg base CX0 1 f fd ["kinds", "sharing"] spLay := by
  refine F.ok scLay (fun vs H Q E h => ?_) (fun cdv A outer s H vs Q E hr h => ?_)
  · obtain ⟨ka, sa, as, a, m, rfl, _⟩ := h
    rfl
  · obtain ⟨ka, sa, as, a, m, rfl, R, hm, hl, k⟩ := h
    refine ⟨_, pss_cons (ps_set (i := 2) scLay.nd rfl (Or.inl rfl) pe_non) (pss_cons (ps_set (i := 3) scLay.nd rfl (Or.inl rfl) (pe_un un_neg pe_int))
      (pss_cons (ps_for PassesOwn.never rfl (pi_enum (by rfl) B.enumerate (pa_cons (pv 0) pa_nil)) (pg_tup rfl (pgs_cons (pg_name (i := 4) scLay.nd rfl (Or.inl rfl)) (pgs_cons (pg_name (i := 5) scLay.nd rfl (Or.inl rfl)) pgs_nil)))
        (pss_one (ps_if (pw_and (pt_cmpR op_lt (pe_ix ix_list (pv 1) (pv 4) (fun _ _ => rfl)) (pe_callB call_len_seq (by rfl) B.len PySem.boot_len (pa_cons (pv 5) pa_nil)) (nomark _))
            (pw_and1 (pt_cmpR op_gt (pe_ix ix_list (pv 5) (pe_ix ix_list (pv 1) (pv 4) (fun _ _ => rfl)) (fun _ _ => rfl)) (pv 3) (nomark _)))).pt
          (pss_cons (ps_set (i := 2) scLay.nd rfl (Or.inl rfl) (pv 4)) (pss_one (ps_set (i := 3) scLay.nd rfl (Or.inl rfl) (pe_ix ix_list (pv 5) (pe_ix ix_list (pv 1) (pv 4) (fun _ _ => rfl)) (fun _ _ => rfl))))) pss_nil)))
      (pss_one (ps_ret (pv 2))))), ?_⟩
    refine ⟨_, rfl, _, rfl, ka, _, rfl, SqL.of R.lst, ?_⟩
    refine for_it (walk_enum (K := K) (a := ka) (xs := as.map V.ref)) (fun i σ H' => ∃ v4 v5, σ = [some (.ref ka), some (.ref sa), some (opt (MA.upto a m i)), some (.int (mostOf a m (MA.upto a m i))), v4, v5] ∧ Same H H')
      ⟨none, none, rfl, Same.refl H⟩ (fun i σ H' _ ⟨_, _, _, s1⟩ => SqL.of (s1 _ _ R.lst)) ?_ ?_
    · rintro i x σ H1 H2 hi ⟨v4, v5, rfl, s1⟩ ⟨T, x1, x2, rfl, nT, rfl, e1, e2⟩
      rw [List.length_map] at hi
      have hi' : i < a.kinds.length := by rw [← R.len]; exact hi
      obtain ⟨b, hb, hbl⟩ := R.get hi'
      have ex1 : x1 = .int (i : Int) := (Option.some.inj e1).symm
      have ex2 : x2 = .ref b := by
        have e2 : (as.map V.ref)[i]? = some x2 := e2
        rw [List.getElem?_map, hb] at e2
        exact (Option.some.inj e2).symm
      subst ex1
      subst ex2
      have s2 : Same H (upd H1 T (.tup [.int (i : Int), .ref b])) := s1.trans (same_upd nT)
      refine ⟨T, _, rfl, SqT.of upd_same, rfl, _, _, rfl, _, _, rfl, rfl, ?_⟩
      have him : i < m.length := by rw [hl]; exact hi'
      have eh : (a.kinds.getD i []) = a.gains i := rfl
      rw [eh] at hbl
      refine ⟨_, rfl, _, rfl, sa, _, _, _, rfl, rfl, SqL.of (s2 _ _ hm), at_vn him, _, rfl, b, _, rfl, .inl (SqL.of (s2 _ _ hbl)), _, _, rfl, rfl, _, rfl, ?_⟩
      rw [vn_len]
      refine ite2 (fun c => ?_) (fun c => ?_)
      · have c' : m.getD i 0 < (a.gains i).length := Int.ofNat_lt.mp (of_decide_eq_true c)
        have eu : MA.upto a m (i + 1) = if mostOf a m (MA.upto a m i) < (MA.head a m i : Nat) then some i else MA.upto a m i := by
          rw [MA.upto_succ, if_pos c', most_some]
        refine ⟨_, rfl, _, rfl, _, rfl, sa, _, _, _, rfl, rfl, SqL.of (s2 _ _ hm), at_vn him, b, _, _, _, rfl, rfl, SqL.of (s2 _ _ hbl), at_vn c', _, rfl, _, _, rfl, rfl, _, rfl, ?_⟩
        refine ite2 (fun d => ?_) (fun d => ?_)
        · have d' := of_decide_eq_true d
          have eu' : MA.upto a m (i + 1) = some i := eu.trans (if_pos d')
          refine ⟨_, rfl, ?_⟩
          refine ⟨_, rfl, _, rfl, _, rfl, sa, _, _, _, rfl, rfl, SqL.of (s2 _ _ hm), at_vn him, b, _, _, _, rfl, rfl, SqL.of (s2 _ _ hbl), at_vn c', ?_⟩
          refine ⟨some (.int (i : Int)), some (.ref b), ?_, s2⟩
          rw [eu']
          rfl
        · have eu' : MA.upto a m (i + 1) = MA.upto a m i := eu.trans (if_neg fun q => d (decide_eq_true q))
          refine ⟨some (.int (i : Int)), some (.ref b), ?_, s2⟩
          rw [eu']
          rfl
      · have c' : ¬ m.getD i 0 < (a.gains i).length := fun q => c (decide_eq_true (Int.ofNat_lt.mpr q))
        have eu' : MA.upto a m (i + 1) = MA.upto a m i := by rw [MA.upto_succ, if_neg c']
        refine iteF ?_
        refine ⟨some (.int (i : Int)), some (.ref b), ?_, s2⟩
        rw [eu']
        rfl
    · rintro σ H1 ⟨v4, v5, rfl, s1⟩
      refine ⟨_, rfl, ?_⟩
      rw [List.length_map, R.len]
      exact k H1 s1
end
end Su
namespace Su
open PySem PySem.Spec PyProof.Rows L2
theorem _root_.L2.Same.upd_free {H H' : Hp} {p : Addr} {o : HO} (s : Same H H') (h : H p = none) : Same H (upd H' p o) := fun b x e => by
  rw [upd_ne (ne_of_none e h)]
  exact s b x e
theorem small {n : Nat} (h : n ≤ 1000000) : n < sizeLine := Nat.lt_of_le_of_lt h (by decide)
theorem small' {n : Nat} (h : n ≤ 1000000) : n ≤ sizeLine := Nat.le_of_lt (small h)
theorem ixN_nat {n j : Nat} (h : j < n) : ixN n (j : Int) = some j := by
  unfold ixN
  simp [h]
theorem vn_set (m : List Nat) (k v : Nat) : (vn m).set k (V.int (v : Int)) = vn (m.set k v) := by
  unfold vn
  rw [List.map_set]
theorem inc_set (m : List Nat) (k : Nat) (h : k < m.length) : m.set k (m.getD k 0 + 1) = MA.inc m k := by
  unfold MA.inc
  apply List.ext_getElem?
  intro i
  rw [List.getElem?_modify, List.getElem?_set]
  by_cases c : k = i
  · subst c
    rw [if_pos rfl, if_pos h, List.getD_eq_getElem?_getD, List.getElem?_eq_getElem h]
    simp
  · rw [if_neg c]
    simp [c]
section
variable {P : Program} {w : World} {K : PySem.W.Frag} {mg : Str → Option Value} {base : Heap}
/-! ### order_told -/
def spOrder : Sp := fun vs H Q _ => ∃ (ka : Addr) (as : List Addr) (a : Su90.Abs) (n : Nat), vs = [.ref ka, .int (n : Int)] ∧ RowsAt H ka as a.kinds ∧ a.kinds.length ≤ 100 ∧ n ≤ 100 ∧
  ∀ H' p, Same H H' → H p = none → H' p = some (.lst (vn (a.steps n a.none_))) → Q (.ref p) H'
theorem scOrder : FnScope ["kinds", "places", "sharing", "order", "k", "worths"] ["kinds", "places"] (defScope sOrder) := ⟨rfl, rfl, rfl, by decide +kernel, rfl, by decide +kernel, by decide +kernel⟩
def lenAt (H : Hp) (p : Addr) : Nat := match H p with
  | some (.lst xs) => xs.length
  | _ => 0
theorem lenAt_of {H : Hp} {p : Addr} {xs : List V} (h : H p = some (.lst xs)) : lenAt H p = xs.length := by unfold lenAt; rw [h]
theorem ok_order {f : Addr} {fd : FuncData} (F : Fun K "order_told" "order_told" sOrder f fd) (B : Bt mg) (cL : C8.Cal P w K mg base 1 "kind_to_lay" spLay []) : FnOk P w K mg base CX0 2 f fd ["kinds", "places"] spOrder := by
  refine F.ok scOrder (fun vs H Q E h => ?_) (fun cdv A outer s H vs Q E hr h => ?_)
  · obtain ⟨ka, as, a, n, rfl, _⟩ := h
    rfl
  · obtain ⟨ka, as, a, n, rfl, R, hk, hn, k⟩ := h
    refine ⟨_, pss_cons (ps_setLc (i := 2) (own := [("worths", 5)]) (g := gName 5) (tt := tYes) rfl scOrder.nd rfl rfl (sw_true rfl rfl rfl (by decide +kernel)) (pi_list (pv 0)) (blkOk_by (N := ["kinds", "places", "sharing", "order", "k", "worths"]) (sc := defScope sOrder) (by decide +kernel))
        (fun _ _ _ _ _ => pg_name (i := 5) scOrder.nd rfl (Or.inl rfl)) (fun _ _ _ _ _ => pts_nil) (fun _ _ _ _ _ => pe_int))
      (pss_cons (ps_set (i := 3) scOrder.nd rfl (Or.inl rfl) (pe_lst pa_nil))
      (pss_cons (ps_while PassesOwn.never (pt_cmpR op_lt (pe_callB call_len_seq (by rfl) B.len PySem.boot_len (pa_cons (pv 3) pa_nil)) (pv 1) (nomark _))
        (pss_cons (ps_set (i := 4) scOrder.nd rfl (Or.inl rfl) (C8.pe_c cL hr (by decide) (by rfl) (pa_cons (pv 0) (pa_cons (pv 2) pa_nil))))
        (pss_cons (ps_if (pt_cmpR op_isN (pv 4) pe_non (nomark _)) (pss_one ps_break) pss_nil)
        (pss_cons (ps_asg (pe_op op_add (pe_ix ix_list (pv 2) (pv 4) (fun _ _ => rfl)) pe_int) (pg_sub (pv 2) (pv 4) set_list))
        (pss_one (ps_expr (pe_bm PySem.F.plainAttrs_list PySem.F.slot_list_append PySem.F.type_list_append mt_append (pv 3) (pa_cons (pv 4) pa_nil))))))))
      (pss_one (ps_ret (pv 3))))), ?_⟩
    -- sharing = [0 for worths in kinds]
    refine ⟨_, rfl, ka, rfl, ⟨_, SqL.of R.lst⟩, fun sa nsa => lc_list (K := K) (a := ka) (xs := as.map V.ref) (fun i H' => Same H H' ∧ H' sa = some (.lst (vn (List.replicate i 0))))
      ⟨same_upd nsa, upd_same⟩ (fun i H' _ p => SqL.of (p.1 _ _ R.lst)) ?_ ?_⟩
    · rintro i x H1 hi ⟨s1, h1⟩
      have hi' : i < as.length := by
        have := (List.getElem?_eq_some_iff.mp hi).1
        rwa [List.length_map] at this
      refine ⟨rfl, ?_⟩
      refine ⟨_, h1, small (by rw [vn_len, List.length_replicate]; have := R.len; omega), s1.upd_free nsa, ?_⟩
      rw [upd_same, List.replicate_succ', vn_append]
      rfl
    · rintro H1 ⟨s1, h1⟩
      rw [List.length_map, R.len] at h1
      -- order = []
      refine ⟨Nat.zero_le _, fun oa noa => ?_⟩
      have nso : sa ≠ oa := ne_of_none h1 noa
      have noa0 : H oa = none := s1.free noa
      refine while_by (fun σ H' => ∃ v4 v5 m o, σ = [some (.ref ka), some (.int (n : Int)), some (.ref sa), some (.ref oa), v4, v5] ∧ Same H H' ∧ H' sa = some (.lst (vn m)) ∧ H' oa = some (.lst (vn o)) ∧ m.length = a.kinds.length ∧ o.length ≤ n ∧ a.steps n a.none_ = o ++ a.steps (n - o.length) m)
        (fun σ H' => n - lenAt H' oa) ⟨none, none, a.none_, [], rfl, s1.upd_free noa0, by rw [upd_ne nso]; exact h1, upd_same, by simp [Su90.Abs.none_], Nat.zero_le _, rfl⟩ ?_
        (fun σ H Q Q' f h => by obtain ⟨v, hv, a, xs, e, hs, v1, hv1, i, j, e1, e2, k, ek, q⟩ := h; exact ⟨v, hv, a, xs, e, hs, v1, hv1, i, j, e1, e2, k, ek, f _ _ q⟩)
      rintro σ H2 ⟨v4, v5, m, o, rfl, s2, hm, ho, lm, lo, est⟩
      refine ⟨_, rfl, oa, _, rfl, .inl (SqL.of ho), _, rfl, _, _, rfl, rfl, _, rfl, ?_⟩
      rw [vn_len]
      refine ite2 (fun c => ?_) (fun c => ?_)
      · have c' : o.length < n := Int.ofNat_lt.mp (of_decide_eq_true c)
        -- k = kind_to_lay(kinds, sharing)
        refine ⟨_, rfl, _, rfl, ka, sa, as, a, m, rfl, R.same s2, hm, lm, fun H3 s3 => ?_⟩
        have s23 : Same H H3 := s2.trans s3
        obtain ⟨r, hr'⟩ : ∃ r, n - o.length = r + 1 := ⟨n - o.length - 1, by omega⟩
        refine ⟨_, rfl, rfl, _, rfl, ?_⟩
        cases e : a.next m with
        | none =>
          refine if_pos (show decide (opt none = V.non) = true from rfl) ▸ ?_
          refine ⟨_, rfl, ?_⟩
          refine k H3 oa s23 noa0 ?_
          rw [est, hr', MA.steps_succ, e, List.append_nil]
          exact s3 _ _ ho
        | some j =>
          have hj : j < m.length := by rw [lm]; exact (MA.next_some e).1
          refine (if_neg (show ¬ decide (opt (some j) = V.non) = true from fun z => by cases of_decide_eq_true z)) ▸ ?_
          -- sharing[k] = sharing[k] + 1
          refine ⟨_, rfl, _, rfl, sa, _, _, _, rfl, rfl, SqL.of (s3 _ _ hm), at_vn hj, _, _, rfl, rfl, _, rfl, _, rfl, sa, _, _, j, rfl, rfl, s3 _ _ hm, ixN_nat (by rw [vn_len]; exact hj), ?_⟩
          -- order.append(k)
          have ho3 : upd H3 sa (.lst ((vn m).set j (V.int ((m.getD j 0 : Nat) + 1 : Int)))) oa = some (.lst (vn o)) := by
            rw [upd_ne nso.symm]
            exact s3 _ _ ho
          refine ⟨_, rfl, .inl ⟨rfl, _, SqL.of ho3⟩, _, rfl, oa, _, _, rfl, rfl, ho3, small (by rw [vn_len]; omega), ?_⟩
          have eo : ((upd (upd H3 sa (.lst ((vn m).set j (V.int ((m.getD j 0 : Nat) + 1 : Int))))) oa (.lst (vn o ++ [V.int (j : Int)]))) oa) = some (.lst (vn (o ++ [j]))) := by
            rw [upd_same, vn_append]
            rfl
          refine ⟨⟨_, v5, MA.inc m j, o ++ [j], rfl, (s23.upd_free nsa).upd_free noa0, ?_, eo, by rw [MA.inc_len]; exact lm, by rw [List.length_append]; exact c', ?_⟩, ?_⟩
          · rw [upd_ne nso, upd_same]
            show some (HO.lst ((vn m).set j (V.int ((m.getD j 0 : Nat) + 1 : Int)))) = _
            have : ((m.getD j 0 : Nat) + 1 : Int) = ((m.getD j 0 + 1 : Nat) : Int) := by omega
            rw [this, vn_set, inc_set m j hj]
          · rw [est, hr', MA.steps_succ, e]
            have : n - (o ++ [j]).length = r := by rw [List.length_append]; show n - (o.length + 1) = r; omega
            rw [this, List.append_assoc]
            rfl
          · show n - lenAt _ oa < n - lenAt H2 oa
            have eL := lenAt_of eo
            refine Nat.lt_of_le_of_lt (Nat.le_of_eq (congrArg (n - ·) eL)) ?_
            rw [lenAt_of ho, vn_len, vn_len, List.length_append]
            show n - (o.length + 1) < n - o.length
            omega
      · have c' : o.length = n := by
          have : ¬ o.length < n := fun q => c (decide_eq_true (Int.ofNat_lt.mpr q))
          omega
        refine ⟨_, rfl, ?_⟩
        refine k H2 oa s2 noa0 ?_
        rw [est, c', Nat.sub_self, MA.steps_zero, List.append_nil]
        exact ho
end
end Su
namespace Su
open PySem PySem.Spec PyProof.Rows L2
theorem count_cast (l : List Nat) (k : Nat) : (l.map fun n : Nat => (n : Int)).count (k : Int) = l.count k := by
  induction l with
  | nil => rfl
  | cons x l ih =>
    rw [List.map_cons, List.count_cons, List.count_cons, ih]
    by_cases c : x = k
    · subst c; simp
    · have : ¬ (x : Int) = (k : Int) := fun z => c (Int.ofNat_inj.mp z)
      simp [c, this]
section
variable {P : Program} {w : World} {K : PySem.W.Frag} {mg : Str → Option Value} {base : Heap}
/-! ### sharing_told -/
def spSharing : Sp := fun vs H Q _ => ∃ (ka : Addr) (as : List Addr) (a : Su90.Abs) (n : Nat), vs = [.ref ka, .int (n : Int)] ∧ RowsAt H ka as a.kinds ∧ a.kinds.length ≤ 100 ∧ n ≤ 100 ∧
  ∀ H' p, Same H H' → H p = none → H' p = some (.lst (vn (a.best n))) → Q (.ref p) H'
theorem scSharing : FnScope ["kinds", "places", "order", "k"] ["kinds", "places"] (defScope sSharing) := ⟨rfl, rfl, rfl, by decide +kernel, rfl, by decide +kernel, by decide +kernel⟩
theorem ok_sharing {f : Addr} {fd : FuncData} (F : Fun K "sharing_told" "sharing_told" sSharing f fd) (B : Bt mg) (cO : C8.Cal P w K mg base 2 "order_told" spOrder []) : FnOk P w K mg base CX0 3 f fd ["kinds", "places"] spSharing := by
  refine F.ok scSharing (fun vs H Q E h => ?_) (fun cdv A outer s H vs Q E hr h => ?_)
  · obtain ⟨ka, as, a, n, rfl, _⟩ := h
    rfl
  · obtain ⟨ka, as, a, n, rfl, R, hk, hn, k⟩ := h
    refine ⟨_, pss_cons (ps_set (i := 2) scSharing.nd rfl (Or.inr rfl) (C8.pe_c cO hr (by decide) (by rfl) (pa_cons (pv 0) (pa_cons (pv 1) pa_nil))))
      (pss_one (ps_ret (pe_lc (own := [("k", 3)]) (g := gName 3) (tt := tYes) (te := tBM K "list" (rCntI K) (tVar 2) (tCons (tVar 3) tNil)) rfl scSharing.nd (pi_range1 (by rfl) B.range (pa_cons (pe_callB call_len_seq (by rfl) B.len PySem.boot_len (pa_cons (pv 0) pa_nil)) pa_nil))
        (blkOk_by (N := ["kinds", "places", "order", "k"]) (sc := defScope sSharing) (by decide +kernel)) (fun _ _ _ _ _ => pg_name (i := 3) scSharing.nd rfl (Or.inl rfl)) (fun _ _ _ _ _ => pts_nil)
        (fun _ _ _ _ _ => pe_bm PySem.F.plainAttrs_list PySem.F.slot_list_count PySem.F.type_list_count mt_lcount (pv 2) (pa_cons (pv 3) pa_nil))))), ?_⟩
    refine ⟨_, rfl, _, rfl, ka, as, a, n, rfl, R, hk, hn, fun H1 oa s1 noa ho => ?_⟩
    refine ⟨_, rfl, ka, _, rfl, .inl (SqL.of (s1 _ _ R.lst)), ?_⟩
    rw [List.length_map, R.len]
    refine ⟨_, rfl, by omega, by omega, fun D nD => ?_⟩
    have nD0 : H D = none := s1.free nD
    have nDo : oa ≠ D := ne_of_none ho nD
    refine lc_range (lo := 0) (n := a.kinds.length) (fun i H' => Same H H' ∧ H' oa = some (.lst (vn (a.steps n a.none_))) ∧ H' D = some (.lst (vn ((List.range i).map fun k => (a.steps n a.none_).count k))))
      ⟨s1.upd_free nD0, by rw [upd_ne nDo]; exact ho, upd_same⟩ ?_ ?_
    · rintro i H2 hi ⟨s2, h2, h3⟩
      refine ⟨rfl, ?_⟩
      have ei : (0 : Int) + (i : Nat) = (i : Int) := by omega
      rw [ei]
      refine ⟨_, rfl, .inl ⟨rfl, _, SqL.of h2⟩, _, rfl, oa, (a.steps n a.none_).map (fun n : Nat => (n : Int)), (i : Int), rfl, rfl, by rw [← vn_ints]; exact SqL.of h2, _, h3, small (by rw [vn_len, List.length_map, List.length_range]; omega), s2.upd_free nD0, by rw [upd_ne nDo]; exact h2, ?_⟩
      rw [upd_same, count_cast, List.range_succ, List.map_append, vn_append]
      rfl
    · rintro H2 ⟨s2, h2, h3⟩
      refine k H2 D s2 nD0 ?_
      rw [MA.best_count]
      exact h3
end
end Su
namespace Su
open PySem PySem.Spec PyProof.Rows L2
/-! ### slices -/
theorem cut_to (xs : List V) (n : Nat) : cutV xs none (some (n : Int)) = xs.take n := by
  unfold cutV
  rw [HT.sIx_none, show HT.sIx xs.length xs.length (some (n : Int)) = min n xs.length from HT.sIx_nat xs.length xs.length n]
  rw [List.drop_zero, Nat.sub_zero]
  by_cases c : n ≤ xs.length
  · rw [Nat.min_eq_left c]
  · rw [Nat.min_eq_right (by omega), List.take_length, List.take_of_length_le (by omega)]
theorem cut_from (xs : List V) (n : Nat) : cutV xs (some (n : Int)) none = xs.drop n := by
  unfold cutV
  rw [HT.sIx_none, show HT.sIx xs.length 0 (some (n : Int)) = min n xs.length from HT.sIx_nat xs.length 0 n]
  by_cases c : n ≤ xs.length
  · rw [Nat.min_eq_left c]
    exact List.take_of_length_le (by rw [List.length_drop]; exact Nat.le_refl _)
  · rw [Nat.min_eq_right (by omega), List.drop_of_length_le (Nat.le_refl _), List.drop_of_length_le (by omega)]
    exact List.take_nil
theorem vn_take (l : List Nat) (n : Nat) : (vn l).take n = vn (l.take n) := by unfold vn; rw [List.map_take]
theorem vn_drop (l : List Nat) (n : Nat) : (vn l).drop n = vn (l.drop n) := by unfold vn; rw [List.map_drop]
/-- what the pairs are worth -/
def zw (ks : List (List Nat)) (m : List Nat) : List Nat := List.zipWith (fun w n => (w.take n).sum) ks m
theorem zw_sum : ∀ (ks : List (List Nat)) (m : List Nat), (zw ks m).sum = MA.zsum ks m
  | [], [] => rfl
  | [], _ :: _ => rfl
  | _ :: _, [] => rfl
  | w :: ks, n :: m => by
    show ((w.take n).sum :: zw ks m).sum = (w.take n).sum + MA.zsum ks m
    rw [List.sum_cons, zw_sum ks m]
theorem take_snoc {α : Type} {l : List α} {i : Nat} {x : α} (h : l[i]? = some x) : l.take (i + 1) = l.take i ++ [x] := by
  rw [List.take_add_one, h]
  rfl
theorem zw_get {ks : List (List Nat)} {m : List Nat} {i : Nat} (h1 : i < ks.length) (h2 : i < m.length) : (zw ks m)[i]? = some (((ks.getD i []).take (m.getD i 0)).sum) := by
  unfold zw
  rw [List.getElem?_zipWith, List.getElem?_eq_getElem h1, List.getElem?_eq_getElem h2, List.getD_eq_getElem?_getD, List.getD_eq_getElem?_getD, List.getElem?_eq_getElem h1, List.getElem?_eq_getElem h2]
  rfl
theorem zw_len (ks : List (List Nat)) (m : List Nat) : (zw ks m).length = min ks.length m.length := by unfold zw; simp
section
variable {P : Program} {w : World} {K : PySem.W.Frag} {mg : Str → Option Value} {base : Heap}
/-! ### worth_together -/
def spTogether : Sp := fun vs H Q _ => ∃ (ka sa : Addr) (as : List Addr) (ks : List (List Nat)) (m : List Nat), vs = [.ref ka, .ref sa] ∧ RowsAt H ka as ks ∧ H sa = some (.lst (vn m)) ∧ m.length = ks.length ∧ ks.length ≤ 100 ∧
  ∀ H', Same H H' → Q (.int ((MA.zsum ks m : Nat) : Int)) H'
theorem scTogether : FnScope ["kinds", "sharing", "worths", "pieces"] ["kinds", "sharing"] (defScope sTogether) := ⟨rfl, rfl, rfl, by decide +kernel, rfl, by decide +kernel, by decide +kernel⟩
theorem ok_together {f : Addr} {fd : FuncData} (F : Fun K "worth_together" "worth_together" sTogether f fd) (B : Bt mg) : FnOk P w K mg base CX0 1 f fd ["kinds", "sharing"] spTogether := by
  refine F.ok scTogether (fun vs H Q E h => ?_) (fun cdv A outer s H vs Q E hr h => ?_)
  · obtain ⟨ka, sa, as, ks, m, rfl, _⟩ := h
    rfl
  · obtain ⟨ka, sa, as, ks, m, rfl, R, hm, hl, hk, k⟩ := h
    refine ⟨_, pss_one (ps_ret (pe_callB (cr_sum rfl) (by rfl) B.sum (by decide +kernel) (pa_cons (pe_lc (own := [("worths", 2), ("pieces", 3)]) (g := gTup K 2 (gCons (gName 2) (gCons (gName 3) gNil))) (tt := tYes)
      (te := tCB (rSum K) (tCons (tSl (rSlL K) (tVar 2) tNoPart (tPart (tVar 3))) tNil)) rfl scTogether.nd (pi_zip (by rfl) B.zip (pa_cons (pv 0) (pa_cons (pv 1) pa_nil)))
      (blkOk_by (N := ["kinds", "sharing", "worths", "pieces"]) (sc := defScope sTogether) (by decide +kernel)) (fun _ _ _ _ _ => pg_tup rfl (pgs_cons (pg_name (i := 2) scTogether.nd rfl (Or.inl rfl)) (pgs_cons (pg_name (i := 3) scTogether.nd rfl (Or.inl rfl)) pgs_nil))) (fun _ _ _ _ _ => pts_nil)
      (fun _ _ _ _ _ => pe_callB (cr_sum rfl) (by rfl) B.sum (by decide +kernel) (pa_cons (pe_slice sl_list (pv 2) po_none (po_some (pv 3))) pa_nil))) pa_nil))), ?_⟩
    refine ⟨_, rfl, _, rfl, ka, sa, _, _, rfl, SqL.of R.lst, SqL.of hm, fun D nD => ?_⟩
    have hn : ks.length = min (as.map V.ref).length (vn m).length := by rw [List.length_map, vn_len, R.len, hl, Nat.min_self]
    refine lc_it (walk_zip (K := K) (a := ka) (b := sa) (xs := as.map V.ref) (ys := vn m) hn) (fun i H' => Same H H' ∧ H' D = some (.lst (vn ((zw ks m).take i))))
      ⟨same_upd nD, upd_same⟩ (fun i H' _ p => ⟨SqL.of (p.1 _ _ R.lst), SqL.of (p.1 _ _ hm)⟩) ?_ ?_
    · rintro i x H1 H2 hi ⟨s1, h1⟩ ⟨T, x1, x2, rfl, nT, rfl, e1, e2⟩
      have him : i < m.length := by rw [hl]; exact hi
      obtain ⟨b, hb, hbl⟩ := R.get hi
      have e1 : (as.map V.ref)[i]? = some x1 := e1
      have e2 : (vn m)[i]? = some x2 := e2
      rw [List.getElem?_map, hb] at e1
      have ex1 : x1 = .ref b := (Option.some.inj e1).symm
      rw [vn_get, List.getElem?_eq_getElem him] at e2
      have ex2 : x2 = .int ((m.getD i 0 : Nat) : Int) := by
        rw [List.getD_eq_getElem?_getD, List.getElem?_eq_getElem him]
        exact (Option.some.inj e2).symm
      subst ex1
      subst ex2
      have s2 : Same H1 (upd H1 T (.tup [.ref b, .int ((m.getD i 0 : Nat) : Int)])) := same_upd nT
      refine ⟨T, _, rfl, SqT.of upd_same, rfl, _, _, rfl, _, _, rfl, rfl, rfl, ?_⟩
      refine ⟨_, rfl, _, rfl, _, rfl, b, _, rfl, SqL.of (s2 _ _ (s1 _ _ hbl)), fun p np => ?_⟩
      rw [cut_to, vn_take]
      have s3 := same_upd (o := .lst (vn ((ks.getD i []).take (m.getD i 0)))) np
      refine ⟨p, ((ks.getD i []).take (m.getD i 0)).map (fun n : Nat => (n : Int)), rfl, by rw [← vn_ints]; exact SqL.of upd_same, _, s3 _ _ (s2 _ _ h1), small (by rw [vn_len, List.length_take]; have := zw_len ks m; omega), ((s1.trans s2).trans s3).upd_free nD, ?_⟩
      rw [upd_same, MA.sum_cast, take_snoc (zw_get hi him), vn_append]
      rfl
    · rintro H1 ⟨s1, h1⟩
      refine ⟨D, (zw ks m).map (fun n : Nat => (n : Int)), rfl, ?_, ?_⟩
      · rw [← vn_ints]
        rw [List.take_of_length_le (by rw [zw_len]; omega)] at h1
        exact SqL.of h1
      · rw [MA.sum_cast, zw_sum]
        exact k H1 s1
end
end Su
namespace Su
open PySem PySem.Spec PyProof.Rows L2
/-- an if whose test is known -/
theorem if_true_of {c : Bool} {A B : Prop} (hc : c = true) (h : A) : if c = true then A else B := by
  rw [if_pos hc]
  exact h
theorem if_false_of {c : Bool} {A B : Prop} (hc : c = false) (h : B) : if c = true then A else B := by
  rw [hc, if_neg Bool.false_ne_true]
  exact h
section
variable {P : Program} {w : World} {K : PySem.W.Frag} {mg : Str → Option Value} {base : Heap}
/-! ### worth_told -/
def spWorth : Sp := fun vs H Q _ => ∃ (ka : Addr) (as : List Addr) (a : Su90.Abs) (n : Nat), vs = [.ref ka, .int (n : Int)] ∧ RowsAt H ka as a.kinds ∧ a.kinds.length ≤ 100 ∧ n ≤ 100 ∧
  ∀ H', Same H H' → Q (.int ((a.value (a.best n) : Nat) : Int)) H'
theorem scWorth : FnScope ["kinds", "places"] ["kinds", "places"] (defScope sWorth) := ⟨rfl, rfl, rfl, by decide +kernel, rfl, by decide +kernel, by decide +kernel⟩
theorem ok_worth {f : Addr} {fd : FuncData} (F : Fun K "worth_told" "worth_told" sWorth f fd) (cT : C8.Cal P w K mg base 1 "worth_together" spTogether []) (cS : C8.Cal P w K mg base 3 "sharing_told" spSharing []) : FnOk P w K mg base CX0 4 f fd ["kinds", "places"] spWorth := by
  refine F.ok scWorth (fun vs H Q E h => ?_) (fun cdv A outer s H vs Q E hr h => ?_)
  · obtain ⟨ka, as, a, n, rfl, _⟩ := h
    rfl
  · obtain ⟨ka, as, a, n, rfl, R, hk, hn, k⟩ := h
    refine ⟨_, pss_one (ps_ret (C8.pe_c cT hr (by decide) (by rfl) (pa_cons (pv 0) (pa_cons (C8.pe_c cS hr (by decide) (by rfl) (pa_cons (pv 0) (pa_cons (pv 1) pa_nil))) pa_nil)))), ?_⟩
    refine ⟨_, rfl, _, rfl, _, rfl, ka, as, a, n, rfl, R, hk, hn, fun H1 sa s1 nsa hs => ?_⟩
    refine ⟨ka, sa, as, a.kinds, a.best n, rfl, R.same s1, hs, MA.best_len' a n, hk, fun H2 s2 => ?_⟩
    have := k H2 (s1.trans s2)
    rw [MA.value_zsum (MA.best_len' a n)] at this
    exact this
/-! ### price_of_place -/
def spPrice : Sp := fun vs H Q _ => ∃ (ka : Addr) (as : List Addr) (a : Su90.Abs) (n : Nat), vs = [.ref ka, .int (n : Int)] ∧ RowsAt H ka as a.kinds ∧ a.kinds.length ≤ 100 ∧ n ≤ 100 ∧
  ∀ H', Same H H' → Q (.int ((a.price n : Nat) : Int)) H'
theorem scPrice : FnScope ["kinds", "places", "sharing", "k"] ["kinds", "places"] (defScope sPrice) := ⟨rfl, rfl, rfl, by decide +kernel, rfl, by decide +kernel, by decide +kernel⟩
theorem ok_price {f : Addr} {fd : FuncData} (F : Fun K "price_of_place" "price_of_place" sPrice f fd) (cS : C8.Cal P w K mg base 3 "sharing_told" spSharing []) (cL : C8.Cal P w K mg base 1 "kind_to_lay" spLay []) (cO : C8.Cal P w K mg base 1 "worth_of_one_more" spOne []) : FnOk P w K mg base CX0 4 f fd ["kinds", "places"] spPrice := by
  refine F.ok scPrice (fun vs H Q E h => ?_) (fun cdv A outer s H vs Q E hr h => ?_)
  · obtain ⟨ka, as, a, n, rfl, _⟩ := h
    rfl
  · obtain ⟨ka, as, a, n, rfl, R, hk, hn, k⟩ := h
    refine ⟨_, pss_cons (ps_set (i := 2) scPrice.nd rfl (Or.inl rfl) (C8.pe_c cS hr (by decide) (by rfl) (pa_cons (pv 0) (pa_cons (pv 1) pa_nil))))
      (pss_cons (ps_set (i := 3) scPrice.nd rfl (Or.inl rfl) (C8.pe_c cL hr (by decide) (by rfl) (pa_cons (pv 0) (pa_cons (pv 2) pa_nil))))
      (pss_cons (ps_if (pt_cmpR op_isN (pv 3) pe_non (nomark _)) (pss_one (ps_ret pe_int)) pss_nil)
      (pss_one (ps_ret (C8.pe_c cO hr (by decide) (by rfl) (pa_cons (pe_ix ix_list (pv 0) (pv 3) (fun _ _ => rfl)) (pa_cons (pe_ix ix_list (pv 2) (pv 3) (fun _ _ => rfl)) pa_nil))))))), ?_⟩
    refine ⟨_, rfl, _, rfl, ka, as, a, n, rfl, R, hk, hn, fun H1 sa s1 nsa hs => ?_⟩
    refine ⟨_, rfl, _, rfl, ka, sa, as, a, a.best n, rfl, R.same s1, hs, MA.best_len' a n, fun H2 s2 => ?_⟩
    refine ⟨_, rfl, rfl, _, rfl, ?_⟩
    have s12 := s1.trans s2
    have k' := k H2 s12
    unfold Su90.Abs.price at k'
    cases e : a.next (a.best n) with
    | none =>
      rw [e] at k'
      refine if_true_of (c := decide (opt none = V.non)) rfl ?_
      exact k'
    | some j =>
      rw [e] at k'
      have hj := (MA.next_some e).1
      have hj' : j < (a.best n).length := by rw [MA.best_len' a n]; exact hj
      obtain ⟨b, hb, hbl⟩ := R.get hj
      refine if_false_of (c := decide (opt (some j) = V.non)) (decide_eq_false fun z => by cases z) ?_
      refine ⟨_, rfl, _, rfl, ka, _, _, _, rfl, rfl, SqL.of (s12 _ _ R.lst), atI_nat (j := j) (v := .ref b) (by rw [List.getElem?_map, hb]; rfl), _, rfl, _, rfl, sa, _, _, _, rfl, rfl, SqL.of (s2 _ _ hs), at_vn hj', ?_⟩
      exact ⟨b, _, _, rfl, s12 _ _ hbl, k'⟩
/-! ### is_sharing -/
def zf (ks : List (List Nat)) (m : List Nat) : List Bool := List.zipWith (fun w n => decide (n ≤ w.length)) ks m
theorem zf_all : ∀ (ks : List (List Nat)) (m : List Nat), m.length = ks.length → (zf ks m).all id = (List.range ks.length).all fun k => decide (m.getD k 0 ≤ (ks.getD k []).length)
  | [], [], _ => rfl
  | [], _ :: _, h => by simp at h
  | _ :: _, [], h => by simp at h
  | w :: ks, n :: m, h => by
    have ih := zf_all ks m (by simpa using h)
    show (decide (n ≤ w.length) && (zf ks m).all id) = _
    rw [ih, List.length_cons, List.range_succ_eq_map, List.all_cons, List.all_map]
    rfl
theorem fits_zf {a : Su90.Abs} {m : List Nat} (h : m.length = a.kinds.length) : (zf a.kinds m).all id = a.fits m := by
  unfold Su90.Abs.fits
  rw [zf_all _ _ h, h]
  simp
  rfl
theorem fits_no {a : Su90.Abs} {m : List Nat} (h : ¬ m.length = a.kinds.length) : a.fits m = false := by
  unfold Su90.Abs.fits
  have : (m.length == a.kinds.length) = false := by simpa using h
  rw [this]
  rfl
theorem zf_get {ks : List (List Nat)} {m : List Nat} {i : Nat} (h1 : i < ks.length) (h2 : i < m.length) : (zf ks m)[i]? = some (decide (m.getD i 0 ≤ (ks.getD i []).length)) := by
  unfold zf
  rw [List.getElem?_zipWith, List.getElem?_eq_getElem h1, List.getElem?_eq_getElem h2, List.getD_eq_getElem?_getD, List.getD_eq_getElem?_getD, List.getElem?_eq_getElem h1, List.getElem?_eq_getElem h2]
  rfl
theorem zf_len (ks : List (List Nat)) (m : List Nat) : (zf ks m).length = min ks.length m.length := by unfold zf; simp
def spIs : Sp := fun vs H Q _ => ∃ (ka sa : Addr) (as : List Addr) (a : Su90.Abs) (m : List Nat), vs = [.ref ka, .ref sa] ∧ RowsAt H ka as a.kinds ∧ H sa = some (.lst (vn m)) ∧ a.kinds.length ≤ 100 ∧
  ∀ H', Same H H' → Q (.bl (a.fits m)) H'
theorem scIs : FnScope ["kinds", "sharing", "worths", "pieces"] ["kinds", "sharing"] (defScope sIs) := ⟨rfl, rfl, rfl, by decide +kernel, rfl, by decide +kernel, by decide +kernel⟩
theorem ok_is {f : Addr} {fd : FuncData} (F : Fun K "is_sharing" "is_sharing" sIs f fd) (B : Bt mg) : FnOk P w K mg base CX0 1 f fd ["kinds", "sharing"] spIs := by
  refine F.ok scIs (fun vs H Q E h => ?_) (fun cdv A outer s H vs Q E hr h => ?_)
  · obtain ⟨ka, sa, as, a, m, rfl, _⟩ := h
    rfl
  · obtain ⟨ka, sa, as, a, m, rfl, R, hm, hk, k⟩ := h
    refine ⟨_, pss_cons (ps_if (pt_cmpR op_ne (pe_callB call_len_seq (by rfl) B.len PySem.boot_len (pa_cons (pv 1) pa_nil)) (pe_callB call_len_seq (by rfl) B.len PySem.boot_len (pa_cons (pv 0) pa_nil)) (nomark _)) (pss_one (ps_ret pe_bl)) pss_nil)
      (pss_one (ps_ret (pe_callB (cr_all rfl) (by rfl) B.all (by decide +kernel) (pa_cons (pe_lc (own := [("worths", 2), ("pieces", 3)]) (g := gTup K 2 (gCons (gName 2) (gCons (gName 3) gNil))) (tt := tYes)
      (te := tOp (rI0 fun i j => .bl (decide (i ≤ j))) (tVar 3) (tCB (fun vs H Q => ∃ p xs, vs = [.ref p] ∧ (SqL K H p xs ∨ SqT K H p xs) ∧ Q (.int (xs.length : Nat)) H) (tCons (tVar 2) tNil))) rfl scIs.nd (pi_zip (by rfl) B.zip (pa_cons (pv 0) (pa_cons (pv 1) pa_nil)))
      (blkOk_by (N := ["kinds", "sharing", "worths", "pieces"]) (sc := defScope sIs) (by decide +kernel)) (fun _ _ _ _ _ => pg_tup rfl (pgs_cons (pg_name (i := 2) scIs.nd rfl (Or.inl rfl)) (pgs_cons (pg_name (i := 3) scIs.nd rfl (Or.inl rfl)) pgs_nil))) (fun _ _ _ _ _ => pts_nil)
      (fun _ _ _ _ _ => pe_cmpR op_le (pv 3) (pe_callB call_len_seq (by rfl) B.len PySem.boot_len (pa_cons (pv 2) pa_nil)) rfl)) pa_nil)))), ?_⟩
    refine ⟨_, rfl, sa, _, rfl, .inl (SqL.of hm), _, rfl, ka, _, rfl, .inl (SqL.of R.lst), rfl, _, rfl, ?_⟩
    rw [vn_len, List.length_map, R.len]
    by_cases hl : m.length = a.kinds.length
    · rw [hl]
      refine iteNS rfl ?_
      refine ⟨_, rfl, _, rfl, ka, sa, _, _, rfl, SqL.of R.lst, SqL.of hm, fun D nD => ?_⟩
      have hn : a.kinds.length = min (as.map V.ref).length (vn m).length := by rw [List.length_map, vn_len, R.len, hl, Nat.min_self]
      refine lc_it (walk_zip (K := K) (a := ka) (b := sa) (xs := as.map V.ref) (ys := vn m) hn) (fun i H' => Same H H' ∧ H' D = some (.lst (((zf a.kinds m).take i).map V.bl)))
        ⟨same_upd nD, upd_same⟩ (fun i H' _ p => ⟨SqL.of (p.1 _ _ R.lst), SqL.of (p.1 _ _ hm)⟩) ?_ ?_
      · rintro i x H1 H2 hi ⟨s1, h1⟩ ⟨T, x1, x2, rfl, nT, rfl, e1, e2⟩
        have him : i < m.length := by rw [hl]; exact hi
        obtain ⟨b, hb, hbl⟩ := R.get hi
        have e1 : (as.map V.ref)[i]? = some x1 := e1
        have e2 : (vn m)[i]? = some x2 := e2
        rw [List.getElem?_map, hb] at e1
        have ex1 : x1 = .ref b := (Option.some.inj e1).symm
        rw [vn_get, List.getElem?_eq_getElem him] at e2
        have ex2 : x2 = .int ((m.getD i 0 : Nat) : Int) := by
          rw [List.getD_eq_getElem?_getD, List.getElem?_eq_getElem him]
          exact (Option.some.inj e2).symm
        subst ex1
        subst ex2
        have s2 : Same H1 (upd H1 T (.tup [.ref b, .int ((m.getD i 0 : Nat) : Int)])) := same_upd nT
        refine ⟨T, _, rfl, SqT.of upd_same, rfl, _, _, rfl, _, _, rfl, rfl, rfl, ?_⟩
        refine ⟨_, rfl, _, rfl, b, _, rfl, .inl (SqL.of (s2 _ _ (s1 _ _ hbl))), _, _, rfl, rfl, _, s2 _ _ h1, small (by rw [List.length_map, List.length_take]; have := zf_len a.kinds m; omega), (s1.trans s2).upd_free nD, ?_⟩
        rw [upd_same, take_snoc (zf_get hi him), List.map_append, vn_len]
        have ed : decide (((m.getD i 0 : Nat) : Int) ≤ (((a.kinds.getD i []).length : Nat) : Int)) = decide (m.getD i 0 ≤ (a.kinds.getD i []).length) := by
          by_cases c : m.getD i 0 ≤ (a.kinds.getD i []).length
          · rw [decide_eq_true c, decide_eq_true (by omega)]
          · rw [decide_eq_false c, decide_eq_false (by omega)]
        show some (HO.lst (_ ++ [V.bl (decide (((m.getD i 0 : Nat) : Int) ≤ (((a.kinds.getD i []).length : Nat) : Int)))])) = _
        rw [ed]
        rfl
      · rintro H1 ⟨s1, h1⟩
        rw [List.take_of_length_le (by rw [zf_len]; omega)] at h1
        refine ⟨D, zf a.kinds m, rfl, SqL.of h1, ?_⟩
        rw [fits_zf hl]
        exact k H1 s1
    · have hne : decide (V.int ((m.length : Nat) : Int) = V.int ((a.kinds.length : Nat) : Int)) = false := decide_eq_false fun z => hl (Int.ofNat_inj.mp (by injection z))
      rw [hne]
      have k' := k H (Same.refl H)
      rw [fits_no hl] at k'
      exact k'
/-! ### all_but -/
def spBut : Sp := fun vs H Q _ => ∃ (ka : Addr) (xs : List V) (j : Nat), vs = [.ref ka, .int (j : Int)] ∧ H ka = some (.lst xs) ∧ j < xs.length ∧ xs.length ≤ 100 ∧
  ∀ H' p, Same H H' → H p = none → H' p = some (.lst (xs.eraseIdx j)) → Q (.ref p) H'
theorem scBut : FnScope ["row", "place"] ["row", "place"] (defScope sBut) := ⟨rfl, rfl, rfl, by decide +kernel, rfl, by decide +kernel, by decide +kernel⟩
theorem RowsAt.erase {H : Hp} {a p : Addr} {as : List Addr} {ks : List (List Nat)} (R : RowsAt H a as ks) (j : Nat) (hp : H p = some (.lst ((as.map V.ref).eraseIdx j))) : RowsAt H p (as.eraseIdx j) (ks.eraseIdx j) := by
  refine ⟨by rw [hp, List.eraseIdx_eq_take_drop_succ, List.eraseIdx_eq_take_drop_succ, ← List.map_take, ← List.map_drop, ← List.map_append], ?_, fun i b h => ?_⟩
  · rw [List.length_eraseIdx, List.length_eraseIdx, R.len]
  · rw [List.getElem?_eraseIdx] at h
    rw [List.getElem?_eraseIdx]
    split at h
    · rename_i c
      rw [if_pos c]
      exact R.at_ i b h
    · rename_i c
      rw [if_neg c]
      exact R.at_ (i + 1) b h
theorem ok_but {f : Addr} {fd : FuncData} (F : Fun K "all_but" "all_but" sBut f fd) : FnOk P w K mg base CX0 1 f fd ["row", "place"] spBut := by
  refine F.ok scBut (fun vs H Q E h => ?_) (fun cdv A outer s H vs Q E hr h => ?_)
  · obtain ⟨ka, xs, j, rfl, _⟩ := h
    rfl
  · obtain ⟨ka, xs, j, rfl, hl, hj, hk, k⟩ := h
    refine ⟨_, pss_one (ps_ret (pe_op op_cat (pe_slice sl_list (pv 0) po_none (po_some (pv 1))) (pe_slice sl_list (pv 0) (po_some (pe_op op_add (pv 1) pe_int)) po_none))), ?_⟩
    refine ⟨_, rfl, _, rfl, _, rfl, ka, _, rfl, SqL.of hl, fun p np => ?_⟩
    rw [cut_to]
    have s1 := same_upd (o := .lst (xs.take j)) np
    refine ⟨_, rfl, _, rfl, _, _, rfl, rfl, _, rfl, ka, _, rfl, SqL.of (s1 _ _ hl), fun q nq => ?_⟩
    have ej : (j : Int) + 1 = ((j + 1 : Nat) : Int) := by omega
    have ec : cutV xs (some ((j : Int) + 1)) none = xs.drop (j + 1) := by rw [ej, cut_from]
    rw [ec]
    have s2 := same_upd (o := .lst (xs.drop (j + 1))) nq
    refine ⟨p, q, _, _, rfl, rfl, s2 _ _ upd_same, upd_same, small' (by rw [List.length_take, List.length_drop]; omega), fun r nr => ?_⟩
    have s3 := same_upd (o := .lst (xs.take j ++ xs.drop (j + 1))) nr
    have s13 := (s1.trans s2).trans s3
    refine k _ r s13 ((s1.trans s2).free nr) ?_
    rw [upd_same, List.eraseIdx_eq_take_drop_succ]
end
end Su
namespace Su
open PySem PySem.Spec PyProof.Rows L2
theorem cut_mid (xs : List V) (i n : Nat) (h : i + n ≤ xs.length) : cutV xs (some (i : Int)) (some ((i : Int) + (n : Int))) = (xs.drop i).take n := by
  unfold cutV
  have e : (i : Int) + (n : Int) = ((i + n : Nat) : Int) := by omega
  rw [e, show HT.sIx xs.length 0 (some (i : Int)) = min i xs.length from HT.sIx_nat xs.length 0 i, show HT.sIx xs.length xs.length (some ((i + n : Nat) : Int)) = min (i + n) xs.length from HT.sIx_nat xs.length xs.length (i + n), Nat.min_eq_left h, Nat.min_eq_left (show i ≤ xs.length by omega)]
  congr 1
  omega
/-- the table tells how many whole numbers a call has -/
def WTab (kvs : List (Int × Value)) : Prop := ∀ (p : Int) (x : Nat × Nat), PySu90.shape p = some x → (∀ n, MA.sizeOf p = some n → ∃ t, kvs.lookup p = some (.int (n : Int) t)) ∧ (MA.sizeOf p = none → kvs.lookup p = none)
/-- what the reading has made: the i-th call's tuple and its numbers, both new -/
structure Found (H H' : Hp) (ts ls : List Addr) (cs : List (List (List Int))) : Prop where
  len : ts.length = cs.length
  len2 : ls.length = cs.length
  nd : ls.Nodup
  at_ : ∀ (i : Nat) (t l : Addr), ts[i]? = some t → ls[i]? = some l → ∃ c, cs[i]? = some c ∧ H t = none ∧ H l = none ∧ H' t = some (.tup [.int (MA.numOf c), .ref l]) ∧ H' l = some (.lst ((MA.argsOf c).map V.int))
theorem Found.same {H H' H2 : Hp} {ts ls : List Addr} {cs : List (List (List Int))} (F : Found H H' ts ls cs) (s : Same H' H2) : Found H H2 ts ls cs :=
  ⟨F.len, F.len2, F.nd, fun i t l h h' => let ⟨c, h1, h2, h3, h4, h5⟩ := F.at_ i t l h h'; ⟨c, h1, h2, h3, s _ _ h4, s _ _ h5⟩⟩
theorem Found.has {H H' : Hp} {ts ls : List Addr} {cs : List (List (List Int))} (F : Found H H' ts ls cs) {l : Addr} (h : l ∈ ls) : ∃ o, H' l = some o := by
  obtain ⟨i, hi⟩ := List.mem_iff_getElem?.mp h
  have hl := (List.getElem?_eq_some_iff.mp hi).1
  have ht : i < ts.length := by rw [F.len, ← F.len2]; exact hl
  obtain ⟨c, _, _, _, _, h5⟩ := F.at_ i _ l (List.getElem?_eq_getElem ht) hi
  exact ⟨_, h5⟩
theorem get_snoc {α : Type} {xs : List α} {x y : α} {i : Nat} (h : (xs ++ [x])[i]? = some y) : (i < xs.length ∧ xs[i]? = some y) ∨ (i = xs.length ∧ x = y) := by
  by_cases hi : i < xs.length
  · rw [List.getElem?_append_left hi] at h
    exact Or.inl ⟨hi, h⟩
  · have hl := (List.getElem?_eq_some_iff.mp h).1
    rw [List.length_append, List.length_singleton] at hl
    have hz : i = xs.length := by omega
    subst hz
    rw [List.getElem?_append_right (Nat.le_refl _), Nat.sub_self] at h
    exact Or.inr ⟨rfl, Option.some.inj h⟩
theorem Found.snoc {H H' : Hp} {ts ls : List Addr} {cs : List (List (List Int))} (F : Found H H' ts ls cs) {t l : Addr} {c : List (List Int)} (h2 : H t = none) (h3 : H l = none) (h4 : H' t = some (.tup [.int (MA.numOf c), .ref l])) (h5 : H' l = some (.lst ((MA.argsOf c).map V.int))) (hn : l ∉ ls) : Found H H' (ts ++ [t]) (ls ++ [l]) (cs ++ [c]) := by
  refine ⟨by simp [F.len], by simp [F.len2], ?_, fun i u v h h' => ?_⟩
  · rw [List.nodup_append]
    refine ⟨F.nd, by simp, fun x hx y hy => ?_⟩
    rw [List.mem_singleton.mp hy]
    intro z
    exact hn (z ▸ hx)
  · have e1 := F.len
    have e2 := F.len2
    rcases get_snoc h with ⟨hi, g⟩ | ⟨hi, g⟩
    · rcases get_snoc h' with ⟨hi', g'⟩ | ⟨hi', g'⟩
      · obtain ⟨c', q1, r⟩ := F.at_ i u v g g'
        exact ⟨c', by rw [List.getElem?_append_left (by omega)]; exact q1, r⟩
      · omega
    · rcases get_snoc h' with ⟨hi', g'⟩ | ⟨hi', g'⟩
      · omega
      · subst g
        subst g'
        refine ⟨c, ?_, h2, h3, h4, h5⟩
        rw [hi, F.len, List.getElem?_append_right (Nat.le_refl _), Nat.sub_self]
        rfl
theorem Found.less {H H0 H' : Hp} {ts ls : List Addr} {cs : List (List (List Int))} (F : Found H0 H' ts ls cs) (s : Same H H0) : Found H H' ts ls cs :=
  ⟨F.len, F.len2, F.nd, fun i t l h h' => let ⟨c, h1, h2, h3, h4, h5⟩ := F.at_ i t l h h'; ⟨c, h1, s.free h2, s.free h3, h4, h5⟩⟩
theorem calls_tail {K : PySem.W.Frag} {D : Ends} {a fa : Addr} {p : Int} {j n : Nat} {ns : List Int} {xs : List V} {H1 : Hp} (hS1 : SqL K H1 a (ns.map V.int)) (hfa : H1 fa = some (.lst xs)) (hx : xs.length < sizeLine) (hj : j + n ≤ ns.length)
    (k : ∀ l t, H1 l = none → H1 t = none → l ≠ t → l ≠ fa → t ≠ fa → D.nx [some (.ref a), some (.ref fa), some (.int ((j + n : Nat) : Int)), some (.int p), some (.int (n : Int))] (upd (upd (upd H1 l (.lst (((ns.drop j).take n).map V.int))) t (.tup [.int p, .ref l])) fa (.lst (xs ++ [V.ref t])))) :
    tSeq (tDrop (tBM K "list" rAppend (tVar 1) (tCons (tTup (tCons (tVar 3) (tCons (tSl (rSlL K) (tVar 0) (tPart (tVar 2)) (tPart (tOp (rI0 fun i j => .int (i + j)) (tVar 2) (tVar 4)))) tNil))) tNil))) (tAsg (tOp (rI0 fun i j => .int (i + j)) (tVar 2) (tVar 4)) (gName 2)) D
      [some (.ref a), some (.ref fa), some (.int (j : Int)), some (.int p), some (.int (n : Int))] H1 := by
  refine ⟨_, rfl, .inl ⟨rfl, _, SqL.of hfa⟩, _, rfl, _, rfl, _, rfl, _, rfl, _, rfl, _, rfl, _, _, rfl, rfl, _, rfl, a, _, rfl, hS1, fun l nl => ?_⟩
  rw [cut_mid _ j n (by rw [List.length_map]; exact hj), ← List.map_drop, ← List.map_take]
  have s2 := same_upd (o := .lst (((ns.drop j).take n).map V.int)) nl
  refine ⟨by show 2 ≤ sizeLine; decide, fun t nt => ?_⟩
  have s3 := same_upd (o := .tup [.int p, .ref l]) nt
  have nfl : fa ≠ l := ne_of_none hfa nl
  have nft : fa ≠ t := ne_of_none (s2 _ _ hfa) nt
  refine ⟨fa, _, _, rfl, rfl, s3 _ _ (s2 _ _ hfa), hx, ?_⟩
  have hl : (upd H1 l (.lst (((ns.drop j).take n).map V.int))) l = some (.lst (((ns.drop j).take n).map V.int)) := upd_same
  have ntl : l ≠ t := ne_of_none hl nt
  have en : (j : Int) + (n : Int) = ((j + n : Nat) : Int) := by omega
  refine ⟨_, rfl, _, rfl, _, _, rfl, rfl, ?_⟩
  have q := k l t nl (s2.free nt) ntl nfl.symm nft.symm
  rw [← en] at q
  exact q
def restOf (n : Nat) (σ : L2.St) : Nat := match σ[2]? with
  | some (some (V.int i)) => n - i.toNat
  | _ => 0
section
variable {P : Program} {w : World} {K : PySem.W.Frag} {mg : Str → Option Value} {base : Heap}
def spCalls (K : PySem.W.Frag) : Sp := fun vs H Q _ => ∃ (a : Addr) (ns : List Int) (cs : List (List (List Int))), vs = [.ref a] ∧ SqL K H a (ns.map V.int) ∧ ns.length ≤ 5600 ∧ PyFlat.calls PySu90.shape ns.length ns = some cs ∧
  ∀ H' p ts ls, Same H H' → H p = none → H' p = some (.lst (ts.map V.ref)) → Found H H' ts ls cs → Q (.ref p) H'
theorem scCalls : FnScope ["calls", "found", "here", "number", "size"] ["calls"] (defScope sCallsIn) := ⟨rfl, rfl, rfl, by decide +kernel, rfl, by decide +kernel, by decide +kernel⟩
theorem at_ints {l : List Int} {i : Nat} {x : Int} (h : l[i]? = some x) : atI (l.map V.int) (i : Int) = some (V.int x) := by
  refine atI_nat ?_
  rw [List.getElem?_map, h]
  rfl
theorem ok_calls {f d : Addr} {fd : FuncData} {kvs : List (Int × Value)} (F : Fun K "calls_in" "calls_in" sCallsIn f fd) (B : Bt mg) (D : IKD K d kvs) (hW : WTab kvs) (gW : mg "WHOLE_NUMBERS" = some (.ref d)) : FnOk P w K mg base CX0 1 f fd ["calls"] (spCalls K) := by
  refine F.ok scCalls (fun vs H Q E h => ?_) (fun cdv A outer s H vs Q E hr h => ?_)
  · obtain ⟨a, ns, cs, rfl, _⟩ := h
    rfl
  · obtain ⟨a, ns, cs, rfl, hS, hlen, hcs, k⟩ := h
    refine ⟨_, pss_cons (ps_set (i := 1) scCalls.nd rfl (Or.inl rfl) (pe_lst pa_nil)) (pss_cons (ps_set (i := 2) scCalls.nd rfl (Or.inl rfl) pe_int)
      (pss_cons (ps_while PassesOwn.never (pt_cmpR op_lt (pv 2) (pe_callB call_len_seq (by rfl) B.len PySem.boot_len (pa_cons (pv 0) pa_nil)) (nomark _))
        (pss_cons (ps_set (i := 3) scCalls.nd rfl (Or.inl rfl) (pe_ix ix_list (pv 0) (pv 2) (fun _ _ => rfl)))
        (pss_cons (ps_set (i := 2) scCalls.nd rfl (Or.inl rfl) (pe_op op_add (pv 2) pe_int))
        (pss_cons (ps_if (pt_cmpR (op_in_ikd D) (pv 3) (pe_glob (v := .ref d) rfl gW rfl) (by rfl)) (pss_one (ps_set (i := 4) scCalls.nd rfl (Or.inl rfl) (pe_ix (ix_ikd D) (pe_glob (v := .ref d) rfl gW rfl) (pv 3) (fun _ _ => rfl))))
          (pss_cons (ps_set (i := 4) scCalls.nd rfl (Or.inl rfl) (pe_ix ix_list (pv 0) (pv 2) (fun _ _ => rfl))) (pss_one (ps_set (i := 2) scCalls.nd rfl (Or.inl rfl) (pe_op op_add (pv 2) pe_int)))))
        (pss_cons (ps_expr (pe_bm PySem.F.plainAttrs_list PySem.F.slot_list_append PySem.F.type_list_append mt_append (pv 1) (pa_cons (pe_tup (pa_cons (pv 3) (pa_cons (pe_slice sl_list (pv 0) (po_some (pv 2)) (po_some (pe_op op_add (pv 2) (pv 4)))) pa_nil))) pa_nil)))
        (pss_one (ps_set (i := 2) scCalls.nd rfl (Or.inl rfl) (pe_op op_add (pv 2) (pv 4)))))))))
      (pss_one (ps_ret (pv 1))))), ?_⟩
    refine ⟨Nat.zero_le _, fun fa nfa => ?_⟩
    have s0 := same_upd (o := .lst []) nfa
    refine while_by (fun σ H' => ∃ (v3 v4 : Option V) (i f : Nat) (ts ls : List Addr) (done rest : List (List (List Int))), σ = [some (.ref a), some (.ref fa), some (.int (i : Int)), v3, v4] ∧ i ≤ ns.length ∧ cs = done ++ rest ∧ PyFlat.calls PySu90.shape f (ns.drop i) = some rest ∧ Same H H' ∧ H' fa = some (.lst (ts.map V.ref)) ∧ Found (upd H fa (.lst [])) H' ts ls done)
      (fun σ H' => restOf ns.length σ) ⟨none, none, 0, ns.length, [], [], [], cs, rfl, Nat.zero_le _, rfl, hcs, s0, upd_same, ⟨rfl, rfl, List.nodup_nil, fun i t l h => by simp at h⟩⟩ ?_
      (fun σ H Q Q' f h => by obtain ⟨v1, hv1, v, hv, a, xs, e, hs, i, j, e1, e2, k, ek, q⟩ := h; exact ⟨v1, hv1, v, hv, a, xs, e, hs, i, j, e1, e2, k, ek, f _ _ q⟩)
    rintro σ H1 ⟨v3, v4, i, fu, ts0, ls0, done, rest, rfl, hi, ecs, hrest, s1, hfa, Fo⟩
    have hS1 := s1.seq hS
    refine ⟨_, rfl, _, rfl, a, _, rfl, .inl hS1, _, _, rfl, rfl, _, rfl, ?_⟩
    rw [List.length_map]
    refine ite2 (fun c => ?_) (fun c => ?_)
    · have c' : i < ns.length := Int.ofNat_lt.mp (of_decide_eq_true c)
      -- one call
      have ed : ns.drop i = ns[i] :: ns.drop (i + 1) := List.drop_eq_getElem_cons c'
      generalize hp : ns[i] = p at ed
      have hgi : ns[i]? = some p := by rw [List.getElem?_eq_getElem c', hp]
      rw [ed] at hrest
      cases fu with
      | zero => exact (MA.calls_zero hrest).elim
      | succ fu =>
        obtain ⟨c0, rest', t0, rfl, hrest', hnum, hq⟩ := MA.calls_turn hrest
        have hsh : ∃ x, PySu90.shape p = some x := by
          cases e : PySu90.shape p with
          | none => simp only [PyFlat.calls, PyFlat.call, e] at hrest; cases hrest
          | some x => exact ⟨x, rfl⟩
        obtain ⟨x, hx⟩ := hsh
        obtain ⟨w1, w2⟩ := hW p x hx
        refine ⟨_, rfl, _, rfl, a, _, _, _, rfl, rfl, hS1, at_ints hgi, _, rfl, _, _, rfl, rfl, ?_⟩
        have e1 : (i : Int) + 1 = ((i + 1 : Nat) : Int) := by omega
        rw [show (fun i j => V.int (i + j)) (i : Int) 1 = V.int ((i + 1 : Nat) : Int) from congrArg V.int e1]
        refine ⟨_, rfl, p, rfl, rfl, _, rfl, ?_⟩
        have hsz : (ts0.map V.ref).length < sizeLine := small (by rw [List.length_map, Fo.len]; have := MA.calls_len _ _ _ hcs; rw [ecs, List.length_append] at this; omega)
        -- behind the if: here = j, size = n
        have fin : ∀ (j n : Nat), j + n ≤ ns.length → i < j → MA.argsOf c0 = (ns.drop j).take n → t0 = ns.drop (j + n) → ∀ l t, H1 l = none → H1 t = none → l ≠ t → l ≠ fa → t ≠ fa →
            (∃ (v3 v4 : Option V) (i f : Nat) (ts ls : List Addr) (done rest : List (List (List Int))), [some (V.ref a), some (.ref fa), some (.int ((j + n : Nat) : Int)), some (.int p), some (.int (n : Int))] = [some (.ref a), some (.ref fa), some (.int (i : Int)), v3, v4] ∧ i ≤ ns.length ∧ cs = done ++ rest ∧ PyFlat.calls PySu90.shape f (ns.drop i) = some rest ∧ Same H (upd (upd (upd H1 l (.lst (((ns.drop j).take n).map V.int))) t (.tup [.int p, .ref l])) fa (.lst (ts0.map V.ref ++ [V.ref t]))) ∧ (upd (upd (upd H1 l (.lst (((ns.drop j).take n).map V.int))) t (.tup [.int p, .ref l])) fa (.lst (ts0.map V.ref ++ [V.ref t]))) fa = some (.lst (ts.map V.ref)) ∧ Found (upd H fa (.lst [])) (upd (upd (upd H1 l (.lst (((ns.drop j).take n).map V.int))) t (.tup [.int p, .ref l])) fa (.lst (ts0.map V.ref ++ [V.ref t]))) ts ls done) ∧
            restOf ns.length [some (V.ref a), some (.ref fa), some (.int ((j + n : Nat) : Int)), some (.int p), some (.int (n : Int))] < ns.length - i := by
          intro j n hj hij hargs ht0 l t nl nt nlt nlf ntf
          have s2 := same_upd (o := .lst (((ns.drop j).take n).map V.int)) nl
          have nt' : (upd H1 l (.lst (((ns.drop j).take n).map V.int))) t = none := by rw [upd_ne nlt.symm]; exact nt
          have s3 := same_upd (o := .tup [.int p, .ref l]) nt'
          have s4 : Same H (upd (upd (upd H1 l (.lst (((ns.drop j).take n).map V.int))) t (.tup [.int p, .ref l])) fa (.lst (ts0.map V.ref ++ [V.ref t]))) := ((s1.trans s2).trans s3).upd_free nfa
          refine ⟨⟨_, _, j + n, fu, ts0 ++ [t], ls0 ++ [l], done ++ [c0], rest', rfl, hj, by rw [ecs, List.append_assoc]; rfl, by rw [← ht0]; exact hrest', s4, by rw [upd_same, List.map_append]; rfl, ?_⟩, ?_⟩
          · have Fo3 := (Fo.same s2).same s3
            have off : ∀ b, upd H fa (.lst []) b = none → b ≠ fa := fun b hb z => by rw [z, upd_same] at hb; cases hb
            have Fo4 : Found (upd H fa (.lst [])) (upd (upd (upd H1 l (.lst (((ns.drop j).take n).map V.int))) t (.tup [.int p, .ref l])) fa (.lst (ts0.map V.ref ++ [V.ref t]))) ts0 ls0 done := ⟨Fo3.len, Fo3.len2, Fo3.nd, fun i' t' l' h h' => by
              obtain ⟨c', q1, q2, q3, q4, q5⟩ := Fo3.at_ i' t' l' h h'
              exact ⟨c', q1, q2, q3, by rw [upd_ne (off t' q2)]; exact q4, by rw [upd_ne (off l' q3)]; exact q5⟩⟩
            refine Fo4.snoc (t := t) (l := l) (by rw [upd_ne ntf]; exact s1.free nt) (by rw [upd_ne nlf]; exact s1.free nl) (by rw [upd_ne ntf, upd_same, hnum]) (by rw [upd_ne nlf, upd_ne nlt, upd_same, hargs]) (fun z => by obtain ⟨o, e⟩ := Fo.has z; rw [nl] at e; cases e)
          · show ns.length - (((j + n : Nat) : Int)).toNat < ns.length - i
            rw [Int.toNat_natCast]
            omega
        rcases hq with ⟨n, q1, q2, q3, q4, q5, q6⟩ | ⟨z, r', q1, q2, q3, q4, q5, q6, q7⟩
        · obtain ⟨tk, lk⟩ := w1 n q1
          rw [lk]
          refine iteT ?_
          refine ⟨_, rfl, p, _, .int (n : Int), rfl, rfl, lk, ⟨tk, rfl⟩, ?_⟩
          rw [List.length_drop] at q3
          have hj : (i + 1) + n ≤ ns.length := by omega
          exact calls_tail hS1 hfa hsz hj (fin (i + 1) n hj (by omega) q5 (by rw [q6, List.drop_drop]))
        · obtain ⟨zn, rfl⟩ := Int.eq_ofNat_of_zero_le q3
          rw [Int.toNat_natCast] at q4 q6 q7
          rw [w2 q1]
          refine iteF ?_
          have hd : ns[i + 1]? = some (zn : Int) := by
            have := congrArg List.head? q2
            rw [List.head?_drop] at this
            exact this
          have hr' : r' = ns.drop (i + 2) := by
            have := congrArg List.tail q2
            rw [List.tail_drop] at this
            exact this.symm
          refine ⟨_, rfl, _, rfl, a, _, _, _, rfl, rfl, hS1, at_ints hd, _, rfl, _, _, rfl, rfl, ?_⟩
          have e2 : ((i + 1 : Nat) : Int) + 1 = ((i + 2 : Nat) : Int) := by omega
          rw [show (fun i j => V.int (i + j)) ((i + 1 : Nat) : Int) 1 = V.int ((i + 2 : Nat) : Int) from congrArg V.int e2]
          have hj : (i + 2) + zn ≤ ns.length := by
            rw [hr', List.length_drop] at q4
            have := (List.getElem?_eq_some_iff.mp hd).1
            omega
          exact calls_tail hS1 hfa hsz hj (fin (i + 2) zn hj (by omega) (by rw [q6, hr']) (by rw [q7, hr', List.drop_drop]))
    · have c' : i = ns.length := by
        have : ¬ i < ns.length := fun q => c (decide_eq_true (Int.ofNat_lt.mpr q))
        omega
      refine ⟨_, rfl, ?_⟩
      rw [c', List.drop_length] at hrest
      have := MA.calls_nil hrest
      subst this
      rw [List.append_nil] at ecs
      subst ecs
      exact k H1 fa ts0 ls0 s1 nfa hfa (Fo.less s0)
end
end Su
namespace Su
open PySem PySem.Spec PyProof.Rows L2
abbrev sAre : Stmt := top 52
abbrev sNab : Stmt := top 30
/-- the module's numbers -/
structure Nums (mg : Str → Option Value) : Prop where
  noneSuch : ∃ t, mg "NONE_SUCH" = some (.int (-2) t)
  notBegun : ∃ t, mg "NOT_BEGUN" = some (.int (-11) t)
  outOf : ∃ t, mg "OUT_OF_RANGE" = some (.int (-22) t)
  tooMany : ∃ t, mg "TOO_MANY" = some (.int (-28) t)
  mPlaces : ∃ t, mg "MOST_PLACES" = some (.int 20 t)
  mKinds : ∃ t, mg "MOST_KINDS" = some (.int 5 t)
  mPieces : ∃ t, mg "MOST_PIECES" = some (.int 8 t)
  mWorth : ∃ t, mg "MOST_WORTH" = some (.int 1000 t)
  none6 : ∃ t, mg "NONE" = some (.int (-6) t)
  mBought : ∃ t, mg "MOST_BOUGHT" = some (.int 60 t)
  mSellers : ∃ t, mg "MOST_SELLERS" = some (.int 3 t)
  mSteps : ∃ t, mg "MOST_STEPS" = some (.int 4 t)
  mAsked : ∃ t, mg "MOST_ASKED" = some (.int 1000 t)
  mMoney : ∃ t, mg "MOST_MONEY" = some (.int 60000 t)
  begin0 : ∃ t, mg "BEGIN" = some (.int 0 t)
theorem pe_num {X : Cx} {x : Str} {i : Int} {pos : Pos} (h : ∃ t, X.mg x = some (.int i t)) (hg : Gl X x := by rfl) (hd : (x == ("__debug__" : Str)) = false := by decide) : PE X (.Name x pos) (tC (.int i)) := by
  obtain ⟨t, h⟩ := h
  exact pe_glob hg h ⟨t, rfl⟩ hd
/-! ### falling, pair by pair -/
def zd (l : List Nat) : List Bool := List.zipWith (fun b a => decide (a ≤ b)) l l.tail
theorem zd_all : ∀ l : List Nat, (zd l).all id = Su90.falling l
  | [] => rfl
  | [_] => rfl
  | x :: y :: l => by
    have ih := zd_all (y :: l)
    show (decide (y ≤ x) && (zd (y :: l)).all id) = (decide (y ≤ x) && Su90.falling (y :: l))
    rw [ih]
theorem zd_len (l : List Nat) : (zd l).length = l.length - 1 := by unfold zd; simp
theorem zd_get {l : List Nat} {i : Nat} (h : i + 1 < l.length) : (zd l)[i]? = some (decide (l.getD (i + 1) 0 ≤ l.getD i 0)) := by
  unfold zd
  have h1 : i < l.length := by omega
  have h2 : i < l.tail.length := by rw [List.length_tail]; omega
  rw [List.getElem?_zipWith, List.getElem?_eq_getElem h1, List.getElem?_eq_getElem h2, List.getD_eq_getElem?_getD, List.getD_eq_getElem?_getD, List.getElem?_eq_getElem h1, List.getElem?_eq_getElem h]
  simp
theorem okG_short {l : List Nat} (h : l.length < 1 ∨ 8 < l.length) : Su90.Abs.okG l = false := by
  unfold Su90.Abs.okG
  rcases h with h | h
  · rw [decide_eq_false (show ¬ 1 ≤ l.length by omega)]; rfl
  · have : decide (l.length ≤ Su90.GAINS) = false := decide_eq_false (show ¬ l.length ≤ 8 by omega)
    rw [this, Bool.false_and, Bool.and_false]
theorem okG_big {l : List Nat} {m : Nat} (h : m ∈ l) (hm : 1000 < m) : Su90.Abs.okG l = false := by
  unfold Su90.Abs.okG
  have : (l.all fun x => decide (x ≤ 1000)) = false := by
    rw [List.all_eq_false]
    exact ⟨m, h, by rw [decide_eq_true_eq]; omega⟩
  rw [this, Bool.false_and, Bool.and_false, Bool.and_false]
theorem okG_fall {l : List Nat} (h1 : 1 ≤ l.length) (h2 : l.length ≤ 8) (h3 : ∀ x ∈ l, x ≤ 1000) : Su90.Abs.okG l = Su90.falling l := by
  unfold Su90.Abs.okG
  have e1 : decide (l.length ≤ Su90.GAINS) = true := decide_eq_true (show l.length ≤ 8 from h2)
  have e2 : (l.all fun x => decide (x ≤ 1000)) = true := by rw [List.all_eq_true]; exact fun x hx => decide_eq_true (h3 x hx)
  rw [decide_eq_true h1, e1, e2]
  rfl
section
variable {P : Program} {w : World} {K : PySem.W.Frag} {mg : Str → Option Value} {base : Heap}
/-! ### none_above_the_one_before -/
def spNab : Sp := fun vs H Q _ => ∃ (sa : Addr) (l : List Nat), vs = [.ref sa] ∧ H sa = some (.lst (vn l)) ∧ l.length ≤ 100 ∧ ∀ H', Same H H' → Q (.bl (Su90.falling l)) H'
theorem scNab : FnScope ["numbers", "before", "after"] ["numbers"] (defScope sNab) := ⟨rfl, rfl, rfl, by decide +kernel, rfl, by decide +kernel, by decide +kernel⟩
theorem ok_nab {f : Addr} {fd : FuncData} (F : Fun K "none_above_the_one_before" "none_above_the_one_before" sNab f fd) (B : Bt mg) : FnOk P w K mg base CX0 1 f fd ["numbers"] spNab := by
  refine F.ok scNab (fun vs H Q E h => ?_) (fun cdv A outer s H vs Q E hr h => ?_)
  · obtain ⟨sa, l, rfl, _⟩ := h
    rfl
  · obtain ⟨sa, l, rfl, hm, hl, k⟩ := h
    refine ⟨_, pss_one (ps_ret (pe_callB (cr_all rfl) (by rfl) B.all (by decide +kernel) (pa_cons (pe_lc (own := [("before", 1), ("after", 2)]) (g := gTup K 2 (gCons (gName 1) (gCons (gName 2) gNil))) (tt := tYes)
        (te := tOp (rI0 fun i j => .bl (decide (i ≤ j))) (tVar 2) (tVar 1)) rfl scNab.nd (pi_zip (by rfl) B.zip (pa_cons (pv 0) (pa_cons (pe_slice sl_list (pv 0) (po_some pe_int) po_none) pa_nil)))
        (blkOk_by (N := ["numbers", "before", "after"]) (sc := defScope sNab) (by decide +kernel)) (fun _ _ _ _ _ => pg_tup rfl (pgs_cons (pg_name (i := 1) scNab.nd rfl (Or.inl rfl)) (pgs_cons (pg_name (i := 2) scNab.nd rfl (Or.inl rfl)) pgs_nil))) (fun _ _ _ _ _ => pts_nil)
        (fun _ _ _ _ _ => pe_cmpR op_le (pv 2) (pv 1) rfl)) pa_nil))), ?_⟩
    refine ⟨_, rfl, _, rfl, _, rfl, sa, _, rfl, SqL.of hm, fun ta nta => ?_⟩
    rw [show (1 : Int) = ((1 : Nat) : Int) from rfl, cut_from, vn_drop]
    have s0 := same_upd (o := .lst (vn (l.drop 1))) nta
    refine ⟨sa, ta, _, _, rfl, SqL.of (s0 _ _ hm), SqL.of upd_same, fun D nD => ?_⟩
    have hn : l.length - 1 = min (vn l).length (vn (l.drop 1)).length := by rw [vn_len, vn_len, List.length_drop]; omega
    have hta : (upd H ta (.lst (vn (l.drop 1)))) ta = some (.lst (vn (l.drop 1))) := upd_same
    refine lc_it (walk_zip (K := K) (a := sa) (b := ta) (xs := vn l) (ys := vn (l.drop 1)) hn) (fun i H' => Same (upd H ta (.lst (vn (l.drop 1)))) H' ∧ H' D = some (.lst (((zd l).take i).map V.bl)))
      ⟨same_upd nD, upd_same⟩ (fun i H' _ p => ⟨SqL.of (p.1 _ _ (s0 _ _ hm)), SqL.of (p.1 _ _ hta)⟩) ?_ ?_
    · rintro i x H1 H2 hi ⟨s1, h1⟩ ⟨T, x1, x2, rfl, nT, rfl, e1, e2⟩
      have e1 : (vn l)[i]? = some x1 := e1
      have e2 : (vn (l.drop 1))[i]? = some x2 := e2
      have hi1 : i < l.length := by omega
      have hi2 : i + 1 < l.length := by omega
      rw [vn_get, List.getElem?_eq_getElem hi1] at e1
      rw [vn_get, List.getElem?_drop, Nat.add_comm 1 i, List.getElem?_eq_getElem hi2] at e2
      have ex1 : x1 = .int ((l.getD i 0 : Nat) : Int) := by
        rw [List.getD_eq_getElem?_getD, List.getElem?_eq_getElem hi1]
        exact (Option.some.inj e1).symm
      have ex2 : x2 = .int ((l.getD (i + 1) 0 : Nat) : Int) := by
        rw [List.getD_eq_getElem?_getD, List.getElem?_eq_getElem hi2]
        exact (Option.some.inj e2).symm
      subst ex1
      subst ex2
      have s2 : Same H1 (upd H1 T (.tup [.int ((l.getD i 0 : Nat) : Int), .int ((l.getD (i + 1) 0 : Nat) : Int)])) := same_upd nT
      refine ⟨T, _, rfl, SqT.of upd_same, rfl, _, _, rfl, _, _, rfl, rfl, rfl, ?_⟩
      refine ⟨_, rfl, _, rfl, _, _, rfl, rfl, _, s2 _ _ h1, small (by rw [List.length_map, List.length_take]; have := zd_len l; omega), (s1.trans s2).upd_free nD, ?_⟩
      rw [upd_same, take_snoc (zd_get hi2), List.map_append]
      have ed : decide (((l.getD (i + 1) 0 : Nat) : Int) ≤ ((l.getD i 0 : Nat) : Int)) = decide (l.getD (i + 1) 0 ≤ l.getD i 0) := by
        by_cases c : l.getD (i + 1) 0 ≤ l.getD i 0
        · rw [decide_eq_true c, decide_eq_true (by omega)]
        · rw [decide_eq_false c, decide_eq_false (by omega)]
      show some (HO.lst (_ ++ [V.bl (decide (((l.getD (i + 1) 0 : Nat) : Int) ≤ ((l.getD i 0 : Nat) : Int)))])) = _
      rw [ed]
      rfl
    · rintro H1 ⟨s1, h1⟩
      rw [List.take_of_length_le (by rw [zd_len]; omega)] at h1
      refine ⟨D, zd l, rfl, SqL.of h1, ?_⟩
      rw [zd_all]
      exact k H1 (s0.trans s1)
/-! ### are_worths -/
def spAre : Sp := fun vs H Q _ => ∃ (sa : Addr) (l : List Nat), vs = [.ref sa] ∧ H sa = some (.lst (vn l)) ∧ ∀ H', Same H H' → Q (.bl (Su90.Abs.okG l)) H'
theorem scAre : FnScope ["worths"] ["worths"] (defScope sAre) := ⟨rfl, rfl, rfl, by decide +kernel, rfl, by decide +kernel, by decide +kernel⟩
theorem ok_are {f : Addr} {fd : FuncData} (F : Fun K "are_worths" "are_worths" sAre f fd) (B : Bt mg) (N : Nums mg) (cN : C8.Cal P w K mg base 1 "none_above_the_one_before" spNab []) : FnOk P w K mg base CX0 2 f fd ["worths"] spAre := by
  refine F.ok scAre (fun vs H Q E h => ?_) (fun cdv A outer s H vs Q E hr h => ?_)
  · obtain ⟨sa, l, rfl, _⟩ := h
    rfl
  · obtain ⟨sa, l, rfl, hm, k⟩ := h
    refine ⟨_, pss_cons (ps_if (pw_or (pt_cmpR op_lt (pe_callB call_len_seq (by rfl) B.len PySem.boot_len (pa_cons (pv 0) pa_nil)) pe_int (nomark _)) (pw_or1 (pt_cmpR op_gt (pe_callB call_len_seq (by rfl) B.len PySem.boot_len (pa_cons (pv 0) pa_nil)) (pe_num N.mPieces) (nomark _)))).pt (pss_one (ps_ret pe_bl)) pss_nil)
      (pss_cons (ps_if (pt_cmpR op_gt (pe_callB (cr_max rfl) (by rfl) B.max (by decide +kernel) (pa_cons (pv 0) pa_nil)) (pe_num N.mWorth) (nomark _)) (pss_one (ps_ret pe_bl)) pss_nil)
      (pss_one (ps_ret (C8.pe_c cN hr (by decide) (by rfl) (pa_cons (pv 0) pa_nil))))), ?_⟩
    refine ⟨_, rfl, sa, _, rfl, .inl (SqL.of hm), _, _, rfl, rfl, _, rfl, ?_⟩
    rw [vn_len]
    refine ite2 (fun c => ?_) (fun c => ?_)
    · have c' := of_decide_eq_true c
      have k' := k H (Same.refl H)
      rw [okG_short (Or.inl (by omega))] at k'
      exact k'
    · have c1 : 1 ≤ l.length := by
        have : ¬ ((l.length : Int) < 1) := fun q => c (decide_eq_true q)
        omega
      refine ⟨_, rfl, sa, _, rfl, .inl (SqL.of hm), _, _, rfl, rfl, _, rfl, ?_⟩
      rw [vn_len]
      refine ite2 (fun c => ?_) (fun c => ?_)
      · have c' := of_decide_eq_true c
        have k' := k H (Same.refl H)
        rw [okG_short (Or.inr (by omega))] at k'
        exact k'
      · have c2 : l.length ≤ 8 := by
          have : ¬ (8 < (l.length : Int)) := fun q => c (decide_eq_true q)
          omega
        refine ⟨_, rfl, sa, l.map (fun n : Nat => (n : Int)), rfl, by rw [← vn_ints]; exact SqL.of hm, by rw [List.length_map]; omega, fun M hM hle => ?_⟩
        refine ⟨_, _, rfl, rfl, _, rfl, ?_⟩
        obtain ⟨m, hm1, rfl⟩ := List.mem_map.mp hM
        refine ite2 (fun c => ?_) (fun c => ?_)
        · have c' := of_decide_eq_true c
          have k' := k H (Same.refl H)
          rw [okG_big hm1 (by omega)] at k'
          exact k'
        · have c3 : ∀ x ∈ l, x ≤ 1000 := fun x hx => by
            have h1 := hle (x : Int) (List.mem_map.mpr ⟨x, hx, rfl⟩)
            have h2 : ¬ (1000 < (m : Int)) := fun q => c (decide_eq_true q)
            omega
          rw [okG_fall c1 c2 c3] at k
          exact ⟨_, rfl, sa, l, rfl, hm, by omega, k⟩
end
end Su
namespace Su
open PySem PySem.Spec PyProof.Rows L2
abbrev sPiece : Stmt := top 23
abbrev sCosts : Stmt := top 24
abbrev sBestB : Stmt := top 25
abbrev sLeast : Stmt := top 26
abbrev sTwo : Stmt := top 27
abbrev sMost : Stmt := top 28
/-- at b a seller's steps: a list of pairs -/
structure StepsAt (H : Hp) (b : Addr) (ts : List Addr) (st : List (Nat × Nat)) : Prop where
  lst : H b = some (.lst (ts.map V.ref))
  len : ts.length = st.length
  at_ : ∀ (i : Nat) (t : Addr), ts[i]? = some t → ∃ q, st[i]? = some q ∧ H t = some (.tup [.int (q.1 : Nat), .int (q.2 : Nat)])
theorem StepsAt.same {H H' : Hp} {b : Addr} {ts : List Addr} {st : List (Nat × Nat)} (R : StepsAt H b ts st) (s : Same H H') : StepsAt H' b ts st :=
  ⟨s _ _ R.lst, R.len, fun i t h => let ⟨q, h1, h2⟩ := R.at_ i t h; ⟨q, h1, s _ _ h2⟩⟩
section
variable {P : Program} {w : World} {K : PySem.W.Frag} {mg : Str → Option Value} {base : Heap}
/-! ### price_of_piece -/
def spPiece : Sp := fun vs H Q _ => ∃ (b : Addr) (ts : List Addr) (st : List (Nat × Nat)) (n : Nat), vs = [.ref b, .int (n : Int)] ∧ StepsAt H b ts st ∧ ∀ H', Same H H' → Q (.int ((Su90.priceAt st n : Nat) : Int)) H'
theorem scPiece : FnScope ["steps", "bought", "price", "start", "asked"] ["steps", "bought"] (defScope sPiece) := ⟨rfl, rfl, rfl, by decide +kernel, rfl, by decide +kernel, by decide +kernel⟩
theorem ok_piece {f : Addr} {fd : FuncData} (F : Fun K "price_of_piece" "price_of_piece" sPiece f fd) : FnOk P w K mg base CX0 1 f fd ["steps", "bought"] spPiece := by
  refine F.ok scPiece (fun vs H Q E h => ?_) (fun cdv A outer s H vs Q E hr h => ?_)
  · obtain ⟨b, ts, st, n, rfl, _⟩ := h
    rfl
  · obtain ⟨b, ts, st, n, rfl, R, k⟩ := h
    refine ⟨_, pss_cons (ps_set (i := 2) scPiece.nd rfl (Or.inl rfl) pe_int)
      (pss_cons (ps_for PassesOwn.never rfl (pi_list (pv 0)) (pg_tup rfl (pgs_cons (pg_name (i := 3) scPiece.nd rfl (Or.inl rfl)) (pgs_cons (pg_name (i := 4) scPiece.nd rfl (Or.inl rfl)) pgs_nil)))
        (pss_one (ps_if (pt_cmpR op_le (pv 3) (pv 1) (nomark _)) (pss_one (ps_set (i := 2) scPiece.nd rfl (Or.inl rfl) (pv 4))) pss_nil)))
      (pss_one (ps_ret (pv 2)))), ?_⟩
    refine ⟨_, rfl, b, rfl, ⟨_, SqL.of R.lst⟩, for_list (K := K) (a := b) (xs := ts.map V.ref) (fun i σ H' => ∃ v3 v4, σ = [some (.ref b), some (.int (n : Int)), some (.int ((MA.priceTo st n i : Nat) : Int)), v3, v4] ∧ Same H H')
      ⟨none, none, rfl, Same.refl H⟩ (fun i σ H' _ ⟨_, _, _, s1⟩ => SqL.of (s1 _ _ R.lst)) ?_ ?_⟩
    · rintro i x σ H1 hx ⟨v3, v4, rfl, s1⟩
      rw [List.getElem?_map] at hx
      obtain ⟨t, ht, rfl⟩ := Option.map_eq_some_iff.mp hx
      obtain ⟨q, hq, hh⟩ := R.at_ i t ht
      refine ⟨t, _, rfl, SqT.of (s1 _ _ hh), rfl, _, _, rfl, _, _, rfl, rfl, ?_⟩
      refine ⟨_, rfl, _, rfl, _, _, rfl, rfl, _, rfl, ?_⟩
      have e := MA.priceTo_succ (q := n) hq
      refine ite2 (fun c => ?_) (fun c => ?_)
      · have c' : q.1 ≤ n := Int.ofNat_le.mp (of_decide_eq_true c)
        rw [if_pos c'] at e
        refine ⟨_, rfl, some (.int (q.1 : Nat)), some (.int (q.2 : Nat)), ?_, s1⟩
        rw [e]
        rfl
      · have c' : ¬ q.1 ≤ n := fun z => c (decide_eq_true (Int.ofNat_le.mpr z))
        rw [if_neg c'] at e
        refine ⟨some (.int (q.1 : Nat)), some (.int (q.2 : Nat)), ?_, s1⟩
        rw [e]
        rfl
    · rintro σ H1 ⟨v3, v4, rfl, s1⟩
      refine ⟨_, rfl, ?_⟩
      rw [List.length_map, R.len, MA.priceTo_all]
      exact k H1 s1
/-! ### costs_of -/
def spCosts : Sp := fun vs H Q _ => ∃ (b : Addr) (ts : List Addr) (st : List (Nat × Nat)), vs = [.ref b] ∧ StepsAt H b ts st ∧ ∀ H' p, Same H H' → H p = none → H' p = some (.lst (vn (MA.costs st))) → Q (.ref p) H'
theorem scCosts : FnScope ["steps", "bought"] ["steps"] (defScope sCosts) := ⟨rfl, rfl, rfl, by decide +kernel, rfl, by decide +kernel, by decide +kernel⟩
theorem ok_costs {f : Addr} {fd : FuncData} (F : Fun K "costs_of" "costs_of" sCosts f fd) (B : Bt mg) (N : Nums mg) (cP : C8.Cal P w K mg base 1 "price_of_piece" spPiece []) : FnOk P w K mg base CX0 2 f fd ["steps"] spCosts := by
  refine F.ok scCosts (fun vs H Q E h => ?_) (fun cdv A outer s H vs Q E hr h => ?_)
  · obtain ⟨b, ts, st, rfl, _⟩ := h
    rfl
  · obtain ⟨b, ts, st, rfl, R, k⟩ := h
    refine ⟨_, pss_one (ps_ret (pe_lc (own := [("bought", 1)]) (g := gName 1) (tt := tYes) rfl scCosts.nd (pi_range1 (by rfl) B.range (pa_cons (pe_op op_add (pe_num N.mBought) pe_int) pa_nil))
        (blkOk_by (N := ["steps", "bought"]) (sc := defScope sCosts) (by decide +kernel)) (fun _ _ _ _ _ => pg_name (i := 1) scCosts.nd rfl (Or.inl rfl)) (fun _ _ _ _ _ => pts_nil)
        (fun _ _ _ _ _ => pe_op op_mul (pv 1) (C8.pe_c cP hr (by decide) (by rfl) (pa_cons (pv 0) (pa_cons (pv 1) pa_nil)))))), ?_⟩
    refine ⟨_, _, rfl, rfl, _, rfl, by decide, by decide, fun D nD => ?_⟩
    refine lc_range (lo := 0) (n := 61) (fun i H' => Same H H' ∧ H' D = some (.lst (vn ((List.range i).map (Su90.cost st)))))
      ⟨same_upd nD, upd_same⟩ ?_ ?_
    · rintro i H2 hi ⟨s2, h2⟩
      refine ⟨rfl, ?_⟩
      have ei : (0 : Int) + (i : Nat) = (i : Int) := by omega
      rw [ei]
      refine ⟨_, rfl, _, rfl, _, rfl, b, ts, st, i, rfl, R.same s2, fun H3 s3 => ?_⟩
      refine ⟨_, _, rfl, rfl, .inl ⟨by omega, by omega⟩, _, s3 _ _ h2, small (by rw [vn_len, List.length_map, List.length_range]; omega), (s2.trans s3).upd_free nD, ?_⟩
      rw [upd_same, List.range_succ, List.map_append, vn_append]
      show some (HO.lst (_ ++ [V.int ((i : Int) * ((Su90.priceAt st i : Nat) : Int))])) = some (HO.lst (_ ++ [V.int (((i * Su90.priceAt st i : Nat)) : Int)]))
      rw [Int.natCast_mul]
    · rintro H2 ⟨s2, h2⟩
      exact k H2 D s2 nD h2
/-! ### the first of the least -/
theorem all_flat (l : List Nat) : (vn l).all flatV = true := by
  rw [List.all_eq_true]
  intro x hx
  unfold vn at hx
  obtain ⟨n, _, rfl⟩ := List.mem_map.mp hx
  rfl
theorem getD_of {l : List Nat} {i x : Nat} (h : l[i]? = some x) : l.getD i 0 = x := by rw [List.getD_eq_getElem?_getD, h]; rfl
theorem get_of {l : List Nat} {i : Nat} (h : i < l.length) : l[i]? = some (l.getD i 0) := by rw [List.getD_eq_getElem?_getD, List.getElem?_eq_getElem h]; rfl
/-- the least of what stands from n on is what stands at the first of the least -/
theorem first_min {cs : List Nat} {n j : Nat} (F : MA.First cs n j) {m : Int} (hm : m ∈ (cs.drop n).map (fun n : Nat => (n : Int))) (hle : ∀ y, y ∈ (cs.drop n).map (fun n : Nat => (n : Int)) → m ≤ y) : m = ((cs.getD j 0 : Nat) : Int) := by
  obtain ⟨mm, h1, rfl⟩ := List.mem_map.mp hm
  obtain ⟨i, hi⟩ := List.mem_iff_getElem?.mp h1
  rw [List.getElem?_drop] at hi
  have l1 := F.least (n + i) (Nat.le_add_right _ _) (List.getElem?_eq_some_iff.mp hi).1
  rw [getD_of hi] at l1
  have hj : (cs.drop n)[j - n]? = some (cs.getD j 0) := by
    have := F.lo
    rw [List.getElem?_drop, show n + (j - n) = j by omega]
    exact get_of F.hi
  have l2 := hle ((cs.getD j 0 : Nat) : Int) (List.mem_map.mpr ⟨_, List.mem_of_getElem? hj, rfl⟩)
  omega
theorem vn_map_int (l : List Nat) : (l.map (fun n : Nat => (n : Int))).map V.int = vn l := (vn_ints l).symm
/-! ### best_bought -/
def spBestB : Sp := fun vs H Q _ => ∃ (ca : Addr) (cs : List Nat) (n j : Nat), vs = [.ref ca, .int (n : Int)] ∧ H ca = some (.lst (vn cs)) ∧ MA.First cs n j ∧ ∀ H', Same H H' → Q (.int (j : Int)) H'
theorem scBestB : FnScope ["costs", "wanted", "enough"] ["costs", "wanted"] (defScope sBestB) := ⟨rfl, rfl, rfl, by decide +kernel, rfl, by decide +kernel, by decide +kernel⟩
theorem first_index {cs : List Nat} {n j : Nat} (F : MA.First cs n j) : (vn (cs.drop n))[j - n]? = some (.int ((cs.getD j 0 : Nat) : Int)) ∧ ∀ (m : Nat) (z : V), m < j - n → (vn (cs.drop n))[m]? = some z → eqV z (.int ((cs.getD j 0 : Nat) : Int)) = false := by
  have hlo := F.lo
  refine ⟨?_, fun m z hm hz => ?_⟩
  · rw [vn_get, List.getElem?_drop, show n + (j - n) = j by omega, get_of F.hi]
    rfl
  · have hi := F.hi
    rw [vn_get, List.getElem?_drop, get_of (by omega)] at hz
    have ez := Option.some.inj hz
    subst ez
    have := F.first (n + m) (by omega) (by omega)
    show (((cs.getD (n + m) 0 : Nat) : Int) == ((cs.getD j 0 : Nat) : Int)) = false
    rw [beq_eq_false_iff_ne]
    omega
theorem ok_bestB {f : Addr} {fd : FuncData} (F : Fun K "best_bought" "best_bought" sBestB f fd) (B : Bt mg) : FnOk P w K mg base CX0 1 f fd ["costs", "wanted"] spBestB := by
  refine F.ok scBestB (fun vs H Q E h => ?_) (fun cdv A outer s H vs Q E hr h => ?_)
  · obtain ⟨ca, cs, n, j, rfl, _⟩ := h
    rfl
  · obtain ⟨ca, cs, n, j, rfl, hc, Fi, k⟩ := h
    refine ⟨_, pss_cons (ps_set (i := 2) scBestB.nd rfl (Or.inl rfl) (pe_slice sl_list (pv 0) (po_some (pv 1)) po_none))
      (pss_one (ps_ret (pe_op op_add (pv 1) (pe_bm PySem.F.plainAttrs_list PySem.F.slot_list_index PySem.F.type_list_index mt_index (pv 2) (pa_cons (pe_callB (cr_min rfl) (by rfl) B.min (by decide +kernel) (pa_cons (pv 2) pa_nil)) pa_nil))))), ?_⟩
    refine ⟨_, rfl, _, rfl, _, rfl, ca, _, rfl, SqL.of hc, fun p np => ?_⟩
    rw [cut_from, vn_drop]
    have s1 := same_upd (o := .lst (vn (cs.drop n))) np
    have hlo := Fi.lo
    have hhi := Fi.hi
    obtain ⟨x1, x2⟩ := first_index Fi
    refine ⟨_, rfl, _, rfl, .inl ⟨rfl, _, SqL.of upd_same⟩, _, rfl, p, (cs.drop n).map (fun n : Nat => (n : Int)), rfl, by rw [vn_map_int]; exact SqL.of upd_same, by rw [List.length_map, List.length_drop]; omega, fun m hm hle => ?_⟩
    have em := first_min Fi hm hle
    subst em
    refine ⟨p, _, _, j - n, _, rfl, rfl, SqL.of upd_same, rfl, all_flat _, x1, beq_self_eq_true _, x2, _, _, rfl, rfl, ?_⟩
    have ej : (n : Int) + ((j - n : Nat) : Int) = (j : Int) := by omega
    show Q (.int ((n : Int) + ((j - n : Nat) : Int))) _
    rw [ej]
    exact k _ s1
/-! ### least_cost -/
def spLeast : Sp := fun vs H Q _ => ∃ (ca : Addr) (cs : List Nat) (n j : Nat), vs = [.ref ca, .int (n : Int)] ∧ H ca = some (.lst (vn cs)) ∧ MA.First cs n j ∧ ∀ H', Same H H' → Q (.int ((cs.getD j 0 : Nat) : Int)) H'
theorem scLeast : FnScope ["costs", "wanted"] ["costs", "wanted"] (defScope sLeast) := ⟨rfl, rfl, rfl, by decide +kernel, rfl, by decide +kernel, by decide +kernel⟩
theorem ok_least {f : Addr} {fd : FuncData} (F : Fun K "least_cost" "least_cost" sLeast f fd) (cB : C8.Cal P w K mg base 1 "best_bought" spBestB []) : FnOk P w K mg base CX0 2 f fd ["costs", "wanted"] spLeast := by
  refine F.ok scLeast (fun vs H Q E h => ?_) (fun cdv A outer s H vs Q E hr h => ?_)
  · obtain ⟨ca, cs, n, j, rfl, _⟩ := h
    rfl
  · obtain ⟨ca, cs, n, j, rfl, hc, Fi, k⟩ := h
    refine ⟨_, pss_one (ps_ret (pe_ix ix_list (pv 0) (C8.pe_c cB hr (by decide) (by rfl) (pa_cons (pv 0) (pa_cons (pv 1) pa_nil))) (fun _ _ => rfl))), ?_⟩
    refine ⟨_, rfl, _, rfl, _, rfl, ca, cs, n, j, rfl, hc, Fi, fun H1 s1 => ?_⟩
    exact ⟨ca, _, _, _, rfl, rfl, SqL.of (s1 _ _ hc), at_vn Fi.hi, k H1 s1⟩
/-! ### most_for -/
def spMost : Sp := fun vs H Q _ => ∃ (ca : Addr) (st : List (Nat × Nat)) (c : Nat), vs = [.ref ca, .int (c : Int)] ∧ H ca = some (.lst (vn (MA.costs st))) ∧ ∀ H', Same H H' → Q (.int ((Su90.most st c : Nat) : Int)) H'
theorem scMost : FnScope ["costs", "money", "most", "bought", "cost"] ["costs", "money"] (defScope sMost) := ⟨rfl, rfl, rfl, by decide +kernel, rfl, by decide +kernel, by decide +kernel⟩
theorem ok_most {f : Addr} {fd : FuncData} (F : Fun K "most_for" "most_for" sMost f fd) (B : Bt mg) : FnOk P w K mg base CX0 1 f fd ["costs", "money"] spMost := by
  refine F.ok scMost (fun vs H Q E h => ?_) (fun cdv A outer s H vs Q E hr h => ?_)
  · obtain ⟨ca, st, c, rfl, _⟩ := h
    rfl
  · obtain ⟨ca, st, c, rfl, hc, k⟩ := h
    refine ⟨_, pss_cons (ps_set (i := 2) scMost.nd rfl (Or.inl rfl) pe_int)
      (pss_cons (ps_for PassesOwn.never rfl (pi_enum (by rfl) B.enumerate (pa_cons (pv 0) pa_nil)) (pg_tup rfl (pgs_cons (pg_name (i := 3) scMost.nd rfl (Or.inl rfl)) (pgs_cons (pg_name (i := 4) scMost.nd rfl (Or.inl rfl)) pgs_nil)))
        (pss_one (ps_if (pt_cmpR op_le (pv 4) (pv 1) (nomark _)) (pss_one (ps_set (i := 2) scMost.nd rfl (Or.inl rfl) (pv 3))) pss_nil)))
      (pss_one (ps_ret (pv 2)))), ?_⟩
    refine ⟨_, rfl, ca, _, rfl, SqL.of hc, ?_⟩
    refine for_it (walk_enum (K := K) (a := ca) (xs := vn (MA.costs st))) (fun i σ H' => ∃ v3 v4, σ = [some (.ref ca), some (.int (c : Int)), some (.int ((MA.mostTo st c i : Nat) : Int)), v3, v4] ∧ Same H H')
      ⟨none, none, rfl, Same.refl H⟩ (fun i σ H' _ ⟨_, _, _, s1⟩ => SqL.of (s1 _ _ hc)) ?_ ?_
    · rintro i x σ H1 H2 hi ⟨v3, v4, rfl, s1⟩ ⟨T, x1, x2, rfl, nT, rfl, e1, e2⟩
      rw [vn_len, MA.costs_len] at hi
      have ex1 : x1 = .int (i : Int) := (Option.some.inj e1).symm
      have ex2 : x2 = .int ((Su90.cost st i : Nat) : Int) := by
        have e2 : (vn (MA.costs st))[i]? = some x2 := e2
        rw [vn_get, get_of (by rw [MA.costs_len]; exact hi), MA.costs_get hi] at e2
        exact (Option.some.inj e2).symm
      subst ex1
      subst ex2
      have s2 : Same H (upd H1 T (.tup [.int (i : Int), .int ((Su90.cost st i : Nat) : Int)])) := s1.trans (same_upd nT)
      refine ⟨T, _, rfl, SqT.of upd_same, rfl, _, _, rfl, _, _, rfl, rfl, ?_⟩
      refine ⟨_, rfl, _, rfl, _, _, rfl, rfl, _, rfl, ?_⟩
      have e := MA.mostTo_succ st c i
      refine ite2 (fun d => ?_) (fun d => ?_)
      · rw [if_pos (Int.ofNat_le.mp (of_decide_eq_true d))] at e
        refine ⟨_, rfl, some (.int (i : Int)), some (.int ((Su90.cost st i : Nat) : Int)), ?_, s2⟩
        rw [e]
        rfl
      · rw [if_neg (fun z => d (decide_eq_true (Int.ofNat_le.mpr z)))] at e
        refine ⟨some (.int (i : Int)), some (.int ((Su90.cost st i : Nat) : Int)), ?_, s2⟩
        rw [e]
        rfl
    · rintro σ H1 ⟨v3, v4, rfl, s1⟩
      refine ⟨_, rfl, ?_⟩
      rw [vn_len, MA.costs_len, ← MA.most_eq]
      exact k H1 s1
end
end Su
namespace Su
open PySem PySem.Spec PyProof.Rows L2
/-- what is wanted of the second -/
def restsOf (n : Nat) : List Nat := (List.range 61).map fun i => n - i
theorem rests_len (n : Nat) : (restsOf n).length = 61 := by simp [restsOf]
theorem rests_get {n i : Nat} (h : i < 61) : (restsOf n).getD i 0 = n - i := by
  unfold restsOf
  rw [List.getD_eq_getElem?_getD, List.getElem?_map, List.getElem?_range h]; rfl
theorem max0 (n i : Nat) : (if (0 : Int) > (n : Int) - (i : Int) then (0 : Int) else (n : Int) - (i : Int)) = ((n - i : Nat) : Int) := by
  split <;> omega
section
variable {P : Program} {w : World} {K : PySem.W.Frag} {mg : Str → Option Value} {base : Heap}
def spTwo : Sp := fun vs H Q _ => ∃ (fa sa : Addr) (s t : List (Nat × Nat)) (n : Nat), vs = [.ref fa, .ref sa, .int (n : Int)] ∧ H fa = some (.lst (vn (MA.costs s))) ∧ H sa = some (.lst (vn (MA.costs t))) ∧ n ≤ 60 ∧
  ∀ H' q, Same H H' → H q = none → H' q = some (.lst (vn [Su90.cost s (Su90.two s t n).1 + Su90.cost t (Su90.two s t n).2, (Su90.two s t n).1, (Su90.two s t n).2])) → Q (.ref q) H'
theorem scTwo : FnScope ["first", "second", "wanted", "rests", "together", "of_first", "bought", "cost", "rest"] ["first", "second", "wanted"] (defScope sTwo) := ⟨rfl, rfl, rfl, by decide +kernel, rfl, by decide +kernel, by decide +kernel⟩
theorem ok_two {f : Addr} {fd : FuncData} (F : Fun K "best_of_two" "best_of_two" sTwo f fd) (B : Bt mg) (cB : C8.Cal P w K mg base 1 "best_bought" spBestB []) (cL : C8.Cal P w K mg base 2 "least_cost" spLeast []) : FnOk P w K mg base CX0 3 f fd ["first", "second", "wanted"] spTwo := by
  refine F.ok scTwo (fun vs H Q E h => ?_) (fun cdv A outer sh H vs Q E hr h => ?_)
  · obtain ⟨fa, sa, s, t, n, rfl, _⟩ := h
    rfl
  · obtain ⟨fa, sa, s, t, n, rfl, hf, hs, hn, k⟩ := h
    refine ⟨_, pss_cons (ps_setLc (i := 3) (own := [("bought", 6)]) (g := gName 6) (tt := tYes) rfl scTwo.nd rfl rfl (sw_true rfl rfl rfl (by decide +kernel)) (pi_range1 (by rfl) B.range (pa_cons (pe_callB call_len_seq (by rfl) B.len PySem.boot_len (pa_cons (pv 0) pa_nil)) pa_nil))
        (blkOk_by (N := ["first", "second", "wanted", "rests", "together", "of_first", "bought", "cost", "rest"]) (sc := defScope sTwo) (by decide +kernel)) (fun _ _ _ _ _ => pg_name (i := 6) scTwo.nd rfl (Or.inl rfl)) (fun _ _ _ _ _ => pts_nil)
        (fun _ _ _ _ _ => pe_callB (call_max2 rfl) (by rfl) B.max (by decide +kernel) (pa_cons (pe_op op_sub (pv 2) (pv 6)) (pa_cons pe_int pa_nil))))
      (pss_cons (ps_setLc (i := 4) (own := [("cost", 7), ("rest", 8)]) (g := gTup K 2 (gCons (gName 7) (gCons (gName 8) gNil))) (tt := tYes) rfl scTwo.nd rfl rfl (sw_true rfl rfl rfl (by decide +kernel)) (pi_zip (by rfl) B.zip (pa_cons (pv 0) (pa_cons (pv 3) pa_nil)))
        (blkOk_by (N := ["first", "second", "wanted", "rests", "together", "of_first", "bought", "cost", "rest"]) (sc := defScope sTwo) (by decide +kernel)) (fun _ _ _ _ _ => pg_tup rfl (pgs_cons (pg_name (i := 7) scTwo.nd rfl (Or.inl rfl)) (pgs_cons (pg_name (i := 8) scTwo.nd rfl (Or.inl rfl)) pgs_nil))) (fun _ _ _ _ _ => pts_nil)
        (fun _ _ _ _ _ => pe_op op_add (pv 7) (C8.pe_c cL hr (by decide) (by rfl) (pa_cons (pv 1) (pa_cons (pv 8) pa_nil)))))
      (pss_cons (ps_set (i := 5) scTwo.nd rfl (Or.inl rfl) (pe_bm PySem.F.plainAttrs_list PySem.F.slot_list_index PySem.F.type_list_index mt_index (pv 4) (pa_cons (pe_callB (cr_min rfl) (by rfl) B.min (by decide +kernel) (pa_cons (pv 4) pa_nil)) pa_nil)))
      (pss_one (ps_ret (pe_lst (pa_cons (pe_ix ix_list (pv 4) (pv 5) (fun _ _ => rfl)) (pa_cons (pv 5) (pa_cons (C8.pe_c cB hr (by decide) (by rfl) (pa_cons (pv 1) (pa_cons (pe_ix ix_list (pv 3) (pv 5) (fun _ _ => rfl)) pa_nil))) pa_nil)))))))), ?_⟩
    refine ⟨_, rfl, fa, _, rfl, .inl (SqL.of hf), ?_⟩
    rw [vn_len, MA.costs_len]
    refine ⟨_, rfl, by decide, by decide, fun ra nra => ?_⟩
    refine lc_range (lo := 0) (n := 61) (fun i H' => Same H H' ∧ H' ra = some (.lst (vn ((List.range i).map fun i => n - i))))
      ⟨same_upd nra, upd_same⟩ ?_ ?_
    · rintro i H1 hi ⟨s1, h1⟩
      refine ⟨rfl, ?_⟩
      have ei : (0 : Int) + (i : Nat) = (i : Int) := by omega
      rw [ei]
      refine ⟨_, rfl, _, rfl, _, _, rfl, rfl, _, _, rfl, ?_⟩
      refine ⟨_, h1, small (by rw [vn_len, List.length_map, List.length_range]; omega), s1.upd_free nra, ?_⟩
      rw [upd_same, List.range_succ, List.map_append, vn_append]
      show some (HO.lst (_ ++ [V.int (if (0 : Int) > (n : Int) - (i : Int) then (0 : Int) else (n : Int) - (i : Int))])) = _
      rw [max0]
      rfl
    · rintro H1 ⟨s1, h1⟩
      have h1 : H1 ra = some (.lst (vn (restsOf n))) := h1
      refine ⟨_, rfl, _, rfl, fa, ra, _, _, rfl, SqL.of (s1 _ _ hf), SqL.of h1, fun ta nta => ?_⟩
      have h61 : 61 = min (vn (MA.costs s)).length (vn (restsOf n)).length := by rw [vn_len, vn_len, MA.costs_len, rests_len]; rfl
      refine lc_it (walk_zip (K := K) (a := fa) (b := ra) (xs := vn (MA.costs s)) (ys := vn (restsOf n)) h61) (fun i H' => Same H1 H' ∧ H' ta = some (.lst (vn ((List.range i).map (MA.both2 s t n)))))
        ⟨same_upd nta, upd_same⟩ (fun i H' _ p => ⟨SqL.of (p.1 _ _ (s1 _ _ hf)), SqL.of (p.1 _ _ h1)⟩) ?_ ?_
      · rintro i x H2 H3 hi ⟨s2, h2⟩ ⟨T, x1, x2, rfl, nT, rfl, e1, e2⟩
        have e1 : (vn (MA.costs s))[i]? = some x1 := e1
        have e2 : (vn (restsOf n))[i]? = some x2 := e2
        rw [vn_get, get_of (by rw [MA.costs_len]; exact hi), MA.costs_get hi] at e1
        rw [vn_get, get_of (by rw [rests_len]; exact hi), rests_get hi] at e2
        have ex1 : x1 = .int ((Su90.cost s i : Nat) : Int) := (Option.some.inj e1).symm
        have ex2 : x2 = .int ((n - i : Nat) : Int) := (Option.some.inj e2).symm
        subst ex1
        subst ex2
        have s3 : Same H2 (upd H2 T (.tup [.int ((Su90.cost s i : Nat) : Int), .int ((n - i : Nat) : Int)])) := same_upd nT
        refine ⟨T, _, rfl, SqT.of upd_same, rfl, _, _, rfl, _, _, rfl, rfl, rfl, ?_⟩
        have Fi : MA.First (MA.costs t) (n - i) (Su90.buy t (n - i)) := MA.first_buy (by omega)
        refine ⟨_, rfl, _, rfl, _, rfl, sa, MA.costs t, n - i, _, rfl, s3 _ _ (s2 _ _ (s1 _ _ hs)), Fi, fun H4 s4 => ?_⟩
        have s24 := s3.trans s4
        refine ⟨_, _, rfl, rfl, _, s24 _ _ h2, small (by rw [vn_len, List.length_map, List.length_range]; omega), (s2.trans s24).upd_free nta, ?_⟩
        rw [upd_same, List.range_succ, List.map_append, vn_append, MA.costs_get (MA.buy_le (by omega))]
        rfl
      · rintro H2 ⟨s2, h2⟩
        have h2 : H2 ta = some (.lst (vn (MA.togethers s t n))) := h2
        have s12 := s1.trans s2
        have Fi := MA.first_of1 s t n
        obtain ⟨x1, x2⟩ := first_index Fi
        rw [List.drop_zero, Nat.sub_zero] at x1 x2
        refine ⟨_, rfl, .inl ⟨rfl, _, SqL.of h2⟩, _, rfl, ta, (MA.togethers s t n).map (fun n : Nat => (n : Int)), rfl, by rw [vn_map_int]; exact SqL.of h2, by rw [List.length_map, MA.togethers_len]; decide, fun m hm hle => ?_⟩
        have em := first_min Fi (m := m) (by rw [List.drop_zero]; exact hm) (by rw [List.drop_zero]; exact hle)
        subst em
        refine ⟨ta, _, _, MA.of1 s t n, _, rfl, rfl, SqL.of h2, rfl, all_flat _, x1, beq_self_eq_true _, x2, ?_⟩
        have h61' : MA.of1 s t n < 61 := by have := Fi.hi; rwa [MA.togethers_len] at this
        have Fj : MA.First (MA.costs t) (n - MA.of1 s t n) (Su90.buy t (n - MA.of1 s t n)) := MA.first_buy (by omega)
        have ar : atI (vn (restsOf n)) ((MA.of1 s t n : Nat) : Int) = some (V.int ((n - MA.of1 s t n : Nat) : Int)) := by
          have := at_vn (l := restsOf n) (i := MA.of1 s t n) (by rw [rests_len]; exact h61')
          rw [rests_get h61'] at this
          exact this
        refine ⟨_, rfl, _, rfl, ta, _, _, _, rfl, rfl, SqL.of h2, at_vn Fi.hi, _, rfl, _, rfl, _, rfl, _, rfl, ra, _, _, _, rfl, rfl, SqL.of (s2 _ _ h1), ar, sa, MA.costs t, n - MA.of1 s t n, _, rfl, s12 _ _ hs, Fj, fun H3 s3 => ?_⟩
        refine ⟨(by show 3 ≤ sizeLine; decide), fun q nq => ?_⟩
        have s13 := s12.trans s3
        refine k _ q (s13.trans (same_upd nq)) (s13.free nq) ?_
        rw [upd_same, MA.two_eq, MA.togethers_get h61']
        rfl
end
end Su
namespace Su
open PySem PySem.Spec PyProof.Rows L2
abbrev sBegin : Stmt := top 53
abbrev sRefusal : Stmt := top 54
abbrev sAdd : Stmt := top 55
abbrev sDrop : Stmt := top 56
abbrev sRoom : Stmt := top 57
/-! ### the store -/
def stF (b : Bool) (r : Nat) (ka sa : Addr) : List (Str × V) := [("begun", .bl b), ("places", .int (r : Int)), ("kinds", .ref ka), ("sellers", .ref sa)]
theorem lk_here {k : Str} {v : V} {r : List (Str × V)} : List.lookup k ((k, v) :: r) = some v := by
  have e : (k == k) = true := beq_self_eq_true k
  simp only [List.lookup, e]
theorem lk_past {k g : Str} {v : V} {r : List (Str × V)} (h : (k == g) = false) : List.lookup k ((g, v) :: r) = List.lookup k r := by
  simp only [List.lookup, h]
theorem put_here {f : Str} {v x : V} {r : List (Str × V)} : putF f v ((f, x) :: r) = (f, v) :: r := if_pos rfl
theorem put_past {f g : Str} {v x : V} {r : List (Str × V)} (h : ¬ g = f) : putF f v ((g, x) :: r) = (g, x) :: putF f v r := if_neg h
theorem stF_begun (b : Bool) (r : Nat) (ka sa : Addr) : (stF b r ka sa).lookup ("begun" : Str) = some (.bl b) := lk_here
theorem stF_places (b : Bool) (r : Nat) (ka sa : Addr) : (stF b r ka sa).lookup ("places" : Str) = some (.int (r : Int)) := (lk_past (by decide +kernel)).trans lk_here
theorem stF_kinds (b : Bool) (r : Nat) (ka sa : Addr) : (stF b r ka sa).lookup ("kinds" : Str) = some (.ref ka) := (lk_past (by decide +kernel)).trans ((lk_past (by decide +kernel)).trans lk_here)
theorem stF_sellers (b : Bool) (r : Nat) (ka sa : Addr) : (stF b r ka sa).lookup ("sellers" : Str) = some (.ref sa) := (lk_past (by decide +kernel)).trans ((lk_past (by decide +kernel)).trans ((lk_past (by decide +kernel)).trans lk_here))
theorem put_begun (b c : Bool) (r : Nat) (ka sa : Addr) : putF "begun" (.bl c) (stF b r ka sa) = stF c r ka sa := put_here
theorem put_places (b : Bool) (r x : Nat) (ka sa : Addr) : putF "places" (.int (x : Int)) (stF b r ka sa) = stF b x ka sa := (put_past (by decide +kernel)).trans (congrArg _ put_here)
theorem put_kinds (b : Bool) (r : Nat) (ka kb sa : Addr) : putF "kinds" (.ref kb) (stF b r ka sa) = stF b r kb sa := (put_past (by decide +kernel)).trans (congrArg _ ((put_past (by decide +kernel)).trans (congrArg _ put_here)))
theorem put_sellers (b : Bool) (r : Nat) (ka sa sb : Addr) : putF "sellers" (.ref sb) (stF b r ka sa) = stF b r ka sb := (put_past (by decide +kernel)).trans (congrArg _ ((put_past (by decide +kernel)).trans (congrArg _ ((put_past (by decide +kernel)).trans (congrArg _ put_here)))))
structure Txt (K : PySem.W.Frag) (mg : Str → Option Value) (C : Addr) : Prop where
  cl : Cls K C
  nB : NoAttr K C "begun"
  nP : NoAttr K C "places"
  nK : NoAttr K C "kinds"
  nS : NoAttr K C "sellers"
  gC : mg "Store" = some (.ref C)
/-- what lies in the store, and nothing of the rest -/
def Deep (Z : Addr → Prop) (p ka sa b : Addr) : Prop := b ≠ p ∧ b ≠ ka ∧ b ≠ sa ∧ ¬ Z b
/-- at a the sellers' list -/
structure SellAt (D : Addr → Prop) (H : Hp) (a : Addr) (ss : List Addr) (sl : List (List (Nat × Nat))) : Prop where
  lst : H a = some (.lst (ss.map V.ref))
  len : ss.length = sl.length
  at_ : ∀ (i : Nat) (b : Addr), ss[i]? = some b → ∃ st ts, sl[i]? = some st ∧ StepsAt H b ts st ∧ D b ∧ ∀ t ∈ ts, D t
theorem SellAt.move {D D' : Addr → Prop} {H H' : Hp} {a a' : Addr} {ss : List Addr} {sl : List (List (Nat × Nat))} (R : SellAt D H a ss sl) (hl : H' a' = some (.lst (ss.map V.ref))) (kp : ∀ b o, H b = some o → D b → H' b = some o) (hD : ∀ b o, H b = some o → D b → D' b) : SellAt D' H' a' ss sl := by
  refine ⟨hl, R.len, fun i b h => ?_⟩
  obtain ⟨st, ts, h1, h2, h3, h4⟩ := R.at_ i b h
  refine ⟨st, ts, h1, ⟨kp _ _ h2.lst h3, h2.len, fun j t ht => ?_⟩, hD _ _ h2.lst h3, fun t ht => ?_⟩
  · obtain ⟨q, e1, e2⟩ := h2.at_ j t ht
    exact ⟨q, e1, kp _ _ e2 (h4 t (List.mem_of_getElem? ht))⟩
  · obtain ⟨j, hj⟩ := List.mem_iff_getElem?.mp ht
    obtain ⟨q, _, e2⟩ := h2.at_ j t hj
    exact hD _ _ e2 (h4 t ht)
theorem SellAt.same {D : Addr → Prop} {H H' : Hp} {a : Addr} {ss : List Addr} {sl : List (List (Nat × Nat))} (R : SellAt D H a ss sl) (s : Same H H') : SellAt D H' a ss sl := R.move (s _ _ R.lst) (fun b o e _ => s b o e) fun _ _ _ d => d
theorem SellAt.get {D : Addr → Prop} {H : Hp} {a : Addr} {ss : List Addr} {sl : List (List (Nat × Nat))} (R : SellAt D H a ss sl) {i : Nat} (h : i < sl.length) : ∃ b ts, ss[i]? = some b ∧ StepsAt H b ts (sl.getD i []) := by
  have h' : i < ss.length := by rw [R.len]; exact h
  obtain ⟨st, ts, h1, h2, _⟩ := R.at_ i _ (List.getElem?_eq_getElem h')
  refine ⟨ss[i], ts, List.getElem?_eq_getElem h', ?_⟩
  rw [List.getD_eq_getElem?_getD, h1]
  exact h2
theorem SellAt.erase {D : Addr → Prop} {H : Hp} {a p : Addr} {ss : List Addr} {sl : List (List (Nat × Nat))} (R : SellAt D H a ss sl) (j : Nat) (hp : H p = some (.lst ((ss.map V.ref).eraseIdx j))) : SellAt D H p (ss.eraseIdx j) (sl.eraseIdx j) := by
  refine ⟨by rw [hp, List.eraseIdx_eq_take_drop_succ, List.eraseIdx_eq_take_drop_succ, ← List.map_take, ← List.map_drop, ← List.map_append], ?_, fun i b h => ?_⟩
  · rw [List.length_eraseIdx, List.length_eraseIdx, R.len]
  · rw [List.getElem?_eraseIdx] at h
    rw [List.getElem?_eraseIdx]
    split at h
    · rename_i c
      rw [if_pos c]
      exact R.at_ i b h
    · rename_i c
      rw [if_neg c]
      exact R.at_ (i + 1) b h
theorem SellAt.push {D : Addr → Prop} {H : Hp} {a b : Addr} {ss ts : List Addr} {sl : List (List (Nat × Nat))} {st : List (Nat × Nat)} (R : SellAt D H a ss sl) {H' : Hp} (kp : ∀ b o, H b = some o → D b → H' b = some o) (ha : H' a = some (.lst (ss.map V.ref ++ [V.ref b]))) (hb : StepsAt H' b ts st) (db : D b) (dt : ∀ t ∈ ts, D t) : SellAt D H' a (ss ++ [b]) (sl ++ [st]) := by
  refine ⟨by rw [ha, List.map_append]; rfl, by simp [R.len], fun i c h => ?_⟩
  by_cases hi : i < ss.length
  · rw [List.getElem?_append_left hi] at h
    obtain ⟨st', ts', h1, h2, h3, h4⟩ := R.at_ i c h
    refine ⟨st', ts', by rw [List.getElem?_append_left (by rw [← R.len]; exact hi)]; exact h1, ⟨kp _ _ h2.lst h3, h2.len, fun j t ht => ?_⟩, h3, h4⟩
    obtain ⟨q, e1, e2⟩ := h2.at_ j t ht
    exact ⟨q, e1, kp _ _ e2 (h4 t (List.mem_of_getElem? ht))⟩
  · rw [List.getElem?_append_right (by omega)] at h
    have hz : i - ss.length = 0 := by
      cases q : i - ss.length with
      | zero => rfl
      | succ n => rw [q] at h; simp at h
    rw [hz] at h
    have eb : b = c := Option.some.inj h
    subst eb
    exact ⟨st, ts, by rw [List.getElem?_append_right (by rw [← R.len]; omega), ← R.len, hz]; rfl, hb, db, dt⟩
theorem RowsAt.move {H H' : Hp} {a a' : Addr} {as : List Addr} {ks : List (List Nat)} (R : RowsAt H a as ks) (hl : H' a' = some (.lst (as.map V.ref))) (kp : ∀ b ∈ as, ∀ o, H b = some o → H' b = some o) : RowsAt H' a' as ks :=
  ⟨hl, R.len, fun i b h => let ⟨w, h1, h2⟩ := R.at_ i b h; ⟨w, h1, kp b (List.mem_of_getElem? h) _ h2⟩⟩
theorem RowsAt.has {H : Hp} {a b : Addr} {as : List Addr} {ks : List (List Nat)} (R : RowsAt H a as ks) (hb : b ∈ as) : ∃ o, H b = some o := by
  obtain ⟨i, hi⟩ := List.mem_iff_getElem?.mp hb
  obtain ⟨w, _, h2⟩ := R.at_ i b hi
  exact ⟨_, h2⟩
/-- one row more -/
theorem RowsAt.push {H H' : Hp} {a l : Addr} {as : List Addr} {ks : List (List Nat)} {w : List Nat} (R : RowsAt H a as ks) (hl : H' l = some (.lst (vn w))) (ha : H' a = some (.lst (as.map V.ref ++ [V.ref l]))) (kp : ∀ b ∈ as, ∀ o, H b = some o → H' b = some o) : RowsAt H' a (as ++ [l]) (ks ++ [w]) := by
  refine ⟨by rw [ha, List.map_append]; rfl, by simp [R.len], fun i b h => ?_⟩
  by_cases hi : i < as.length
  · rw [List.getElem?_append_left hi] at h
    obtain ⟨w', h1, h2⟩ := R.at_ i b h
    exact ⟨w', by rw [List.getElem?_append_left (by rw [← R.len]; exact hi)]; exact h1, kp _ (List.mem_of_getElem? h) _ h2⟩
  · rw [List.getElem?_append_right (by omega)] at h
    have hz : i - as.length = 0 := by
      cases q : i - as.length with
      | zero => rfl
      | succ n => rw [q] at h; simp at h
    rw [hz] at h
    have eb : l = b := Option.some.inj h
    subst eb
    exact ⟨w, by rw [List.getElem?_append_right (by rw [← R.len]; omega), ← R.len, hz]; rfl, hl⟩
/-- the store at p, its kinds' list at ka, its sellers' at sa; nothing of it is of Z -/
structure StoreAt (C : Addr) (Z : Addr → Prop) (H : Hp) (p ka sa : Addr) (as ss : List Addr) (b : Bool) (r : Nat) (ks : List (List Nat)) (sl : List (List (Nat × Nat))) : Prop where
  ins : ∃ dx, H p = some (.ins C dx (stF b r ka sa))
  rows : RowsAt H ka as ks
  sell : SellAt (Deep Z p ka sa) H sa ss sl
  deep : ∀ b ∈ as, Deep Z p ka sa b
  ksa : ka ≠ sa
  off : ¬ Z p ∧ ¬ Z ka ∧ ¬ Z sa
section
variable {C : Addr} {Z : Addr → Prop} {H H' : Hp} {p ka sa : Addr} {as ss : List Addr} {b : Bool} {r : Nat} {ks : List (List Nat)} {sl : List (List (Nat × Nat))}
theorem StoreAt.same (S : StoreAt C Z H p ka sa as ss b r ks sl) (s : Same H H') : StoreAt C Z H' p ka sa as ss b r ks sl :=
  ⟨let ⟨dx, h⟩ := S.ins; ⟨dx, s _ _ h⟩, S.rows.same s, S.sell.same s, S.deep, S.ksa, S.off⟩
theorem StoreAt.pk (S : StoreAt C Z H p ka sa as ss b r ks sl) : p ≠ ka := by
  obtain ⟨dx, h⟩ := S.ins
  exact ne_of h S.rows.lst (by intro z; cases z)
theorem StoreAt.ps (S : StoreAt C Z H p ka sa as ss b r ks sl) : p ≠ sa := by
  obtain ⟨dx, h⟩ := S.ins
  exact ne_of h S.sell.lst (by intro z; cases z)
/-- another Z, of which the store has nothing; the heap changed off the store -/
theorem StoreAt.keep {Z' : Addr → Prop} (S : StoreAt C Z H p ka sa as ss b r ks sl) (hZ : ∀ b, Z' b → Z b) (kp : ∀ b o, H b = some o → ¬ Z b → H' b = some o) : StoreAt C Z' H' p ka sa as ss b r ks sl := by
  refine ⟨let ⟨dx, h⟩ := S.ins; ⟨dx, kp _ _ h S.off.1⟩, S.rows.move (kp _ _ S.rows.lst S.off.2.1) fun b hb o e => kp b o e (S.deep b hb).2.2.2, S.sell.move (kp _ _ S.sell.lst S.off.2.2) (fun b o e d => kp b o e d.2.2.2) fun b o e d => ⟨d.1, d.2.1, d.2.2.1, fun z => d.2.2.2 (hZ b z)⟩, fun b hb => ?_, S.ksa, ⟨fun z => S.off.1 (hZ _ z), fun z => S.off.2.1 (hZ _ z), fun z => S.off.2.2 (hZ _ z)⟩⟩
  have d := S.deep b hb
  exact ⟨d.1, d.2.1, d.2.2.1, fun z => d.2.2.2 (hZ b z)⟩
end
/-- what an object is by the document: the kinds and sellers as told, the bounds -/
abbrev Valid (a : Su90.Abs) : Prop := MA.Valid a
theorem okG_falling {l : List Nat} (h : Su90.Abs.okG l = true) : 1 ≤ l.length ∧ l.length ≤ 8 ∧ Su90.falling l = true := by
  unfold Su90.Abs.okG at h
  simp only [Bool.and_eq_true, decide_eq_true_eq] at h
  exact ⟨h.1, h.2.1, h.2.2.2⟩
theorem Valid.falls {a : Su90.Abs} (v : Valid a) : ∀ l ∈ a.kinds, Su90.falling l = true := fun l hl => (okG_falling (v.ok l hl)).2.2
/-- an answer's list -/
def ansV (z : Su90.Ans) : List V := .int z.value :: vn z.out
/-- what a call leaves behind: the store as it is then, a new list that tells the answer, all of Z as it was -/
def Done (C : Addr) (Z : Addr → Prop) (H : Hp) (p : Addr) (a' : Su90.Abs) (z : Su90.Ans) (Q : VK) : Prop := ∀ (H' : Hp) (q kb sb : Addr) (bs ts : List Addr), StoreAt C Z H' p kb sb bs ts true a'.room a'.kinds a'.sellers → H' q = some (.lst (ansV z)) → H q = none →
  (∀ b o, H b = some o → Z b → H' b = some o) → Q (.ref q) H'
theorem Done.same {C : Addr} {Z : Addr → Prop} {H H' : Hp} {p ka sa q : Addr} {as ss : List Addr} {a : Su90.Abs} {z : Su90.Ans} {Q : VK} (d : Done C Z H p a z Q) (S : StoreAt C Z H p ka sa as ss true a.room a.kinds a.sellers) (s : Same H H') (hq : H' q = some (.lst (ansV z))) (nq : H q = none) : Q (.ref q) H' :=
  d H' q ka sa as ss (S.same s) hq nq fun b o e _ => s b o e
/-- all of Z stands in the heap -/
def ZOk (Z : Addr → Prop) (H : Hp) : Prop := ∀ b, Z b → ∃ o, H b = some o
theorem ZOk.new {Z : Addr → Prop} {H : Hp} {b : Addr} (h : ZOk Z H) (n : H b = none) : ¬ Z b := fun z => by
  obtain ⟨o, e⟩ := h b z
  rw [n] at e
  cases e
/-- the promise of a call's def: the numbers handed in are those of the call c -/
def spDo (C : Addr) (call : List Nat → Option Su90.Call) : Sp := fun vs H Q _ => ∃ (Z : Addr → Prop) (p l ka sa : Addr) (as ss : List Addr) (a : Su90.Abs) (nums : List Nat) (c : Su90.Call), vs = [.ref p, .ref l] ∧ H l = some (.lst (vn nums)) ∧ call nums = some c ∧
  StoreAt C Z H p ka sa as ss true a.room a.kinds a.sellers ∧ Valid a ∧ ZOk Z H ∧ Deep Z p ka sa l ∧ Done C Z H p (Su90.does a c).1 (Su90.does a c).2 Q
theorem sp_len {C : Addr} {call : List Nat → Option Su90.Call} {vs : List V} {H : Hp} {Q : VK} {E : XK} (h : spDo C call vs H Q E) : vs.length = 2 := by
  obtain ⟨Z, p, l, ka, sa, as, ss, a, nums, c, rfl, _⟩ := h
  rfl
abbrev one (f : Nat → Su90.Call) : List Nat → Option Su90.Call := MA.one f
theorem one_inv {f : Nat → Su90.Call} {nums : List Nat} {c : Su90.Call} (h : one f nums = some c) : ∃ x, nums = [x] ∧ c = f x := by
  match nums, h with
  | [x], h => exact ⟨x, rfl, (Option.some.inj h).symm⟩
/-- a list of one number -/
theorem one_le : (1 : Nat) ≤ sizeLine := by decide
section
variable {P : Program} {w : World} {K : PySem.W.Frag} {mg : Str → Option Value} {base : Heap} {C : Addr}
/-! ### begin -/
def spBegin (C : Addr) : Sp := fun vs H Q _ => ∃ (Z : Addr → Prop) (p l ka sa : Addr) (as ss : List Addr) (b : Bool) (r : Nat) (ks : List (List Nat)) (sl : List (List (Nat × Nat))) (x : Nat), vs = [.ref p, .ref l] ∧ H l = some (.lst (vn [x])) ∧ StoreAt C Z H p ka sa as ss b r ks sl ∧ ZOk Z H ∧
  (20 < x → ∀ H' q, Same H H' → H' q = some (.lst [.int (-22)]) → H q = none → Q (.ref q) H') ∧
  (x ≤ 20 → ∀ H' q kb sb, StoreAt C Z H' p kb sb [] [] true x [] [] → H' q = some (.lst [.int 0]) → H q = none → (∀ b o, H b = some o → Z b → H' b = some o) → Q (.ref q) H')
theorem scBegin : FnScope ["store", "numbers", "places"] ["store", "numbers"] (defScope sBegin) := ⟨rfl, rfl, rfl, by decide +kernel, rfl, by decide +kernel, by decide +kernel⟩
theorem ok_begin {f : Addr} {fd : FuncData} (F : Fun K "begin" "begin" sBegin f fd) (N : Nums mg) (T : Txt K mg C) : FnOk P w K mg base CX0 1 f fd ["store", "numbers"] (spBegin C) := by
  refine F.ok scBegin (fun vs H Q E h => ?_) (fun cdv A outer s H vs Q E hr h => ?_)
  · obtain ⟨Z, p, l, ka, sa, as, ss, b, r, ks, sl, x, rfl, _⟩ := h
    rfl
  · obtain ⟨Z, p, l, ka, sa, as, ss, b, r, ks, sl, x, rfl, hl, S, hZ, k1, k2⟩ := h
    refine ⟨_, pss_cons (ps_set (i := 2) scBegin.nd rfl (Or.inl rfl) (pe_ix ix_list (pv 1) pe_int (fun _ _ => rfl)))
      (pss_cons (ps_if (pt_cmpR op_gt (pv 2) (pe_num N.mPlaces) (nomark _)) (pss_one (ps_ret (pe_lst (pa_cons (pe_num N.outOf) pa_nil)))) pss_nil)
      (pss_cons (ps_fld (pv 0) pe_bl rfl) (pss_cons (ps_fld (pv 0) (pv 2) rfl) (pss_cons (ps_fld (pv 0) (pe_lst pa_nil) rfl) (pss_cons (ps_fld (pv 0) (pe_lst pa_nil) rfl) (pss_one (ps_ret (pe_lst (pa_cons pe_int pa_nil))))))))), ?_⟩
    refine ⟨_, rfl, l, _, _, _, rfl, rfl, SqL.of hl, at_vn (i := 0) (Nat.zero_lt_one), _, rfl, _, _, rfl, rfl, _, rfl, ?_⟩
    refine ite2 (fun c => ?_) (fun c => ?_)
    · have c' : 20 < x := by
        have := of_decide_eq_true c
        exact Int.ofNat_lt.mp this
      exact ⟨one_le, fun q nq => k1 c' _ q (same_upd nq) upd_same nq⟩
    · have c' : x ≤ 20 := by
        have : ¬ (20 < (x : Int)) := fun q => c (decide_eq_true q)
        omega
      obtain ⟨dx, hp⟩ := S.ins
      refine ⟨_, rfl, p, C, dx, _, rfl, hp, T.cl, T.nB, (by show 4 < 1000; decide), ?_⟩
      rw [put_begun]
      refine ⟨_, rfl, _, rfl, p, C, dx, _, rfl, upd_same, T.cl, T.nP, (by show 4 < 1000; decide), ?_⟩
      rw [put_places]
      refine ⟨Nat.zero_le _, fun kb nkb => ?_⟩
      have h2 : (upd (upd H p (.ins C dx (stF true r ka sa))) p (.ins C dx (stF true x ka sa))) p = some (.ins C dx (stF true x ka sa)) := upd_same
      have npk : p ≠ kb := ne_of_none h2 nkb
      refine ⟨_, rfl, p, C, dx, _, rfl, by rw [upd_ne npk]; exact upd_same, T.cl, T.nK, (by show 4 < 1000; decide), ?_⟩
      rw [put_kinds]
      refine ⟨Nat.zero_le _, fun sb nsb => ?_⟩
      have nps : p ≠ sb := ne_of_none upd_same nsb
      have nks : kb ≠ sb := ne_of_none (by rw [upd_ne npk.symm]; exact upd_same) nsb
      refine ⟨_, rfl, p, C, dx, _, rfl, by rw [upd_ne nps]; exact upd_same, T.cl, T.nS, (by show 4 < 1000; decide), ?_⟩
      rw [put_sellers]
      refine ⟨one_le, fun q nq => ?_⟩
      have nkb0 : H kb = none := by
        rw [upd_ne npk.symm, upd_ne npk.symm] at nkb
        exact nkb
      have nsb0 : H sb = none := by
        rw [upd_ne nps.symm, upd_ne nks.symm, upd_ne nps.symm, upd_ne nps.symm] at nsb
        exact nsb
      have n1 : p ≠ q := ne_of_none upd_same nq
      have n2 : sb ≠ q := ne_of_none (by rw [upd_ne nps.symm]; exact upd_same) nq
      have n3 : kb ≠ q := ne_of_none (by rw [upd_ne npk.symm, upd_ne nks, upd_ne npk.symm]; exact upd_same) nq
      have nq0 : H q = none := by
        rw [upd_ne n1.symm, upd_ne n2.symm, upd_ne n1.symm, upd_ne n3.symm, upd_ne n1.symm, upd_ne n1.symm] at nq
        exact nq
      refine k2 c' _ q kb sb ⟨⟨dx, by rw [upd_ne n1]; exact upd_same⟩, ⟨by rw [upd_ne n3, upd_ne npk.symm, upd_ne nks, upd_ne npk.symm]; exact upd_same, rfl, fun i b h => by simp at h⟩, ⟨by rw [upd_ne n2, upd_ne nps.symm]; exact upd_same, rfl, fun i b h => by simp at h⟩, fun b hb => by simp at hb, nks, ⟨S.off.1, hZ.new nkb0, hZ.new nsb0⟩⟩ upd_same nq0 (fun b o e zb => ?_)
      have m0 : b ≠ p := fun z => S.off.1 (z ▸ zb)
      have m1 : b ≠ kb := ne_of_none e nkb0
      have m2 : b ≠ q := ne_of_none e nq0
      have m3 : b ≠ sb := ne_of_none e nsb0
      rw [upd_ne m2, upd_ne m0, upd_ne m3, upd_ne m0, upd_ne m1, upd_ne m0, upd_ne m0]
      exact e
end
end Su
namespace Su
open PySem PySem.Spec PyProof.Rows L2
theorem isK_no {a : Su90.Abs} {x : Nat} (h : ¬ x < a.kinds.length) : a.isK x = false := decide_eq_false h
theorem isK_yes {a : Su90.Abs} {x : Nat} (h : x < a.kinds.length) : ¬ a.isK x = false := fun z => of_decide_eq_false z h
section
variable {P : Program} {w : World} {K : PySem.W.Frag} {mg : Str → Option Value} {base : Heap} {C : Addr}
/-! ### refusal_of_kind -/
def refV (ok : Bool) (n : Nat) : V := if ok = false then .int (-22) else if n = 5 then .int (-28) else .non
def spRefusal : Sp := fun vs H Q _ => ∃ (ka la : Addr) (xs : List V) (l : List Nat), vs = [.ref ka, .ref la] ∧ H ka = some (.lst xs) ∧ H la = some (.lst (vn l)) ∧ ∀ H', Same H H' → Q (refV (Su90.Abs.okG l) xs.length) H'
theorem scRefusal : FnScope ["kinds", "worths"] ["kinds", "worths"] (defScope sRefusal) := ⟨rfl, rfl, rfl, by decide +kernel, rfl, by decide +kernel, by decide +kernel⟩
theorem ok_refusal {f : Addr} {fd : FuncData} (F : Fun K "refusal_of_kind" "refusal_of_kind" sRefusal f fd) (B : Bt mg) (N : Nums mg) (cA : C8.Cal P w K mg base 2 "are_worths" spAre []) : FnOk P w K mg base CX0 3 f fd ["kinds", "worths"] spRefusal := by
  refine F.ok scRefusal (fun vs H Q E h => ?_) (fun cdv A outer s H vs Q E hr h => ?_)
  · obtain ⟨ka, la, xs, l, rfl, _⟩ := h
    rfl
  · obtain ⟨ka, la, xs, l, rfl, hk, hl, k⟩ := h
    refine ⟨_, pss_cons (ps_if (pt_not (pt_val (C8.pe_c cA hr (by decide) (by rfl) (pa_cons (pv 1) pa_nil)))) (pss_one (ps_ret (pe_num N.outOf))) pss_nil)
      (pss_cons (ps_if (pt_cmpR op_eq (pe_callB call_len_seq (by rfl) B.len PySem.boot_len (pa_cons (pv 0) pa_nil)) (pe_num N.mKinds) (nomark _)) (pss_one (ps_ret (pe_num N.tooMany))) pss_nil)
      (pss_one (ps_ret pe_non))), ?_⟩
    refine ⟨_, rfl, la, l, rfl, hl, fun H1 s1 => ⟨_, rfl, ?_⟩⟩
    have k' := k H1 s1
    unfold refV at k'
    cases e : Su90.Abs.okG l with
    | false =>
      rw [e, if_pos rfl] at k'
      exact if_true_of (c := !false) rfl k'
    | true =>
      rw [e, if_neg (by intro z; cases z)] at k'
      refine if_false_of (c := !true) rfl ?_
      refine ⟨_, rfl, ka, _, rfl, .inl (SqL.of (s1 _ _ hk)), rfl, _, rfl, ?_⟩
      by_cases c5 : xs.length = 5
      · rw [if_pos c5] at k'
        exact if_true_of (decide_eq_true (by rw [c5]; rfl)) k'
      · rw [if_neg c5] at k'
        exact if_false_of (decide_eq_false fun z => c5 (by injection z with z; exact Int.ofNat_inj.mp z)) k'
/-! ### add_kind -/
abbrev asKind : List Nat → Option Su90.Call := MA.row .kind
theorem scAdd : FnScope ["store", "numbers", "refusal"] ["store", "numbers"] (defScope sAdd) := ⟨rfl, rfl, rfl, by decide +kernel, rfl, by decide +kernel, by decide +kernel⟩
theorem ok_add {f : Addr} {fd : FuncData} (F : Fun K "add_kind" "add_kind" sAdd f fd) (B : Bt mg) (T : Txt K mg C) (cR : C8.Cal P w K mg base 3 "refusal_of_kind" spRefusal []) : FnOk P w K mg base CX0 4 f fd ["store", "numbers"] (spDo C asKind) := by
  refine F.ok scAdd (fun vs H Q E h => sp_len h) (fun cdv A outer s H vs Q E hr h => ?_)
  obtain ⟨Z, p, l, ka, sa, as, ss, a, nums, c, rfl, hl, hc, S, Va, hZ, nl, k⟩ := h
  obtain rfl : Su90.Call.kind nums = c := Option.some.inj hc
  obtain ⟨dx, hp⟩ := S.ins
  have npk := S.pk
  have nps := S.ps
  have v1 := Va.few
  refine ⟨_, pss_cons (ps_set (i := 2) scAdd.nd rfl (Or.inl rfl) (C8.pe_c cR hr (by decide) (by rfl) (pa_cons (pe_fld (pv 0) rfl) (pa_cons (pv 1) pa_nil))))
    (pss_cons (ps_if (pt_cmpR op_notN (pv 2) pe_non (nomark _)) (pss_one (ps_ret (pe_lst (pa_cons (pv 2) pa_nil)))) pss_nil)
    (pss_cons (ps_expr (pe_bm PySem.F.plainAttrs_list PySem.F.slot_list_append PySem.F.type_list_append mt_append (pe_fld (pv 0) rfl) (pa_cons (pv 1) pa_nil)))
    (pss_one (ps_ret (pe_lst (pa_cons (pe_op op_sub (pe_callB call_len_seq (by rfl) B.len PySem.boot_len (pa_cons (pe_fld (pv 0) rfl) pa_nil)) pe_int) pa_nil)))))), ?_⟩
  refine ⟨_, rfl, p, C, dx, _, _, rfl, hp, T.cl, T.nK, stF_kinds _ _ _ _, _, rfl, ka, l, _, nums, rfl, S.rows.lst, hl, fun H1 s1 => ?_⟩
  refine ⟨_, rfl, rfl, _, rfl, ?_⟩
  rw [List.length_map, S.rows.len]
  have hd : Su90.does a (.kind nums) = if Su90.Abs.okG nums = false then (a, Su90.no (-22)) else if Su90.KINDS ≤ a.kinds.length then (a, Su90.no (-28)) else ({ a with kinds := a.kinds ++ [nums] }, Su90.num a.kinds.length []) := rfl
  rw [hd] at k
  cases e : Su90.Abs.okG nums with
  | false =>
    rw [if_pos e] at k
    refine if_true_of rfl ?_
    exact ⟨_, rfl, one_le, fun q nq => k.same S (s1.trans (same_upd nq)) upd_same (s1.free nq)⟩
  | true =>
    rw [if_neg (by rw [e]; exact fun z => by cases z)] at k
    by_cases c5 : a.kinds.length = 5
    · rw [if_pos (show Su90.KINDS ≤ a.kinds.length from Nat.le_of_eq c5.symm)] at k
      rw [c5]
      refine if_true_of rfl ?_
      exact ⟨_, rfl, one_le, fun q nq => k.same S (s1.trans (same_upd nq)) upd_same (s1.free nq)⟩
    · rw [if_neg (show ¬ Su90.KINDS ≤ a.kinds.length from fun z => c5 (Nat.le_antisymm v1 z))] at k
      have er : refV true a.kinds.length = .non := by
        unfold refV
        rw [if_neg (by intro z; cases z), if_neg c5]
      rw [er]
      refine if_false_of rfl ?_
      refine ⟨_, rfl, p, C, dx, _, _, rfl, s1 _ _ hp, T.cl, T.nK, stF_kinds _ _ _ _, .inl ⟨rfl, _, SqL.of (s1 _ _ S.rows.lst)⟩, _, rfl, ka, _, _, rfl, rfl, s1 _ _ S.rows.lst, small (by rw [List.length_map, S.rows.len]; omega), ?_⟩
      have hp2 : (upd H1 ka (.lst (as.map V.ref ++ [.ref l]))) p = some (.ins C dx (stF true a.room ka sa)) := by rw [upd_ne npk]; exact s1 _ _ hp
      refine ⟨_, rfl, p, C, dx, _, _, rfl, hp2, T.cl, T.nK, stF_kinds _ _ _ _, ka, _, rfl, .inl (SqL.of upd_same), _, _, rfl, rfl, one_le, fun q nq => ?_⟩
      have nqk : ka ≠ q := ne_of_none upd_same nq
      have s2 := same_upd (o := .lst [(fun i j => V.int (i - j)) (((as.map V.ref ++ [V.ref l]).length : Nat) : Int) 1]) nq
      have nq1 : H1 q = none := by rw [upd_ne nqk.symm] at nq; exact nq
      have kp : ∀ b o, H b = some o → b ≠ ka → (upd (upd H1 ka (.lst (as.map V.ref ++ [.ref l]))) q (.lst [(fun i j => V.int (i - j)) (((as.map V.ref ++ [V.ref l]).length : Nat) : Int) 1])) b = some o := fun b o hb nb => s2 _ _ (by rw [upd_ne nb]; exact s1 _ _ hb)
      refine k _ q ka sa (as ++ [l]) ss ⟨⟨dx, kp _ _ hp npk⟩, S.rows.push (kp _ _ hl nl.2.1) (s2 _ _ upd_same) (fun b hb o e => kp b o e (S.deep b hb).2.1), S.sell.move (kp _ _ S.sell.lst S.ksa.symm) (fun b o e d => kp b o e d.2.1) (fun b o e d => d), fun b hb => ?_, S.ksa, S.off⟩ ?_ (s1.free nq1) (fun b o hb zb => kp b o hb fun z => S.off.2.1 (z ▸ zb))
      · rcases List.mem_append.mp hb with hb | hb
        · exact S.deep b hb
        · rw [List.mem_singleton.mp hb]
          exact nl
      rw [upd_same]
      show some (HO.lst [V.int ((((as.map V.ref ++ [V.ref l]).length : Nat) : Int) - 1)]) = some (HO.lst [V.int ((a.kinds.length : Nat) : Int)])
      rw [List.length_append, List.length_map, S.rows.len]
      show some (HO.lst [V.int (((a.kinds.length + 1 : Nat) : Int) - 1)]) = _
      rw [show (((a.kinds.length + 1 : Nat) : Int) - 1) = ((a.kinds.length : Nat) : Int) by omega]
/-! ### drop_kind -/
theorem scDrop : FnScope ["store", "numbers", "k"] ["store", "numbers"] (defScope sDrop) := ⟨rfl, rfl, rfl, by decide +kernel, rfl, by decide +kernel, by decide +kernel⟩
theorem ok_drop {f : Addr} {fd : FuncData} (F : Fun K "drop_kind" "drop_kind" sDrop f fd) (B : Bt mg) (N : Nums mg) (T : Txt K mg C) (cB : C8.Cal P w K mg base 1 "all_but" spBut []) : FnOk P w K mg base CX0 2 f fd ["store", "numbers"] (spDo C (one .drop)) := by
  refine F.ok scDrop (fun vs H Q E h => sp_len h) (fun cdv A outer s H vs Q E hr h => ?_)
  obtain ⟨Z, p, l, ka, sa, as, ss, a, nums, c, rfl, hl, hc, S, Va, hZ, nl, k⟩ := h
  obtain ⟨x, rfl, rfl⟩ := one_inv hc
  obtain ⟨dx, hp⟩ := S.ins
  have npk := S.pk
  have nps := S.ps
  refine ⟨_, pss_cons (ps_set (i := 2) scDrop.nd rfl (Or.inl rfl) (pe_ix ix_list (pv 1) pe_int (fun _ _ => rfl)))
    (pss_cons (ps_if (pt_cmpR op_ge (pv 2) (pe_callB call_len_seq (by rfl) B.len PySem.boot_len (pa_cons (pe_fld (pv 0) rfl) pa_nil)) (nomark _)) (pss_one (ps_ret (pe_lst (pa_cons (pe_num N.noneSuch) pa_nil)))) pss_nil)
    (pss_cons (ps_fld (pv 0) (C8.pe_c cB hr (by decide) (by rfl) (pa_cons (pe_fld (pv 0) rfl) (pa_cons (pv 2) pa_nil))) rfl)
    (pss_one (ps_ret (pe_lst (pa_cons (pe_callB call_len_seq (by rfl) B.len PySem.boot_len (pa_cons (pe_fld (pv 0) rfl) pa_nil)) pa_nil)))))), ?_⟩
  refine ⟨_, rfl, l, _, _, _, rfl, rfl, SqL.of hl, at_vn (i := 0) Nat.zero_lt_one, _, rfl, _, rfl, p, C, dx, _, _, rfl, hp, T.cl, T.nK, stF_kinds _ _ _ _, ka, _, rfl, .inl (SqL.of S.rows.lst), _, _, rfl, rfl, _, rfl, ?_⟩
  rw [List.length_map, S.rows.len]
  have hd : Su90.does a (.drop x) = if a.isK x = false then (a, Su90.no (-2)) else (a.dropped x, Su90.num (a.kinds.length - 1) []) := rfl
  refine ite2 (fun c => ?_) (fun c => ?_)
  · have c' : ¬ x < a.kinds.length := by
      have : (a.kinds.length : Int) ≤ (x : Int) := of_decide_eq_true c
      omega
    rw [hd, if_pos (isK_no c')] at k
    exact ⟨one_le, fun q nq => k.same S (same_upd nq) upd_same nq⟩
  · have c' : x < a.kinds.length := by
      have : ¬ ((a.kinds.length : Int) ≤ (x : Int)) := fun q => c (decide_eq_true q)
      omega
    rw [hd, if_neg (isK_yes c')] at k
    have v1 := Va.few
    have l1 : (as.map V.ref).length = a.kinds.length := by rw [List.length_map, S.rows.len]
    refine ⟨_, rfl, p, C, dx, _, _, rfl, hp, T.cl, T.nK, stF_kinds _ _ _ _, _, rfl, ka, _, x, rfl, S.rows.lst, by rw [l1]; exact c', by omega, fun H1 kb s1 nkb hkb => ?_⟩
    refine ⟨_, rfl, p, C, dx, _, rfl, s1 _ _ hp, T.cl, T.nK, (by show 4 < 1000; decide), ?_⟩
    rw [put_kinds]
    have npb : p ≠ kb := ne_of_none hp nkb
    have nsb : sa ≠ kb := ne_of_none S.sell.lst nkb
    have R1 : RowsAt H1 kb (as.eraseIdx x) (a.kinds.eraseIdx x) := (S.rows.same s1).erase x hkb
    have R2 : RowsAt (upd H1 p (.ins C dx (stF true a.room kb sa))) kb (as.eraseIdx x) (a.kinds.eraseIdx x) := R1.move (by rw [upd_ne npb.symm]; exact R1.lst) fun b hb o e => by
      rw [upd_ne (S.deep b (List.mem_of_mem_eraseIdx hb)).1]
      exact e
    refine ⟨_, rfl, p, C, dx, _, _, rfl, upd_same, T.cl, T.nK, stF_kinds _ _ _ _, kb, _, rfl, .inl (SqL.of R2.lst), one_le, fun q nq => ?_⟩
    rw [List.length_map, R2.len, List.length_eraseIdx, if_pos c']
    have s2 := same_upd (o := .lst [.int ((a.kinds.length - 1 : Nat) : Int)]) nq
    have npq : p ≠ q := ne_of_none upd_same nq
    have kp : ∀ b o, H b = some o → b ≠ p → (upd (upd H1 p (.ins C dx (stF true a.room kb sa))) q (.lst [.int ((a.kinds.length - 1 : Nat) : Int)])) b = some o := fun b o hb nb => s2 _ _ (by rw [upd_ne nb]; exact s1 _ _ hb)
    refine k _ q kb sa (as.eraseIdx x) ss ⟨⟨dx, s2 _ _ upd_same⟩, R2.same s2, S.sell.move (kp _ _ S.sell.lst nps.symm) (fun b o e d => kp b o e d.1) (fun b o e d => ⟨d.1, ne_of_none e nkb, d.2.2.1, d.2.2.2⟩), fun b hb => ?_, nsb.symm, ⟨S.off.1, hZ.new nkb, S.off.2.2⟩⟩ upd_same ?_ (fun b o hb zb => kp b o hb fun z => S.off.1 (z ▸ zb))
    · have hb' := List.mem_of_mem_eraseIdx hb
      have d := S.deep b hb'
      obtain ⟨o, e⟩ := S.rows.has hb'
      exact ⟨d.1, ne_of_none e nkb, d.2.2.1, d.2.2.2⟩
    · rw [upd_ne npq.symm] at nq
      exact s1.free nq
/-! ### change_room -/
theorem scRoom : FnScope ["store", "numbers", "places", "before"] ["store", "numbers"] (defScope sRoom) := ⟨rfl, rfl, rfl, by decide +kernel, rfl, by decide +kernel, by decide +kernel⟩
theorem ok_room {f : Addr} {fd : FuncData} (F : Fun K "change_room" "change_room" sRoom f fd) (N : Nums mg) (T : Txt K mg C) : FnOk P w K mg base CX0 1 f fd ["store", "numbers"] (spDo C (one .room)) := by
  refine F.ok scRoom (fun vs H Q E h => sp_len h) (fun cdv A outer s H vs Q E hr h => ?_)
  obtain ⟨Z, p, l, ka, sa, as, ss, a, nums, c, rfl, hl, hc, S, Va, hZ, nl, k⟩ := h
  obtain ⟨x, rfl, rfl⟩ := one_inv hc
  obtain ⟨dx, hp⟩ := S.ins
  have npk := S.pk
  have nps := S.ps
  refine ⟨_, pss_cons (ps_set (i := 2) scRoom.nd rfl (Or.inl rfl) (pe_ix ix_list (pv 1) pe_int (fun _ _ => rfl)))
    (pss_cons (ps_if (pt_cmpR op_gt (pv 2) (pe_num N.mPlaces) (nomark _)) (pss_one (ps_ret (pe_lst (pa_cons (pe_num N.outOf) pa_nil)))) pss_nil)
    (pss_cons (ps_set (i := 3) scRoom.nd rfl (Or.inl rfl) (pe_fld (pv 0) rfl)) (pss_cons (ps_fld (pv 0) (pv 2) rfl) (pss_one (ps_ret (pe_lst (pa_cons (pv 3) pa_nil))))))), ?_⟩
  refine ⟨_, rfl, l, _, _, _, rfl, rfl, SqL.of hl, at_vn (i := 0) Nat.zero_lt_one, _, rfl, _, _, rfl, rfl, _, rfl, ?_⟩
  have hd : Su90.does a (.room x) = if 20 < x then (a, Su90.no (-22)) else ({ a with room := x }, Su90.num a.room []) := rfl
  refine ite2 (fun c => ?_) (fun c => ?_)
  · have c' : 20 < x := Int.ofNat_lt.mp (of_decide_eq_true c)
    rw [hd, if_pos c'] at k
    exact ⟨one_le, fun q nq => k.same S (same_upd nq) upd_same nq⟩
  · have c' : ¬ 20 < x := fun q => c (decide_eq_true (Int.ofNat_lt.mpr q))
    rw [hd, if_neg c'] at k
    refine ⟨_, rfl, p, C, dx, _, _, rfl, hp, T.cl, T.nP, stF_places _ _ _ _, ?_⟩
    refine ⟨_, rfl, _, rfl, p, C, dx, _, rfl, hp, T.cl, T.nP, (by show 4 < 1000; decide), ?_⟩
    have ep : putF "places" (V.int ((([x] : List Nat).getD 0 0 : Nat) : Int)) (stF true a.room ka sa) = stF true x ka sa := put_places _ _ _ _ _
    rw [ep]
    refine ⟨_, rfl, one_le, fun q nq => ?_⟩
    have s2 := same_upd (o := .lst [.int ((a.room : Nat) : Int)]) nq
    have npq : p ≠ q := ne_of_none upd_same nq
    have kp : ∀ b o, H b = some o → b ≠ p → (upd (upd H p (.ins C dx (stF true x ka sa))) q (.lst [.int ((a.room : Nat) : Int)])) b = some o := fun b o hb nb => s2 _ _ (by rw [upd_ne nb]; exact hb)
    refine k _ q ka sa as ss ⟨⟨dx, s2 _ _ upd_same⟩, S.rows.move (kp _ _ S.rows.lst npk.symm) (fun b hb o e => kp b o e (S.deep b hb).1), S.sell.move (kp _ _ S.sell.lst nps.symm) (fun b o e d => kp b o e d.1) (fun b o e d => d), S.deep, S.ksa, S.off⟩ upd_same ?_ (fun b o hb zb => kp b o hb fun z => S.off.1 (z ▸ zb))
    rw [upd_ne npq.symm] at nq
    exact nq
end
end Su
namespace Su
open PySem PySem.Spec PyProof.Rows L2
abbrev sWs : Stmt := top 58
abbrev sBest : Stmt := top 59
abbrev sAt : Stmt := top 60
abbrev sTellPrice : Stmt := top 61
abbrev sSteps : Stmt := top 62
abbrev sValue : Stmt := top 63
abbrev sTellWorth : Stmt := top 64
abbrev sWithout : Stmt := top 65
abbrev sWould : Stmt := top 66
abbrev none0 (c : Su90.Call) : List Nat → Option Su90.Call := MA.none0 c
theorem none0_inv {c0 c : Su90.Call} {nums : List Nat} (h : none0 c0 nums = some c) : nums = [] ∧ c = c0 := by
  match nums, h with
  | [], h => exact ⟨rfl, (Option.some.inj h).symm⟩
abbrev both (f : Nat → Nat → Su90.Call) : List Nat → Option Su90.Call := MA.both f
theorem both_inv {f : Nat → Nat → Su90.Call} {nums : List Nat} {c : Su90.Call} (h : both f nums = some c) : ∃ x y, nums = [x, y] ∧ c = f x y := by
  match nums, h with
  | [x, y], h => exact ⟨x, y, rfl, (Option.some.inj h).symm⟩
theorem cast_sub {m n : Nat} (h : n ≤ m) : (m : Int) - (n : Int) = ((m - n : Nat) : Int) := by omega
section
variable {P : Program} {w : World} {K : PySem.W.Frag} {mg : Str → Option Value} {base : Heap} {C : Addr}
/-! ### worth_and_sharing -/
def spWs : Sp := fun vs H Q _ => ∃ (ka : Addr) (as : List Addr) (a : Su90.Abs) (n : Nat), vs = [.ref ka, .int (n : Int)] ∧ RowsAt H ka as a.kinds ∧ a.kinds.length ≤ 100 ∧ n ≤ 100 ∧
  ∀ H' q, Same H H' → H q = none → H' q = some (.lst (ansV (Su90.num (a.value (a.best n)) (a.best n)))) → Q (.ref q) H'
theorem scWs : FnScope ["kinds", "places"] ["kinds", "places"] (defScope sWs) := ⟨rfl, rfl, rfl, by decide +kernel, rfl, by decide +kernel, by decide +kernel⟩
theorem ok_ws {f : Addr} {fd : FuncData} (F : Fun K "worth_and_sharing" "worth_and_sharing" sWs f fd) (cW : C8.Cal P w K mg base 4 "worth_told" spWorth []) (cS : C8.Cal P w K mg base 3 "sharing_told" spSharing []) : FnOk P w K mg base CX0 5 f fd ["kinds", "places"] spWs := by
  refine F.ok scWs (fun vs H Q E h => ?_) (fun cdv A outer s H vs Q E hr h => ?_)
  · obtain ⟨ka, as, a, n, rfl, _⟩ := h
    rfl
  · obtain ⟨ka, as, a, n, rfl, R, hk, hn, k⟩ := h
    refine ⟨_, pss_one (ps_ret (pe_op op_cat (pe_lst (pa_cons (C8.pe_c cW hr (by decide) (by rfl) (pa_cons (pv 0) (pa_cons (pv 1) pa_nil))) pa_nil)) (C8.pe_c cS hr (by decide) (by rfl) (pa_cons (pv 0) (pa_cons (pv 1) pa_nil))))), ?_⟩
    refine ⟨_, rfl, _, rfl, ka, as, a, n, rfl, R, hk, hn, fun H1 s1 => ⟨one_le, fun q nq => ?_⟩⟩
    have s2 := s1.trans (same_upd (o := .lst [.int ((a.value (a.best n) : Nat) : Int)]) nq)
    refine ⟨_, rfl, _, rfl, ka, as, a, n, rfl, R.same s2, hk, hn, fun H2 sa s3 nsa hs => ?_⟩
    refine ⟨q, sa, _, _, rfl, rfl, s3 _ _ upd_same, hs, small' (by rw [vn_len, MA.best_len' a n]; show 1 + a.kinds.length ≤ _; omega), fun r nr => ?_⟩
    exact k _ r ((s2.trans s3).trans (same_upd nr)) ((s2.trans s3).free nr) upd_same
/-! ### tell_best, tell_at -/
theorem scBest : FnScope ["store", "numbers"] ["store", "numbers"] (defScope sBest) := ⟨rfl, rfl, rfl, by decide +kernel, rfl, by decide +kernel, by decide +kernel⟩
theorem ok_best {f : Addr} {fd : FuncData} (F : Fun K "tell_best" "tell_best" sBest f fd) (T : Txt K mg C) (cW : C8.Cal P w K mg base 5 "worth_and_sharing" spWs []) : FnOk P w K mg base CX0 6 f fd ["store", "numbers"] (spDo C (none0 .best)) := by
  refine F.ok scBest (fun vs H Q E h => sp_len h) (fun cdv A outer s H vs Q E hr h => ?_)
  obtain ⟨Z, p, l, ka, sa, as, ss, a, nums, c, rfl, hl, hc, S, Va, hZ, nl, k⟩ := h
  obtain ⟨rfl, rfl⟩ := none0_inv hc
  obtain ⟨dx, hp⟩ := S.ins
  refine ⟨_, pss_one (ps_ret (C8.pe_c cW hr (by decide) (by rfl) (pa_cons (pe_fld (pv 0) rfl) (pa_cons (pe_fld (pv 0) rfl) pa_nil)))), ?_⟩
  have v1 := Va.few
  have v2 := Va.room
  refine ⟨_, rfl, p, C, dx, _, _, rfl, hp, T.cl, T.nK, stF_kinds _ _ _ _, _, rfl, p, C, dx, _, _, rfl, hp, T.cl, T.nP, stF_places _ _ _ _, ka, as, a, a.room, rfl, S.rows, by omega, by omega, fun H1 q s1 nq hq => ?_⟩
  exact k.same S s1 hq nq
theorem scAt : FnScope ["store", "numbers", "places"] ["store", "numbers"] (defScope sAt) := ⟨rfl, rfl, rfl, by decide +kernel, rfl, by decide +kernel, by decide +kernel⟩
theorem ok_at {f : Addr} {fd : FuncData} (F : Fun K "tell_at" "tell_at" sAt f fd) (N : Nums mg) (T : Txt K mg C) (cW : C8.Cal P w K mg base 5 "worth_and_sharing" spWs []) : FnOk P w K mg base CX0 6 f fd ["store", "numbers"] (spDo C (one .at_)) := by
  refine F.ok scAt (fun vs H Q E h => sp_len h) (fun cdv A outer s H vs Q E hr h => ?_)
  obtain ⟨Z, p, l, ka, sa, as, ss, a, nums, c, rfl, hl, hc, S, Va, hZ, nl, k⟩ := h
  obtain ⟨x, rfl, rfl⟩ := one_inv hc
  obtain ⟨dx, hp⟩ := S.ins
  refine ⟨_, pss_cons (ps_set (i := 2) scAt.nd rfl (Or.inl rfl) (pe_ix ix_list (pv 1) pe_int (fun _ _ => rfl)))
    (pss_cons (ps_if (pt_cmpR op_gt (pv 2) (pe_num N.mPlaces) (nomark _)) (pss_one (ps_ret (pe_lst (pa_cons (pe_num N.outOf) pa_nil)))) pss_nil)
    (pss_one (ps_ret (C8.pe_c cW hr (by decide) (by rfl) (pa_cons (pe_fld (pv 0) rfl) (pa_cons (pv 2) pa_nil)))))), ?_⟩
  refine ⟨_, rfl, l, _, _, _, rfl, rfl, SqL.of hl, at_vn (i := 0) Nat.zero_lt_one, _, rfl, _, _, rfl, rfl, _, rfl, ?_⟩
  have hd : Su90.does a (.at_ x) = if 20 < x then (a, Su90.no (-22)) else (a, Su90.num (a.value (a.best x)) (a.best x)) := rfl
  have v1 := Va.few
  refine ite2 (fun c => ?_) (fun c => ?_)
  · have c' : 20 < x := Int.ofNat_lt.mp (of_decide_eq_true c)
    rw [hd, if_pos c'] at k
    exact ⟨one_le, fun q nq => k.same S (same_upd nq) upd_same nq⟩
  · have c' : ¬ 20 < x := fun q => c (decide_eq_true (Int.ofNat_lt.mpr q))
    rw [hd, if_neg c'] at k
    exact ⟨_, rfl, p, C, dx, _, _, rfl, hp, T.cl, T.nK, stF_kinds _ _ _ _, _, rfl, ka, as, a, x, rfl, S.rows, by omega, by omega, fun H1 q s1 nq hq => k.same S s1 hq nq⟩
/-! ### tell_price -/
theorem scTellPrice : FnScope ["store", "numbers", "places"] ["store", "numbers"] (defScope sTellPrice) := ⟨rfl, rfl, rfl, by decide +kernel, rfl, by decide +kernel, by decide +kernel⟩
theorem ok_tellPrice {f : Addr} {fd : FuncData} (F : Fun K "tell_price" "tell_price" sTellPrice f fd) (N : Nums mg) (T : Txt K mg C) (cP : C8.Cal P w K mg base 4 "price_of_place" spPrice []) : FnOk P w K mg base CX0 5 f fd ["store", "numbers"] (spDo C (one .price)) := by
  refine F.ok scTellPrice (fun vs H Q E h => sp_len h) (fun cdv A outer s H vs Q E hr h => ?_)
  obtain ⟨Z, p, l, ka, sa, as, ss, a, nums, c, rfl, hl, hc, S, Va, hZ, nl, k⟩ := h
  obtain ⟨x, rfl, rfl⟩ := one_inv hc
  obtain ⟨dx, hp⟩ := S.ins
  refine ⟨_, pss_cons (ps_set (i := 2) scTellPrice.nd rfl (Or.inl rfl) (pe_ix ix_list (pv 1) pe_int (fun _ _ => rfl)))
    (pss_cons (ps_if (pt_cmpR op_gt (pv 2) (pe_num N.mPlaces) (nomark _)) (pss_one (ps_ret (pe_lst (pa_cons (pe_num N.outOf) pa_nil)))) pss_nil)
    (pss_one (ps_ret (pe_lst (pa_cons (C8.pe_c cP hr (by decide) (by rfl) (pa_cons (pe_fld (pv 0) rfl) (pa_cons (pv 2) pa_nil))) pa_nil))))), ?_⟩
  refine ⟨_, rfl, l, _, _, _, rfl, rfl, SqL.of hl, at_vn (i := 0) Nat.zero_lt_one, _, rfl, _, _, rfl, rfl, _, rfl, ?_⟩
  have hd : Su90.does a (.price x) = if 20 < x then (a, Su90.no (-22)) else (a, Su90.num (a.price x) []) := rfl
  have v1 := Va.few
  refine ite2 (fun c => ?_) (fun c => ?_)
  · have c' : 20 < x := Int.ofNat_lt.mp (of_decide_eq_true c)
    rw [hd, if_pos c'] at k
    exact ⟨one_le, fun q nq => k.same S (same_upd nq) upd_same nq⟩
  · have c' : ¬ 20 < x := fun q => c (decide_eq_true (Int.ofNat_lt.mpr q))
    rw [hd, if_neg c'] at k
    refine ⟨_, rfl, p, C, dx, _, _, rfl, hp, T.cl, T.nK, stF_kinds _ _ _ _, _, rfl, ka, as, a, x, rfl, S.rows, by omega, by omega, fun H1 s1 => ⟨one_le, fun q nq => ?_⟩⟩
    exact k.same S (s1.trans (same_upd nq)) upd_same (s1.free nq)
/-! ### tell_steps -/
theorem scSteps : FnScope ["store", "numbers", "order"] ["store", "numbers"] (defScope sSteps) := ⟨rfl, rfl, rfl, by decide +kernel, rfl, by decide +kernel, by decide +kernel⟩
theorem ok_steps {f : Addr} {fd : FuncData} (F : Fun K "tell_steps" "tell_steps" sSteps f fd) (B : Bt mg) (T : Txt K mg C) (cO : C8.Cal P w K mg base 2 "order_told" spOrder []) : FnOk P w K mg base CX0 3 f fd ["store", "numbers"] (spDo C (none0 .steps)) := by
  refine F.ok scSteps (fun vs H Q E h => sp_len h) (fun cdv A outer s H vs Q E hr h => ?_)
  obtain ⟨Z, p, l, ka, sa, as, ss, a, nums, c, rfl, hl, hc, S, Va, hZ, nl, k⟩ := h
  obtain ⟨rfl, rfl⟩ := none0_inv hc
  obtain ⟨dx, hp⟩ := S.ins
  refine ⟨_, pss_cons (ps_set (i := 2) scSteps.nd rfl (Or.inl rfl) (C8.pe_c cO hr (by decide) (by rfl) (pa_cons (pe_fld (pv 0) rfl) (pa_cons (pe_fld (pv 0) rfl) pa_nil))))
    (pss_one (ps_ret (pe_op op_cat (pe_lst (pa_cons (pe_callB call_len_seq (by rfl) B.len PySem.boot_len (pa_cons (pv 2) pa_nil)) pa_nil)) (pv 2)))), ?_⟩
  have v1 := Va.few
  have v2 := Va.room
  refine ⟨_, rfl, p, C, dx, _, _, rfl, hp, T.cl, T.nK, stF_kinds _ _ _ _, _, rfl, p, C, dx, _, _, rfl, hp, T.cl, T.nP, stF_places _ _ _ _, ka, as, a, a.room, rfl, S.rows, by omega, by omega, fun H1 oa s1 noa ho => ?_⟩
  refine ⟨_, rfl, oa, _, rfl, .inl (SqL.of ho), one_le, fun q nq => ?_⟩
  rw [vn_len]
  have s2 := same_upd (o := .lst [.int (((a.steps a.room a.none_).length : Nat) : Int)]) nq
  have := MA.steps_len (a := a) a.room a.none_
  refine ⟨_, rfl, q, oa, _, _, rfl, rfl, upd_same, s2 _ _ ho, small' (by rw [vn_len]; show 1 + _ ≤ _; omega), fun r nr => ?_⟩
  exact k.same S ((s1.trans s2).trans (same_upd nr)) upd_same ((s1.trans s2).free nr)
/-! ### tell_value -/
abbrev asValue : List Nat → Option Su90.Call := MA.row .value
theorem scValue : FnScope ["store", "numbers", "together"] ["store", "numbers"] (defScope sValue) := ⟨rfl, rfl, rfl, by decide +kernel, rfl, by decide +kernel, by decide +kernel⟩
theorem ok_value {f : Addr} {fd : FuncData} (F : Fun K "tell_value" "tell_value" sValue f fd) (B : Bt mg) (N : Nums mg) (T : Txt K mg C) (cI : C8.Cal P w K mg base 1 "is_sharing" spIs []) (cT : C8.Cal P w K mg base 1 "worth_together" spTogether []) (cW : C8.Cal P w K mg base 4 "worth_told" spWorth []) : FnOk P w K mg base CX0 5 f fd ["store", "numbers"] (spDo C asValue) := by
  refine F.ok scValue (fun vs H Q E h => sp_len h) (fun cdv A outer s H vs Q E hr h => ?_)
  obtain ⟨Z, p, l, ka, sa, as, ss, a, nums, c, rfl, hl, hc, S, Va, hZ, nl, k⟩ := h
  obtain rfl : Su90.Call.value nums = c := Option.some.inj hc
  obtain ⟨dx, hp⟩ := S.ins
  have v1 := Va.few
  have v2 := Va.room
  refine ⟨_, pss_cons (ps_if (pt_not (pt_val (C8.pe_c cI hr (by decide) (by rfl) (pa_cons (pe_fld (pv 0) rfl) (pa_cons (pv 1) pa_nil))))) (pss_one (ps_ret (pe_lst (pa_cons (pe_num N.outOf) pa_nil)))) pss_nil)
    (pss_cons (ps_if (pt_cmpR op_gt (pe_callB (cr_sum rfl) (by rfl) B.sum (by decide +kernel) (pa_cons (pv 1) pa_nil)) (pe_fld (pv 0) rfl) (nomark _)) (pss_one (ps_ret (pe_lst (pa_cons (pe_num N.tooMany) pa_nil)))) pss_nil)
    (pss_cons (ps_set (i := 2) scValue.nd rfl (Or.inl rfl) (C8.pe_c cT hr (by decide) (by rfl) (pa_cons (pe_fld (pv 0) rfl) (pa_cons (pv 1) pa_nil))))
    (pss_one (ps_ret (pe_lst (pa_cons (pv 2) (pa_cons (pe_op op_sub (C8.pe_c cW hr (by decide) (by rfl) (pa_cons (pe_fld (pv 0) rfl) (pa_cons (pe_fld (pv 0) rfl) pa_nil))) (pv 2)) pa_nil))))))), ?_⟩
  refine ⟨_, rfl, p, C, dx, _, _, rfl, hp, T.cl, T.nK, stF_kinds _ _ _ _, _, rfl, ka, l, as, a, nums, rfl, S.rows, hl, by omega, fun H1 s1 => ⟨_, rfl, ?_⟩⟩
  have hd : Su90.does a (.value nums) = if a.fits nums = false then (a, Su90.no (-22)) else if a.room < nums.sum then (a, Su90.no (-28)) else (a, Su90.num (a.value nums) [a.value (a.best a.room) - a.value nums]) := rfl
  cases e : a.fits nums with
  | false =>
    refine if_true_of (c := !false) rfl ?_
    refine ⟨one_le, fun q nq => ?_⟩
    rw [hd, if_pos e] at k
    exact k.same S (s1.trans (same_upd nq)) upd_same (s1.free nq)
  | true =>
    refine if_false_of (c := !true) rfl ?_
    rw [hd, if_neg (by rw [e]; exact fun z => by cases z)] at k
    obtain ⟨f1, f2⟩ := MA.fits_iff.mp e
    refine ⟨_, rfl, l, nums.map (fun n : Nat => (n : Int)), rfl, by rw [← vn_ints]; exact SqL.of (s1 _ _ hl), _, rfl, p, C, dx, _, _, rfl, s1 _ _ hp, T.cl, T.nP, stF_places _ _ _ _, _, _, rfl, rfl, _, rfl, ?_⟩
    rw [MA.sum_cast]
    refine ite2 (fun c => ?_) (fun c => ?_)
    · have c' : a.room < nums.sum := Int.ofNat_lt.mp (of_decide_eq_true c)
      rw [if_pos c'] at k
      exact ⟨one_le, fun q nq => k.same S (s1.trans (same_upd nq)) upd_same (s1.free nq)⟩
    · have c' : ¬ a.room < nums.sum := fun q => c (decide_eq_true (Int.ofNat_lt.mpr q))
      rw [if_neg c'] at k
      refine ⟨_, rfl, p, C, dx, _, _, rfl, s1 _ _ hp, T.cl, T.nK, stF_kinds _ _ _ _, _, rfl, ka, l, as, a.kinds, nums, rfl, S.rows.same s1, s1 _ _ hl, f1, by omega, fun H2 s2 => ?_⟩
      have s12 := s1.trans s2
      refine ⟨_, rfl, _, rfl, p, C, dx, _, _, rfl, s12 _ _ hp, T.cl, T.nK, stF_kinds _ _ _ _, _, rfl, p, C, dx, _, _, rfl, s12 _ _ hp, T.cl, T.nP, stF_places _ _ _ _, ka, as, a, a.room, rfl, S.rows.same s12, by omega, by omega, fun H3 s3 => ?_⟩
      have s13 := s12.trans s3
      refine ⟨_, rfl, _, _, rfl, rfl, (by show 2 ≤ sizeLine; decide), fun q nq => ?_⟩
      refine k.same S (s13.trans (same_upd nq)) ?_ (s13.free nq)
      rw [upd_same]
      have le := MA.best_most (MA.falls_of Va.falls) (r := a.room) f1 f2 (by omega)
      rw [MA.value_zsum f1] at le ⊢
      show some (HO.lst [V.int ((MA.zsum a.kinds nums : Nat) : Int), V.int (((a.value (a.best a.room) : Nat) : Int) - ((MA.zsum a.kinds nums : Nat) : Int))]) = some (HO.lst [V.int ((MA.zsum a.kinds nums : Nat) : Int), V.int ((a.value (a.best a.room) - MA.zsum a.kinds nums : Nat) : Int)])
      rw [cast_sub le]
/-! ### tell_worth -/
theorem scTellWorth : FnScope ["store", "numbers", "k", "pieces", "worths"] ["store", "numbers"] (defScope sTellWorth) := ⟨rfl, rfl, rfl, by decide +kernel, rfl, by decide +kernel, by decide +kernel⟩
theorem ok_tellWorth {f : Addr} {fd : FuncData} (F : Fun K "tell_worth" "tell_worth" sTellWorth f fd) (B : Bt mg) (N : Nums mg) (T : Txt K mg C) (cO : C8.Cal P w K mg base 1 "worth_of_one_more" spOne []) : FnOk P w K mg base CX0 2 f fd ["store", "numbers"] (spDo C (both .worth)) := by
  refine F.ok scTellWorth (fun vs H Q E h => sp_len h) (fun cdv A outer s H vs Q E hr h => ?_)
  obtain ⟨Z, p, l, ka, sa, as, ss, a, nums, c, rfl, hl, hc, S, Va, hZ, nl, k⟩ := h
  obtain ⟨x, y, rfl, rfl⟩ := both_inv hc
  obtain ⟨dx, hp⟩ := S.ins
  refine ⟨_, pss_cons (ps_set (i := 2) scTellWorth.nd rfl (Or.inl rfl) (pe_ix ix_list (pv 1) pe_int (fun _ _ => rfl))) (pss_cons (ps_set (i := 3) scTellWorth.nd rfl (Or.inl rfl) (pe_ix ix_list (pv 1) pe_int (fun _ _ => rfl)))
    (pss_cons (ps_if (pt_cmpR op_ge (pv 2) (pe_callB call_len_seq (by rfl) B.len PySem.boot_len (pa_cons (pe_fld (pv 0) rfl) pa_nil)) (nomark _)) (pss_one (ps_ret (pe_lst (pa_cons (pe_num N.noneSuch) pa_nil)))) pss_nil)
    (pss_cons (ps_set (i := 4) scTellWorth.nd rfl (Or.inl rfl) (pe_ix ix_list (pe_fld (pv 0) rfl) (pv 2) (fun _ _ => rfl)))
    (pss_cons (ps_if (pt_cmpR op_gt (pv 3) (pe_callB call_len_seq (by rfl) B.len PySem.boot_len (pa_cons (pv 4) pa_nil)) (nomark _)) (pss_one (ps_ret (pe_lst (pa_cons (pe_num N.outOf) pa_nil)))) pss_nil)
    (pss_one (ps_ret (pe_lst (pa_cons (pe_callB (cr_sum rfl) (by rfl) B.sum (by decide +kernel) (pa_cons (pe_slice sl_list (pv 4) po_none (po_some (pv 3))) pa_nil)) (pa_cons (C8.pe_c cO hr (by decide) (by rfl) (pa_cons (pv 4) (pa_cons (pv 3) pa_nil))) pa_nil))))))))), ?_⟩
  refine ⟨_, rfl, l, _, _, _, rfl, rfl, SqL.of hl, at_vn (i := 0) (Nat.succ_pos 1), _, rfl, l, _, _, _, rfl, rfl, SqL.of hl, at_vn (i := 1) (Nat.lt_succ_self 1), _, rfl, _, rfl, p, C, dx, _, _, rfl, hp, T.cl, T.nK, stF_kinds _ _ _ _, ka, _, rfl, .inl (SqL.of S.rows.lst), _, _, rfl, rfl, _, rfl, ?_⟩
  rw [List.length_map, S.rows.len]
  have hd : Su90.does a (.worth x y) = if a.isK x = false then (a, Su90.no (-2)) else if (a.gains x).length < y then (a, Su90.no (-22)) else (a, Su90.num (((a.gains x).take y).sum) [(a.gains x).getD y 0]) := rfl
  refine ite2 (fun c => ?_) (fun c => ?_)
  · have c' : ¬ x < a.kinds.length := by
      have : (a.kinds.length : Int) ≤ (x : Int) := of_decide_eq_true c
      omega
    rw [hd, if_pos (isK_no c')] at k
    exact ⟨one_le, fun q nq => k.same S (same_upd nq) upd_same nq⟩
  · have c' : x < a.kinds.length := by
      have : ¬ ((a.kinds.length : Int) ≤ (x : Int)) := fun q => c (decide_eq_true q)
      omega
    rw [hd, if_neg (isK_yes c')] at k
    obtain ⟨b, hb, hbl⟩ := S.rows.get c'
    have hbl : H b = some (.lst (vn (a.gains x))) := hbl
    refine ⟨_, rfl, p, C, dx, _, _, rfl, hp, T.cl, T.nK, stF_kinds _ _ _ _, _, rfl, ka, _, _, _, rfl, rfl, SqL.of S.rows.lst, atI_nat (j := x) (v := .ref b) (by rw [List.getElem?_map, hb]; rfl), _, rfl, _, rfl, b, _, rfl, .inl (SqL.of hbl), _, _, rfl, rfl, _, rfl, ?_⟩
    rw [vn_len]
    refine ite2 (fun c => ?_) (fun c => ?_)
    · have c2 : (a.gains x).length < y := Int.ofNat_lt.mp (of_decide_eq_true c)
      rw [if_pos c2] at k
      exact ⟨one_le, fun q nq => k.same S (same_upd nq) upd_same nq⟩
    · have c2 : ¬ (a.gains x).length < y := fun q => c (decide_eq_true (Int.ofNat_lt.mpr q))
      rw [if_neg c2] at k
      refine ⟨_, rfl, _, rfl, _, rfl, b, _, rfl, SqL.of hbl, fun ta nta => ?_⟩
      have ec : cutV (vn (a.gains x)) none (some (((([x, y] : List Nat).getD 1 0 : Nat)) : Int)) = vn ((a.gains x).take y) := by
        rw [← vn_take]
        exact cut_to _ y
      rw [ec]
      have s1 := same_upd (o := .lst (vn ((a.gains x).take y))) nta
      refine ⟨ta, ((a.gains x).take y).map (fun n : Nat => (n : Int)), rfl, by rw [← vn_ints]; exact SqL.of upd_same, _, rfl, _, rfl, b, _, y, rfl, s1 _ _ hbl, (by show 2 ≤ sizeLine; decide), fun q nq => ?_⟩
      refine k.same S (s1.trans (same_upd nq)) ?_ (s1.free nq)
      rw [upd_same, MA.sum_cast]
      rfl
/-! ### tell_without -/
theorem scWithout : FnScope ["store", "numbers", "k", "left"] ["store", "numbers"] (defScope sWithout) := ⟨rfl, rfl, rfl, by decide +kernel, rfl, by decide +kernel, by decide +kernel⟩
theorem ok_without {f : Addr} {fd : FuncData} (F : Fun K "tell_without" "tell_without" sWithout f fd) (B : Bt mg) (N : Nums mg) (T : Txt K mg C) (cB : C8.Cal P w K mg base 1 "all_but" spBut []) (cW : C8.Cal P w K mg base 4 "worth_told" spWorth []) : FnOk P w K mg base CX0 5 f fd ["store", "numbers"] (spDo C (one .without)) := by
  refine F.ok scWithout (fun vs H Q E h => sp_len h) (fun cdv A outer s H vs Q E hr h => ?_)
  obtain ⟨Z, p, l, ka, sa, as, ss, a, nums, c, rfl, hl, hc, S, Va, hZ, nl, k⟩ := h
  obtain ⟨x, rfl, rfl⟩ := one_inv hc
  obtain ⟨dx, hp⟩ := S.ins
  have v1 := Va.few
  have v2 := Va.room
  refine ⟨_, pss_cons (ps_set (i := 2) scWithout.nd rfl (Or.inl rfl) (pe_ix ix_list (pv 1) pe_int (fun _ _ => rfl)))
    (pss_cons (ps_if (pt_cmpR op_ge (pv 2) (pe_callB call_len_seq (by rfl) B.len PySem.boot_len (pa_cons (pe_fld (pv 0) rfl) pa_nil)) (nomark _)) (pss_one (ps_ret (pe_lst (pa_cons (pe_num N.noneSuch) pa_nil)))) pss_nil)
    (pss_cons (ps_set (i := 3) scWithout.nd rfl (Or.inl rfl) (C8.pe_c cW hr (by decide) (by rfl) (pa_cons (C8.pe_c cB hr (by decide) (by rfl) (pa_cons (pe_fld (pv 0) rfl) (pa_cons (pv 2) pa_nil))) (pa_cons (pe_fld (pv 0) rfl) pa_nil))))
    (pss_one (ps_ret (pe_lst (pa_cons (pv 3) (pa_cons (pe_op op_sub (C8.pe_c cW hr (by decide) (by rfl) (pa_cons (pe_fld (pv 0) rfl) (pa_cons (pe_fld (pv 0) rfl) pa_nil))) (pv 3)) pa_nil))))))), ?_⟩
  refine ⟨_, rfl, l, _, _, _, rfl, rfl, SqL.of hl, at_vn (i := 0) Nat.zero_lt_one, _, rfl, _, rfl, p, C, dx, _, _, rfl, hp, T.cl, T.nK, stF_kinds _ _ _ _, ka, _, rfl, .inl (SqL.of S.rows.lst), _, _, rfl, rfl, _, rfl, ?_⟩
  rw [List.length_map, S.rows.len]
  have hd : Su90.does a (.without x) = if a.isK x = false then (a, Su90.no (-2)) else (a, Su90.num ((a.dropped x).value ((a.dropped x).best a.room)) [a.value (a.best a.room) - (a.dropped x).value ((a.dropped x).best a.room)]) := rfl
  refine ite2 (fun c => ?_) (fun c => ?_)
  · have c' : ¬ x < a.kinds.length := by
      have : (a.kinds.length : Int) ≤ (x : Int) := of_decide_eq_true c
      omega
    rw [hd, if_pos (isK_no c')] at k
    exact ⟨one_le, fun q nq => k.same S (same_upd nq) upd_same nq⟩
  · have c' : x < a.kinds.length := by
      have : ¬ ((a.kinds.length : Int) ≤ (x : Int)) := fun q => c (decide_eq_true q)
      omega
    rw [hd, if_neg (isK_yes c')] at k
    have l0 : (as.map V.ref).length = a.kinds.length := by rw [List.length_map, S.rows.len]
    refine ⟨_, rfl, p, C, dx, _, _, rfl, hp, T.cl, T.nK, stF_kinds _ _ _ _, _, rfl, ka, _, x, rfl, S.rows.lst, by rw [l0]; exact c', by omega, fun H1 kb s1 nkb hkb => ?_⟩
    have R1 : RowsAt H1 kb (as.eraseIdx x) (a.dropped x).kinds := (S.rows.same s1).erase x hkb
    have l1 : (a.dropped x).kinds.length ≤ 100 := by
      show (a.kinds.eraseIdx x).length ≤ 100
      rw [List.length_eraseIdx]
      split <;> omega
    refine ⟨_, rfl, p, C, dx, _, _, rfl, s1 _ _ hp, T.cl, T.nP, stF_places _ _ _ _, kb, _, a.dropped x, a.room, rfl, R1, l1, by omega, fun H2 s2 => ?_⟩
    have s12 := s1.trans s2
    refine ⟨_, rfl, _, rfl, p, C, dx, _, _, rfl, s12 _ _ hp, T.cl, T.nK, stF_kinds _ _ _ _, _, rfl, p, C, dx, _, _, rfl, s12 _ _ hp, T.cl, T.nP, stF_places _ _ _ _, ka, as, a, a.room, rfl, S.rows.same s12, by omega, by omega, fun H3 s3 => ?_⟩
    have s13 := s12.trans s3
    refine ⟨_, rfl, _, _, rfl, rfl, (by show 2 ≤ sizeLine; decide), fun q nq => ?_⟩
    refine k.same S (s13.trans (same_upd nq)) ?_ (s13.free nq)
    rw [upd_same]
    have le := MA.drop_le (r := a.room) Va.falls c'
    show some (HO.lst [V.int (((a.dropped x).value ((a.dropped x).best a.room) : Nat) : Int), V.int (((a.value (a.best a.room) : Nat) : Int) - (((a.dropped x).value ((a.dropped x).best a.room) : Nat) : Int))]) = _
    rw [cast_sub le]
    rfl
/-! ### tell_would -/
abbrev asWould : List Nat → Option Su90.Call := MA.row .would
theorem scWould : FnScope ["store", "numbers", "refusal"] ["store", "numbers"] (defScope sWould) := ⟨rfl, rfl, rfl, by decide +kernel, rfl, by decide +kernel, by decide +kernel⟩
theorem ok_would {f : Addr} {fd : FuncData} (F : Fun K "tell_would" "tell_would" sWould f fd) (T : Txt K mg C) (cR : C8.Cal P w K mg base 3 "refusal_of_kind" spRefusal []) (cW : C8.Cal P w K mg base 5 "worth_and_sharing" spWs []) : FnOk P w K mg base CX0 6 f fd ["store", "numbers"] (spDo C asWould) := by
  refine F.ok scWould (fun vs H Q E h => sp_len h) (fun cdv A outer s H vs Q E hr h => ?_)
  obtain ⟨Z, p, l, ka, sa, as, ss, a, nums, c, rfl, hl, hc, S, Va, hZ, nl, k⟩ := h
  obtain rfl : Su90.Call.would nums = c := Option.some.inj hc
  obtain ⟨dx, hp⟩ := S.ins
  have v1 := Va.few
  have v2 := Va.room
  refine ⟨_, pss_cons (ps_set (i := 2) scWould.nd rfl (Or.inl rfl) (C8.pe_c cR hr (by decide) (by rfl) (pa_cons (pe_fld (pv 0) rfl) (pa_cons (pv 1) pa_nil))))
    (pss_cons (ps_if (pt_cmpR op_notN (pv 2) pe_non (nomark _)) (pss_one (ps_ret (pe_lst (pa_cons (pv 2) pa_nil)))) pss_nil)
    (pss_one (ps_ret (C8.pe_c cW hr (by decide) (by rfl) (pa_cons (pe_op op_cat (pe_fld (pv 0) rfl) (pe_lst (pa_cons (pv 1) pa_nil))) (pa_cons (pe_fld (pv 0) rfl) pa_nil)))))), ?_⟩
  refine ⟨_, rfl, p, C, dx, _, _, rfl, hp, T.cl, T.nK, stF_kinds _ _ _ _, _, rfl, ka, l, _, nums, rfl, S.rows.lst, hl, fun H1 s1 => ?_⟩
  refine ⟨_, rfl, rfl, _, rfl, ?_⟩
  rw [List.length_map, S.rows.len]
  have hd : Su90.does a (.would nums) = if Su90.Abs.okG nums = false then (a, Su90.no (-22)) else if Su90.KINDS ≤ a.kinds.length then (a, Su90.no (-28)) else (a, Su90.num (({ a with kinds := a.kinds ++ [nums] } : Su90.Abs).value (({ a with kinds := a.kinds ++ [nums] } : Su90.Abs).best a.room)) (({ a with kinds := a.kinds ++ [nums] } : Su90.Abs).best a.room)) := rfl
  rw [hd] at k
  cases e : Su90.Abs.okG nums with
  | false =>
    rw [if_pos e] at k
    refine if_true_of rfl ?_
    exact ⟨_, rfl, one_le, fun q nq => k.same S (s1.trans (same_upd nq)) upd_same (s1.free nq)⟩
  | true =>
    rw [if_neg (by rw [e]; exact fun z => by cases z)] at k
    by_cases c5 : a.kinds.length = 5
    · rw [if_pos (show Su90.KINDS ≤ a.kinds.length from Nat.le_of_eq c5.symm)] at k
      rw [c5]
      refine if_true_of rfl ?_
      exact ⟨_, rfl, one_le, fun q nq => k.same S (s1.trans (same_upd nq)) upd_same (s1.free nq)⟩
    · rw [if_neg (show ¬ Su90.KINDS ≤ a.kinds.length from fun z => c5 (Nat.le_antisymm v1 z))] at k
      have er : refV true a.kinds.length = .non := by
        unfold refV
        rw [if_neg (by intro z; cases z), if_neg c5]
      rw [er]
      refine if_false_of rfl ?_
      refine ⟨_, rfl, p, C, dx, _, _, rfl, s1 _ _ hp, T.cl, T.nK, stF_kinds _ _ _ _, _, rfl, one_le, fun la nla => ?_⟩
      have s2 := s1.trans (same_upd (o := .lst [.ref l]) nla)
      refine ⟨ka, la, _, _, rfl, rfl, s2 _ _ S.rows.lst, upd_same, small' (by rw [List.length_map, S.rows.len]; show a.kinds.length + 1 ≤ _; omega), fun kb nkb => ?_⟩
      have s3 := s2.trans (same_upd (o := .lst (as.map V.ref ++ [.ref l])) nkb)
      have R : RowsAt (upd (upd H1 la (.lst [.ref l])) kb (.lst (as.map V.ref ++ [.ref l]))) kb (as ++ [l]) (a.kinds ++ [nums]) := by
        refine ((S.rows.same s2).move (a' := kb) (H' := upd (upd H1 la (.lst [.ref l])) kb (.lst (as.map V.ref))) upd_same fun b hb o e => ?_).push (s3 _ _ hl) upd_same fun b hb o e => ?_
        · rw [upd_ne (ne_of_none e nkb)]
          exact e
        · obtain ⟨o', e'⟩ := S.rows.has hb
          have nb : b ≠ kb := ne_of_none (s2 _ _ e') nkb
          rw [upd_ne nb] at e ⊢
          exact e
      refine ⟨_, rfl, p, C, dx, _, _, rfl, s3 _ _ hp, T.cl, T.nP, stF_places _ _ _ _, kb, as ++ [l], { a with kinds := a.kinds ++ [nums] }, a.room, rfl, R, (by show (a.kinds ++ [nums]).length ≤ 100; rw [List.length_append]; show a.kinds.length + 1 ≤ 100; omega), by omega, fun H2 q s4 nq hq => ?_⟩
      exact k.same S (s3.trans s4) hq (s3.free nq)
end
end Su
namespace Su
open PySem PySem.Spec PyProof.Rows L2
abbrev sStarts : Stmt := top 37
abbrev sAreSteps : Stmt := top 38
abbrev sAddS : Stmt := top 39
abbrev sAway : Stmt := top 40
/-! ### rising, pair by pair -/
def zr (l : List Nat) : List Bool := List.zipWith (fun b a => decide (b < a)) l l.tail
theorem zr_all : ∀ l : List Nat, (zr l).all id = MA.rising l
  | [] => rfl
  | [_] => rfl
  | x :: y :: l => by
    have ih := zr_all (y :: l)
    show (decide (x < y) && (zr (y :: l)).all id) = (decide (x < y) && MA.rising (y :: l))
    rw [ih]
theorem zr_len (l : List Nat) : (zr l).length = l.length - 1 := by unfold zr; simp
theorem zr_get {l : List Nat} {i : Nat} (h : i + 1 < l.length) : (zr l)[i]? = some (decide (l.getD i 0 < l.getD (i + 1) 0)) := by
  unfold zr
  have h1 : i < l.length := by omega
  have h2 : i < l.tail.length := by rw [List.length_tail]; omega
  rw [List.getElem?_zipWith, List.getElem?_eq_getElem h1, List.getElem?_eq_getElem h2, List.getD_eq_getElem?_getD, List.getD_eq_getElem?_getD, List.getElem?_eq_getElem h1, List.getElem?_eq_getElem h]
  simp
/-- whether steps may be from so many on -/
def okStarts (l : List Nat) : Bool := decide (l.getD 0 0 = 1) && (l.all (fun x => decide (x ≤ 60)) && MA.rising l)
section
variable {P : Program} {w : World} {K : PySem.W.Frag} {mg : Str → Option Value} {base : Heap} {C : Addr}
/-! ### are_starts -/
def spStarts : Sp := fun vs H Q _ => ∃ (sa : Addr) (l : List Nat), vs = [.ref sa] ∧ H sa = some (.lst (vn l)) ∧ 1 ≤ l.length ∧ l.length ≤ 100 ∧ ∀ H', Same H H' → Q (.bl (okStarts l)) H'
theorem scStarts : FnScope ["starts", "before", "after"] ["starts"] (defScope sStarts) := ⟨rfl, rfl, rfl, by decide +kernel, rfl, by decide +kernel, by decide +kernel⟩
theorem ok_starts {f : Addr} {fd : FuncData} (F : Fun K "are_starts" "are_starts" sStarts f fd) (B : Bt mg) (N : Nums mg) : FnOk P w K mg base CX0 1 f fd ["starts"] spStarts := by
  refine F.ok scStarts (fun vs H Q E h => ?_) (fun cdv A outer s H vs Q E hr h => ?_)
  · obtain ⟨sa, l, rfl, _⟩ := h
    rfl
  · obtain ⟨sa, l, rfl, hm, l1, l2, k⟩ := h
    refine ⟨_, pss_cons (ps_if (pw_or (pt_cmpR op_ne (pe_ix ix_list (pv 0) pe_int (fun _ _ => rfl)) pe_int (nomark _)) (pw_or1 (pt_cmpR op_gt (pe_callB (cr_max rfl) (by rfl) B.max (by decide +kernel) (pa_cons (pv 0) pa_nil)) (pe_num N.mBought) (nomark _)))).pt (pss_one (ps_ret pe_bl)) pss_nil)
      (pss_one (ps_ret (pe_callB (cr_all rfl) (by rfl) B.all (by decide +kernel) (pa_cons (pe_lc (own := [("before", 1), ("after", 2)]) (g := gTup K 2 (gCons (gName 1) (gCons (gName 2) gNil))) (tt := tYes)
        (te := tOp (rI0 fun i j => .bl (decide (i > j))) (tVar 2) (tVar 1)) rfl scStarts.nd (pi_zip (by rfl) B.zip (pa_cons (pv 0) (pa_cons (pe_slice sl_list (pv 0) (po_some pe_int) po_none) pa_nil)))
        (blkOk_by (N := ["starts", "before", "after"]) (sc := defScope sStarts) (by decide +kernel)) (fun _ _ _ _ _ => pg_tup rfl (pgs_cons (pg_name (i := 1) scStarts.nd rfl (Or.inl rfl)) (pgs_cons (pg_name (i := 2) scStarts.nd rfl (Or.inl rfl)) pgs_nil))) (fun _ _ _ _ _ => pts_nil)
        (fun _ _ _ _ _ => pe_cmpR op_gt (pv 2) (pv 1) rfl)) pa_nil)))), ?_⟩
    have k0 := k H (Same.refl H)
    refine ⟨_, rfl, sa, _, _, _, rfl, rfl, SqL.of hm, at_vn (i := 0) (by omega), rfl, _, rfl, ?_⟩
    by_cases c1 : l.getD 0 0 = 1
    · refine if_false_of (by rw [c1]; rfl) ?_
      refine ⟨_, rfl, sa, l.map (fun n : Nat => (n : Int)), rfl, by rw [vn_map_int]; exact SqL.of hm, by rw [List.length_map]; omega, fun M hM hle => ?_⟩
      refine ⟨_, _, rfl, rfl, _, rfl, ?_⟩
      obtain ⟨m, hm1, rfl⟩ := List.mem_map.mp hM
      refine ite2 (fun c => ?_) (fun c => ?_)
      · have c' : (60 : Int) < (m : Int) := of_decide_eq_true c
        have e : (l.all fun x => decide (x ≤ 60)) = false := by
          rw [List.all_eq_false]
          exact ⟨m, hm1, by rw [decide_eq_true_eq]; omega⟩
        unfold okStarts at k0
        rw [e, Bool.false_and, Bool.and_false] at k0
        exact k0
      · have c3 : ∀ x ∈ l, x ≤ 60 := fun x hx => by
          have h1 := hle (x : Int) (List.mem_map.mpr ⟨x, hx, rfl⟩)
          have h2 : ¬ (60 < (m : Int)) := fun q => c (decide_eq_true q)
          omega
        have e : (l.all fun x => decide (x ≤ 60)) = true := by
          rw [List.all_eq_true]
          exact fun x hx => decide_eq_true (c3 x hx)
        unfold okStarts at k
        rw [e, decide_eq_true c1, Bool.true_and, Bool.true_and] at k
        refine ⟨_, rfl, _, rfl, _, rfl, sa, _, rfl, SqL.of hm, fun ta nta => ?_⟩
        rw [show (1 : Int) = ((1 : Nat) : Int) from rfl, cut_from, vn_drop]
        have s0 := same_upd (o := .lst (vn (l.drop 1))) nta
        refine ⟨sa, ta, _, _, rfl, SqL.of (s0 _ _ hm), SqL.of upd_same, fun D nD => ?_⟩
        have hn : l.length - 1 = min (vn l).length (vn (l.drop 1)).length := by rw [vn_len, vn_len, List.length_drop]; omega
        have hta : (upd H ta (.lst (vn (l.drop 1)))) ta = some (.lst (vn (l.drop 1))) := upd_same
        refine lc_it (walk_zip (K := K) (a := sa) (b := ta) (xs := vn l) (ys := vn (l.drop 1)) hn) (fun i H' => Same (upd H ta (.lst (vn (l.drop 1)))) H' ∧ H' D = some (.lst (((zr l).take i).map V.bl)))
          ⟨same_upd nD, upd_same⟩ (fun i H' _ p => ⟨SqL.of (p.1 _ _ (s0 _ _ hm)), SqL.of (p.1 _ _ hta)⟩) ?_ ?_
        · rintro i x H1 H2 hi ⟨s1, h1⟩ ⟨T, x1, x2, rfl, nT, rfl, e1, e2⟩
          have e1 : (vn l)[i]? = some x1 := e1
          have e2 : (vn (l.drop 1))[i]? = some x2 := e2
          have hi1 : i < l.length := by omega
          have hi2 : i + 1 < l.length := by omega
          rw [vn_get, get_of hi1] at e1
          rw [vn_get, List.getElem?_drop, Nat.add_comm 1 i, get_of hi2] at e2
          have ex1 : x1 = .int ((l.getD i 0 : Nat) : Int) := (Option.some.inj e1).symm
          have ex2 : x2 = .int ((l.getD (i + 1) 0 : Nat) : Int) := (Option.some.inj e2).symm
          subst ex1
          subst ex2
          have s2 : Same H1 (upd H1 T (.tup [.int ((l.getD i 0 : Nat) : Int), .int ((l.getD (i + 1) 0 : Nat) : Int)])) := same_upd nT
          refine ⟨T, _, rfl, SqT.of upd_same, rfl, _, _, rfl, _, _, rfl, rfl, rfl, ?_⟩
          refine ⟨_, rfl, _, rfl, _, _, rfl, rfl, _, s2 _ _ h1, small (by rw [List.length_map, List.length_take]; have := zr_len l; omega), (s1.trans s2).upd_free nD, ?_⟩
          rw [upd_same, take_snoc (zr_get hi2), List.map_append]
          have ed : decide (((l.getD (i + 1) 0 : Nat) : Int) > ((l.getD i 0 : Nat) : Int)) = decide (l.getD i 0 < l.getD (i + 1) 0) := by
            by_cases c : l.getD i 0 < l.getD (i + 1) 0
            · rw [decide_eq_true c, decide_eq_true (by omega)]
            · rw [decide_eq_false c, decide_eq_false (by omega)]
          show some (HO.lst (_ ++ [V.bl (decide (((l.getD (i + 1) 0 : Nat) : Int) > ((l.getD i 0 : Nat) : Int)))])) = _
          rw [ed]
          rfl
        · rintro H1 ⟨s1, h1⟩
          rw [List.take_of_length_le (by rw [zr_len]; omega)] at h1
          refine ⟨D, zr l, rfl, SqL.of h1, ?_⟩
          rw [zr_all]
          exact k H1 (s0.trans s1)
    · unfold okStarts at k0
      rw [decide_eq_false c1, Bool.false_and] at k0
      have hne : decide (V.int ((l.getD 0 0 : Nat) : Int) = V.int 1) = false := decide_eq_false fun z => c1 (by injection z with z; omega)
      exact if_true_of (by rw [hne]; rfl) k0
/-! ### are_steps -/
def okSt (l : List Nat) : Bool := decide (l.length % 2 = 0) && Su90.okS (Su90.pairs l)
theorem okSt_odd {l : List Nat} (h : ¬ l.length % 2 = 0) : okSt l = false := by unfold okSt; rw [decide_eq_false h]; rfl
theorem okSt_short {l : List Nat} (h : l.length < 2 ∨ 8 < l.length) : okSt l = false := by
  rw [Bool.eq_false_iff]
  intro z
  unfold okSt at z
  rw [Bool.and_eq_true, MA.okS_iff, MA.pairs_len, decide_eq_true_eq] at z
  omega
theorem okSt_eq {l : List Nat} (h0 : l.length % 2 = 0) (h1 : 2 ≤ l.length) (h2 : l.length ≤ 8) : okSt l = ((MA.odds l).all (fun x => decide (x ≤ 1000)) && (Su90.falling (MA.odds l) && okStarts (MA.evens l))) := by
  have hp := MA.pairs_len l
  rw [Bool.eq_iff_iff]
  unfold okSt okStarts
  rw [Bool.and_eq_true, MA.okS_iff, decide_eq_true_eq]
  simp only [Bool.and_eq_true, decide_eq_true_eq, List.all_eq_true]
  show _ ∧ _ ∧ _ ∧ _ ∧ MA.rising (MA.evens l) = true ∧ Su90.falling (MA.odds l) = true ∧ _ ∧ _ ↔ _
  constructor
  · rintro ⟨_, _, _, q1, q2, q3, q4, q5⟩
    exact ⟨q5, q3, q1, q4, q2⟩
  · rintro ⟨q5, q3, q1, q4, q2⟩
    exact ⟨h0, by omega, by omega, q1, q2, q3, q4, q5⟩
def spAreSteps : Sp := fun vs H Q _ => ∃ (sa : Addr) (l : List Nat), vs = [.ref sa] ∧ H sa = some (.lst (vn l)) ∧ ∀ H', Same H H' → Q (.bl (okSt l)) H'
theorem scAreSteps : FnScope ["numbers", "asked"] ["numbers"] (defScope sAreSteps) := ⟨rfl, rfl, rfl, by decide +kernel, rfl, by decide +kernel, by decide +kernel⟩
theorem ok_areSteps {f : Addr} {fd : FuncData} (F : Fun K "are_steps" "are_steps" sAreSteps f fd) (B : Bt mg) (N : Nums mg) (cN : C8.Cal P w K mg base 1 "none_above_the_one_before" spNab []) (cS : C8.Cal P w K mg base 1 "are_starts" spStarts []) : FnOk P w K mg base CX0 2 f fd ["numbers"] spAreSteps := by
  refine F.ok scAreSteps (fun vs H Q E h => ?_) (fun cdv A outer s H vs Q E hr h => ?_)
  · obtain ⟨sa, l, rfl, _⟩ := h
    rfl
  · obtain ⟨sa, l, rfl, hm, k⟩ := h
    refine ⟨_, pss_cons (ps_if (pw_or (pt_cmpR op_ne (pe_op op_mod (pe_callB call_len_seq (by rfl) B.len PySem.boot_len (pa_cons (pv 0) pa_nil)) pe_int) pe_int (nomark _))
        (pw_or (pt_cmpR op_lt (pe_callB call_len_seq (by rfl) B.len PySem.boot_len (pa_cons (pv 0) pa_nil)) pe_int (nomark _))
        (pw_or1 (pt_cmpR op_gt (pe_callB call_len_seq (by rfl) B.len PySem.boot_len (pa_cons (pv 0) pa_nil)) (pe_op op_mul pe_int (pe_num N.mSteps)) (nomark _))))).pt (pss_one (ps_ret pe_bl)) pss_nil)
      (pss_cons (ps_set (i := 1) scAreSteps.nd rfl (Or.inl rfl) (pe_slice3 (pv 0) (po_some pe_int) po_none (po_some pe_int)))
      (pss_cons (ps_if (pw_or (pt_cmpR op_gt (pe_callB (cr_max rfl) (by rfl) B.max (by decide +kernel) (pa_cons (pv 1) pa_nil)) (pe_num N.mAsked) (nomark _)) (pw_or1 (pt_not (pt_val (C8.pe_c cN hr (by decide) (by rfl) (pa_cons (pv 1) pa_nil)))))).pt (pss_one (ps_ret pe_bl)) pss_nil)
      (pss_one (ps_ret (C8.pe_c cS hr (by decide) (by rfl) (pa_cons (pe_slice3 (pv 0) po_none po_none (po_some pe_int)) pa_nil)))))), ?_⟩
    have k0 := k H (Same.refl H)
    refine ⟨_, rfl, sa, _, rfl, .inl (SqL.of hm), _, _, rfl, rfl, (by show (0 : Int) < 2; decide), rfl, _, rfl, ?_⟩
    rw [vn_len]
    by_cases c0 : l.length % 2 = 0
    · have e0 : decide (V.int ((l.length : Int) % 2) = V.int 0) = true := decide_eq_true (congrArg V.int (by omega))
      refine if_false_of (by show (!decide (V.int ((l.length : Int) % 2) = V.int 0)) = false; rw [e0]; rfl) ?_
      refine ⟨_, rfl, sa, _, rfl, .inl (SqL.of hm), _, _, rfl, rfl, _, rfl, ?_⟩
      rw [vn_len]
      refine ite2 (fun c => ?_) (fun c => ?_)
      · have c' : (l.length : Int) < 2 := of_decide_eq_true c
        rw [okSt_short (Or.inl (by omega))] at k0
        exact k0
      · have c1 : 2 ≤ l.length := by
          have : ¬ ((l.length : Int) < 2) := fun q => c (decide_eq_true q)
          omega
        refine ⟨_, rfl, sa, _, rfl, .inl (SqL.of hm), _, _, rfl, rfl, .inl ⟨by decide, by decide⟩, _, _, rfl, rfl, _, rfl, ?_⟩
        rw [vn_len]
        refine ite2 (fun c => ?_) (fun c => ?_)
        · have c' : (l.length : Int) > 2 * 4 := of_decide_eq_true c
          rw [okSt_short (Or.inr (by omega))] at k0
          exact k0
        · have c2 : l.length ≤ 8 := by
            have : ¬ ((l.length : Int) > 2 * 4) := fun q => c (decide_eq_true q)
            omega
          rw [okSt_eq c0 c1 c2] at k0
          rw [okSt_eq c0 c1 c2] at k
          have lo := MA.odds_len l
          have le := MA.evens_len l
          refine ⟨_, rfl, _, rfl, _, rfl, sa, _, rfl, SqL.of hm, (by intro z; cases z), fun oa noa => ?_⟩
          rw [pick_odds c0]
          have s1 := same_upd (o := .lst (vn (MA.odds l))) noa
          refine ⟨_, rfl, oa, (MA.odds l).map (fun n : Nat => (n : Int)), rfl, by rw [vn_map_int]; exact SqL.of upd_same, by rw [List.length_map]; omega, fun M hM hle => ?_⟩
          refine ⟨_, _, rfl, rfl, _, rfl, ?_⟩
          obtain ⟨m, hm1, rfl⟩ := List.mem_map.mp hM
          refine ite2 (fun c => ?_) (fun c => ?_)
          · have c' : (1000 : Int) < (m : Int) := of_decide_eq_true c
            have k1 := k _ s1
            have e : ((MA.odds l).all fun x => decide (x ≤ 1000)) = false := by
              rw [List.all_eq_false]
              exact ⟨m, hm1, by rw [decide_eq_true_eq]; omega⟩
            rw [e, Bool.false_and] at k1
            exact k1
          · have c3 : ∀ x ∈ MA.odds l, x ≤ 1000 := fun x hx => by
              have h1 := hle (x : Int) (List.mem_map.mpr ⟨x, hx, rfl⟩)
              have h2 : ¬ (1000 < (m : Int)) := fun q => c (decide_eq_true q)
              omega
            have e : ((MA.odds l).all fun x => decide (x ≤ 1000)) = true := by
              rw [List.all_eq_true]
              exact fun x hx => decide_eq_true (c3 x hx)
            rw [e, Bool.true_and] at k
            refine ⟨_, rfl, oa, MA.odds l, rfl, upd_same, by omega, fun H2 s2 => ⟨_, rfl, ?_⟩⟩
            have s12 := s1.trans s2
            cases e2 : Su90.falling (MA.odds l) with
            | false =>
              have k2 := k _ s12
              rw [e2, Bool.false_and] at k2
              exact if_true_of (c := !false) rfl k2
            | true =>
              rw [e2, Bool.true_and] at k
              refine if_false_of (c := !true) rfl ?_
              refine ⟨_, rfl, _, rfl, sa, _, rfl, SqL.of (s12 _ _ hm), (by intro z; cases z), fun ea nea => ?_⟩
              rw [pick_evens c0]
              have s3 := same_upd (o := .lst (vn (MA.evens l))) nea
              exact ⟨ea, MA.evens l, rfl, upd_same, by omega, by omega, fun H3 s4 => k _ ((s12.trans s3).trans s4)⟩
    · rw [okSt_odd c0] at k0
      have e0 : decide (V.int ((l.length : Int) % 2) = V.int 0) = false := decide_eq_false fun z => c0 (by injection z with z; omega)
      exact if_true_of (by show (!decide (V.int ((l.length : Int) % 2) = V.int 0)) = true; rw [e0]; rfl) k0
end
end Su
namespace Su
open PySem PySem.Spec PyProof.Rows L2
theorem isS_no {a : Su90.Abs} {x : Nat} (h : ¬ x < a.sellers.length) : a.isS x = false := decide_eq_false h
theorem isS_yes {a : Su90.Abs} {x : Nat} (h : x < a.sellers.length) : ¬ a.isS x = false := fun z => of_decide_eq_false z h
theorem evens_at {l : List Nat} {i : Nat} {q : Nat × Nat} (h : (Su90.pairs l)[i]? = some q) : (vn (MA.evens l))[i]? = some (.int (q.1 : Nat)) ∧ (vn (MA.odds l))[i]? = some (.int (q.2 : Nat)) := by
  unfold MA.evens MA.odds
  constructor
  · rw [vn_get, List.getElem?_map, h]; rfl
  · rw [vn_get, List.getElem?_map, h]; rfl
section
variable {P : Program} {w : World} {K : PySem.W.Frag} {mg : Str → Option Value} {base : Heap} {C : Addr}
/-! ### add_seller -/
abbrev asSeller : List Nat → Option Su90.Call := MA.row .seller
theorem scAddS : FnScope ["store", "numbers"] ["store", "numbers"] (defScope sAddS) := ⟨rfl, rfl, rfl, by decide +kernel, rfl, by decide +kernel, by decide +kernel⟩
theorem ok_addS {f : Addr} {fd : FuncData} (F : Fun K "add_seller" "add_seller" sAddS f fd) (B : Bt mg) (N : Nums mg) (T : Txt K mg C) (cA : C8.Cal P w K mg base 2 "are_steps" spAreSteps []) : FnOk P w K mg base CX0 3 f fd ["store", "numbers"] (spDo C asSeller) := by
  refine F.ok scAddS (fun vs H Q E h => sp_len h) (fun cdv A outer s H vs Q E hr h => ?_)
  obtain ⟨Z, p, l, ka, sa, as, ss, a, nums, c, rfl, hl, hc, S, Va, hZ, nl, k⟩ := h
  obtain rfl : Su90.Call.seller nums = c := Option.some.inj hc
  obtain ⟨dx, hp⟩ := S.ins
  have npk := S.pk
  have nps := S.ps
  have v1 := Va.fewS
  refine ⟨_, pss_cons (ps_if (pt_not (pt_val (C8.pe_c cA hr (by decide) (by rfl) (pa_cons (pv 1) pa_nil)))) (pss_one (ps_ret (pe_lst (pa_cons (pe_num N.outOf) pa_nil)))) pss_nil)
    (pss_cons (ps_if (pt_cmpR op_eq (pe_callB call_len_seq (by rfl) B.len PySem.boot_len (pa_cons (pe_fld (pv 0) rfl) pa_nil)) (pe_num N.mSellers) (nomark _)) (pss_one (ps_ret (pe_lst (pa_cons (pe_num N.tooMany) pa_nil)))) pss_nil)
    (pss_cons (ps_expr (pe_bm PySem.F.plainAttrs_list PySem.F.slot_list_append PySem.F.type_list_append mt_append (pe_fld (pv 0) rfl)
      (pa_cons (pe_listZip rfl (by rfl) B.list (by rfl) B.zip (pa_cons (pe_slice3 (pv 1) po_none po_none (po_some pe_int)) (pa_cons (pe_slice3 (pv 1) (po_some pe_int) po_none (po_some pe_int)) pa_nil))) pa_nil)))
    (pss_one (ps_ret (pe_lst (pa_cons (pe_op op_sub (pe_callB call_len_seq (by rfl) B.len PySem.boot_len (pa_cons (pe_fld (pv 0) rfl) pa_nil)) pe_int) pa_nil)))))), ?_⟩
  refine ⟨_, rfl, l, nums, rfl, hl, fun H1 s1 => ⟨_, rfl, ?_⟩⟩
  have hd : Su90.does a (.seller nums) = if nums.length % 2 ≠ 0 ∨ Su90.okS (Su90.pairs nums) = false then (a, Su90.no (-22)) else if Su90.SELLERS ≤ a.sellers.length then (a, Su90.no (-28)) else ({ a with sellers := a.sellers ++ [Su90.pairs nums] }, Su90.num a.sellers.length []) := rfl
  rw [hd] at k
  cases e : okSt nums with
  | false =>
    have e' : nums.length % 2 ≠ 0 ∨ Su90.okS (Su90.pairs nums) = false := by
      unfold okSt at e
      rcases Bool.and_eq_false_iff.mp e with q | q
      · exact Or.inl (of_decide_eq_false q)
      · exact Or.inr q
    rw [if_pos e'] at k
    refine if_true_of (c := !false) rfl ?_
    exact ⟨one_le, fun q nq => k.same S (s1.trans (same_upd nq)) upd_same (s1.free nq)⟩
  | true =>
    refine if_false_of (c := !true) rfl ?_
    have e2 : nums.length % 2 = 0 ∧ Su90.okS (Su90.pairs nums) = true := by
      unfold okSt at e
      rw [Bool.and_eq_true, decide_eq_true_eq] at e
      exact e
    rw [if_neg (by rw [e2.1, e2.2]; rintro (z | z); exact z rfl; cases z)] at k
    refine ⟨_, rfl, p, C, dx, _, _, rfl, s1 _ _ hp, T.cl, T.nS, stF_sellers _ _ _ _, sa, _, rfl, .inl (SqL.of (s1 _ _ S.sell.lst)), rfl, _, rfl, ?_⟩
    rw [List.length_map, S.sell.len]
    by_cases c5 : a.sellers.length = 3
    · refine if_true_of (decide_eq_true (by rw [c5]; rfl)) ?_
      rw [if_pos (show Su90.SELLERS ≤ a.sellers.length from Nat.le_of_eq c5.symm)] at k
      exact ⟨one_le, fun q nq => k.same S (s1.trans (same_upd nq)) upd_same (s1.free nq)⟩
    · refine if_false_of (decide_eq_false fun z => c5 (by injection z with z; exact Int.ofNat_inj.mp z)) ?_
      rw [if_neg (show ¬ Su90.SELLERS ≤ a.sellers.length from fun z => c5 (Nat.le_antisymm v1 z))] at k
      refine ⟨_, rfl, p, C, dx, _, _, rfl, s1 _ _ hp, T.cl, T.nS, stF_sellers _ _ _ _, .inl ⟨rfl, _, SqL.of (s1 _ _ S.sell.lst)⟩, ?_⟩
      refine ⟨_, rfl, _, rfl, l, _, rfl, SqL.of (s1 _ _ hl), (by intro z; cases z), fun ea nea => ?_⟩
      rw [pick_evens e2.1]
      have s2 := s1.trans (same_upd (o := .lst (vn (MA.evens nums))) nea)
      refine ⟨_, rfl, _, rfl, _, rfl, l, _, rfl, SqL.of (s2 _ _ hl), (by intro z; cases z), fun oa noa => ?_⟩
      rw [pick_odds e2.1]
      have s2' := same_upd (o := .lst (vn (MA.odds nums))) noa
      have s3 := s2.trans s2'
      refine ⟨ea, oa, _, _, rfl, SqL.of (s2' _ _ upd_same), SqL.of upd_same, fun H2 b ts s4 nb nts nbt hlen hb hts => ?_⟩
      have s14 := s3.trans s4
      have nb0 : H b = none := s3.free nb
      have nts0 : ∀ t ∈ ts, H t = none := fun t ht => s3.free (nts t ht)
      rw [vn_len, vn_len, MA.evens_len, MA.odds_len, Nat.min_self, ← MA.pairs_len] at hlen
      have hst : StepsAt H2 b ts (Su90.pairs nums) := ⟨hb, hlen, fun i t ht => by
        have hi : i < (Su90.pairs nums).length := by rw [← hlen]; exact (List.getElem?_eq_some_iff.mp ht).1
        have hq := List.getElem?_eq_getElem hi
        obtain ⟨x, y, g1, g2, g3⟩ := hts i t ht
        obtain ⟨f1, f2⟩ := evens_at hq
        rw [f1] at g1
        rw [f2] at g2
        have ex := Option.some.inj g1
        have ey := Option.some.inj g2
        subst ex
        subst ey
        exact ⟨_, hq, g3⟩⟩
      refine ⟨sa, _, _, rfl, rfl, s14 _ _ S.sell.lst, small (by rw [List.length_map, S.sell.len]; omega), ?_⟩
      have hp2 : (upd H2 sa (.lst (ss.map V.ref ++ [.ref b]))) p = some (.ins C dx (stF true a.room ka sa)) := by rw [upd_ne nps]; exact s14 _ _ hp
      refine ⟨_, rfl, p, C, dx, _, _, rfl, hp2, T.cl, T.nS, stF_sellers _ _ _ _, sa, _, rfl, .inl (SqL.of upd_same), _, _, rfl, rfl, one_le, fun q nq => ?_⟩
      have nqk : sa ≠ q := ne_of_none upd_same nq
      have s5 := same_upd (o := .lst [(fun i j => V.int (i - j)) (((ss.map V.ref ++ [V.ref b]).length : Nat) : Int) 1]) nq
      have nq2 : H2 q = none := by rw [upd_ne nqk.symm] at nq; exact nq
      have kp2 : ∀ b' o, H2 b' = some o → b' ≠ sa → (upd (upd H2 sa (.lst (ss.map V.ref ++ [.ref b]))) q (.lst [(fun i j => V.int (i - j)) (((ss.map V.ref ++ [V.ref b]).length : Nat) : Int) 1])) b' = some o := fun b' o hb nb => s5 _ _ (by rw [upd_ne nb]; exact hb)
      have kp : ∀ b' o, H b' = some o → b' ≠ sa → (upd (upd H2 sa (.lst (ss.map V.ref ++ [.ref b]))) q (.lst [(fun i j => V.int (i - j)) (((ss.map V.ref ++ [V.ref b]).length : Nat) : Int) 1])) b' = some o := fun b' o hb nb => kp2 b' o (s14 _ _ hb) nb
      have newD : ∀ t, H t = none → Deep Z p ka sa t := fun t nt => ⟨(ne_of_none hp nt).symm, (ne_of_none S.rows.lst nt).symm, (ne_of_none S.sell.lst nt).symm, hZ.new nt⟩
      refine k _ q ka sa as (ss ++ [b]) ⟨⟨dx, kp _ _ hp nps⟩, S.rows.move (kp _ _ S.rows.lst S.ksa) (fun b hb o e => kp b o e (S.deep b hb).2.2.1), S.sell.push (ts := ts) (fun b o e d => kp b o e d.2.2.1) (s5 _ _ upd_same) ⟨kp2 _ _ hst.lst (newD b nb0).2.2.1, hst.len, fun i t ht => ?_⟩ (newD b nb0) (fun t ht => newD t (nts0 t ht)), S.deep, S.ksa, S.off⟩ ?_ (s14.free nq2) (fun b o hb zb => kp b o hb fun z => S.off.2.2 (z ▸ zb))
      · obtain ⟨q', g1, g2⟩ := hst.at_ i t ht
        exact ⟨q', g1, kp2 _ _ g2 (newD t (nts0 t (List.mem_of_getElem? ht))).2.2.1⟩
      rw [upd_same]
      show some (HO.lst [V.int ((((ss.map V.ref ++ [V.ref b]).length : Nat) : Int) - 1)]) = some (HO.lst [V.int ((a.sellers.length : Nat) : Int)])
      rw [List.length_append, List.length_map, S.sell.len]
      show some (HO.lst [V.int (((a.sellers.length + 1 : Nat) : Int) - 1)]) = _
      rw [show (((a.sellers.length + 1 : Nat) : Int) - 1) = ((a.sellers.length : Nat) : Int) by omega]
/-! ### send_away -/
theorem scAway : FnScope ["store", "numbers", "s"] ["store", "numbers"] (defScope sAway) := ⟨rfl, rfl, rfl, by decide +kernel, rfl, by decide +kernel, by decide +kernel⟩
theorem ok_away {f : Addr} {fd : FuncData} (F : Fun K "send_away" "send_away" sAway f fd) (B : Bt mg) (N : Nums mg) (T : Txt K mg C) (cB : C8.Cal P w K mg base 1 "all_but" spBut []) : FnOk P w K mg base CX0 2 f fd ["store", "numbers"] (spDo C (one .away)) := by
  refine F.ok scAway (fun vs H Q E h => sp_len h) (fun cdv A outer s H vs Q E hr h => ?_)
  obtain ⟨Z, p, l, ka, sa, as, ss, a, nums, c, rfl, hl, hc, S, Va, hZ, nl, k⟩ := h
  obtain ⟨x, rfl, rfl⟩ := one_inv hc
  obtain ⟨dx, hp⟩ := S.ins
  have npk := S.pk
  have nps := S.ps
  refine ⟨_, pss_cons (ps_set (i := 2) scAway.nd rfl (Or.inl rfl) (pe_ix ix_list (pv 1) pe_int (fun _ _ => rfl)))
    (pss_cons (ps_if (pt_cmpR op_ge (pv 2) (pe_callB call_len_seq (by rfl) B.len PySem.boot_len (pa_cons (pe_fld (pv 0) rfl) pa_nil)) (nomark _)) (pss_one (ps_ret (pe_lst (pa_cons (pe_num N.noneSuch) pa_nil)))) pss_nil)
    (pss_cons (ps_fld (pv 0) (C8.pe_c cB hr (by decide) (by rfl) (pa_cons (pe_fld (pv 0) rfl) (pa_cons (pv 2) pa_nil))) rfl)
    (pss_one (ps_ret (pe_lst (pa_cons (pe_callB call_len_seq (by rfl) B.len PySem.boot_len (pa_cons (pe_fld (pv 0) rfl) pa_nil)) pa_nil)))))), ?_⟩
  refine ⟨_, rfl, l, _, _, _, rfl, rfl, SqL.of hl, at_vn (i := 0) Nat.zero_lt_one, _, rfl, _, rfl, p, C, dx, _, _, rfl, hp, T.cl, T.nS, stF_sellers _ _ _ _, sa, _, rfl, .inl (SqL.of S.sell.lst), _, _, rfl, rfl, _, rfl, ?_⟩
  rw [List.length_map, S.sell.len]
  have hd : Su90.does a (.away x) = if a.isS x = false then (a, Su90.no (-2)) else ({ a with sellers := a.sellers.eraseIdx x }, Su90.num (a.sellers.length - 1) []) := rfl
  refine ite2 (fun c => ?_) (fun c => ?_)
  · have c' : ¬ x < a.sellers.length := by
      have : (a.sellers.length : Int) ≤ (x : Int) := of_decide_eq_true c
      omega
    rw [hd, if_pos (isS_no c')] at k
    exact ⟨one_le, fun q nq => k.same S (same_upd nq) upd_same nq⟩
  · have c' : x < a.sellers.length := by
      have : ¬ ((a.sellers.length : Int) ≤ (x : Int)) := fun q => c (decide_eq_true q)
      omega
    rw [hd, if_neg (isS_yes c')] at k
    have v1 := Va.fewS
    have l1 : (ss.map V.ref).length = a.sellers.length := by rw [List.length_map, S.sell.len]
    refine ⟨_, rfl, p, C, dx, _, _, rfl, hp, T.cl, T.nS, stF_sellers _ _ _ _, _, rfl, sa, _, x, rfl, S.sell.lst, by rw [l1]; exact c', by omega, fun H1 sb s1 nsb hsb => ?_⟩
    refine ⟨_, rfl, p, C, dx, _, rfl, s1 _ _ hp, T.cl, T.nS, (by show 4 < 1000; decide), ?_⟩
    rw [put_sellers]
    have npb : p ≠ sb := ne_of_none hp nsb
    have nkb : ka ≠ sb := ne_of_none S.rows.lst nsb
    have R0 : SellAt (Deep Z p ka sa) H1 sb (ss.eraseIdx x) (a.sellers.eraseIdx x) := (S.sell.same s1).erase x hsb
    have nd : ∀ b o, H b = some o → Deep Z p ka sa b → Deep Z p ka sb b := fun b o e d => ⟨d.1, d.2.1, ne_of_none e nsb, d.2.2.2⟩
    have R1 : SellAt (Deep Z p ka sb) H1 sb (ss.eraseIdx x) (a.sellers.eraseIdx x) := (SellAt.same (S.sell.move (D' := Deep Z p ka sb) S.sell.lst (fun _ _ e _ => e) nd) s1).erase x hsb
    have R2 : SellAt (Deep Z p ka sb) (upd H1 p (.ins C dx (stF true a.room ka sb))) sb (ss.eraseIdx x) (a.sellers.eraseIdx x) := R1.move (by rw [upd_ne npb.symm]; exact R1.lst) (fun b o e d => by
      rw [upd_ne d.1]
      exact e) fun b o e d => d
    refine ⟨_, rfl, p, C, dx, _, _, rfl, upd_same, T.cl, T.nS, stF_sellers _ _ _ _, sb, _, rfl, .inl (SqL.of R2.lst), one_le, fun q nq => ?_⟩
    rw [List.length_map, R2.len, List.length_eraseIdx, if_pos c']
    have s2 := same_upd (o := .lst [.int ((a.sellers.length - 1 : Nat) : Int)]) nq
    have npq : p ≠ q := ne_of_none upd_same nq
    have kp : ∀ b o, H b = some o → b ≠ p → (upd (upd H1 p (.ins C dx (stF true a.room ka sb))) q (.lst [.int ((a.sellers.length - 1 : Nat) : Int)])) b = some o := fun b o hb nb => s2 _ _ (by rw [upd_ne nb]; exact s1 _ _ hb)
    refine k _ q ka sb as (ss.eraseIdx x) ⟨⟨dx, s2 _ _ upd_same⟩, S.rows.move (kp _ _ S.rows.lst npk.symm) (fun b hb o e => kp b o e (S.deep b hb).1), R2.same s2, fun b hb => ?_, nkb, ⟨S.off.1, S.off.2.1, hZ.new nsb⟩⟩ upd_same ?_ (fun b o hb zb => kp b o hb fun z => S.off.1 (z ▸ zb))
    · obtain ⟨o, e⟩ := S.rows.has hb
      exact nd b o e (S.deep b hb)
    · rw [upd_ne npq.symm] at nq
      exact s1.free nq
end
end Su
namespace Su
open PySem PySem.Spec PyProof.Rows L2
abbrev sCost : Stmt := top 41
abbrev sBuy : Stmt := top 42
abbrev sCheap : Stmt := top 43
abbrev sTellTwo : Stmt := top 44
abbrev sUpto : Stmt := top 45
abbrev three (f : Nat → Nat → Nat → Su90.Call) : List Nat → Option Su90.Call := MA.three f
theorem three_inv {f : Nat → Nat → Nat → Su90.Call} {nums : List Nat} {c : Su90.Call} (h : three f nums = some c) : ∃ x y z, nums = [x, y, z] ∧ c = f x y z := by
  match nums, h with
  | [x, y, z], h => exact ⟨x, y, z, rfl, (Option.some.inj h).symm⟩
section
variable {P : Program} {w : World} {K : PySem.W.Frag} {mg : Str → Option Value} {base : Heap} {C : Addr}
/-! ### tell_cost -/
theorem scCost : FnScope ["store", "numbers", "s", "wanted", "steps"] ["store", "numbers"] (defScope sCost) := ⟨rfl, rfl, rfl, by decide +kernel, rfl, by decide +kernel, by decide +kernel⟩
theorem ok_cost {f : Addr} {fd : FuncData} (F : Fun K "tell_cost" "tell_cost" sCost f fd) (B : Bt mg) (N : Nums mg) (T : Txt K mg C) (cC : C8.Cal P w K mg base 2 "costs_of" spCosts []) (cP : C8.Cal P w K mg base 1 "price_of_piece" spPiece []) : FnOk P w K mg base CX0 3 f fd ["store", "numbers"] (spDo C (both .cost)) := by
  refine F.ok scCost (fun vs H Q E h => sp_len h) (fun cdv A outer s H vs Q E hr h => ?_)
  obtain ⟨Z, p, l, ka, sa, as, ss, a, nums, c, rfl, hl, hc, S, Va, hZ, nl, k⟩ := h
  obtain ⟨x, y, rfl, rfl⟩ := both_inv hc
  obtain ⟨dx, hp⟩ := S.ins
  refine ⟨_, pss_cons (ps_set (i := 2) scCost.nd rfl (Or.inl rfl) (pe_ix ix_list (pv 1) pe_int (fun _ _ => rfl))) (pss_cons (ps_set (i := 3) scCost.nd rfl (Or.inl rfl) (pe_ix ix_list (pv 1) pe_int (fun _ _ => rfl)))
    (pss_cons (ps_if (pt_cmpR op_ge (pv 2) (pe_callB call_len_seq (by rfl) B.len PySem.boot_len (pa_cons (pe_fld (pv 0) rfl) pa_nil)) (nomark _)) (pss_one (ps_ret (pe_lst (pa_cons (pe_num N.noneSuch) pa_nil)))) pss_nil)
    (pss_cons (ps_if (pt_cmpR op_gt (pv 3) (pe_num N.mBought) (nomark _)) (pss_one (ps_ret (pe_lst (pa_cons (pe_num N.outOf) pa_nil)))) pss_nil)
    (pss_cons (ps_set (i := 4) scCost.nd rfl (Or.inl rfl) (pe_ix ix_list (pe_fld (pv 0) rfl) (pv 2) (fun _ _ => rfl)))
    (pss_one (ps_ret (pe_lst (pa_cons (pe_ix ix_list (C8.pe_c cC hr (by decide) (by rfl) (pa_cons (pv 4) pa_nil)) (pv 3) (fun _ _ => rfl)) (pa_cons (C8.pe_c cP hr (by decide) (by rfl) (pa_cons (pv 4) (pa_cons (pv 3) pa_nil))) pa_nil))))))))), ?_⟩
  refine ⟨_, rfl, l, _, _, _, rfl, rfl, SqL.of hl, at_vn (i := 0) (Nat.succ_pos 1), _, rfl, l, _, _, _, rfl, rfl, SqL.of hl, at_vn (i := 1) (Nat.lt_succ_self 1), _, rfl, _, rfl, p, C, dx, _, _, rfl, hp, T.cl, T.nS, stF_sellers _ _ _ _, sa, _, rfl, .inl (SqL.of S.sell.lst), _, _, rfl, rfl, _, rfl, ?_⟩
  rw [List.length_map, S.sell.len]
  have hd : Su90.does a (.cost x y) = if a.isS x = false then (a, Su90.no (-2)) else if 60 < y then (a, Su90.no (-22)) else (a, Su90.num (Su90.cost (a.seller x) y) [Su90.priceAt (a.seller x) y]) := rfl
  refine ite2 (fun c => ?_) (fun c => ?_)
  · have c' : ¬ x < a.sellers.length := by
      have : (a.sellers.length : Int) ≤ (x : Int) := of_decide_eq_true c
      omega
    rw [hd, if_pos (isS_no c')] at k
    exact ⟨one_le, fun q nq => k.same S (same_upd nq) upd_same nq⟩
  · have c' : x < a.sellers.length := by
      have : ¬ ((a.sellers.length : Int) ≤ (x : Int)) := fun q => c (decide_eq_true q)
      omega
    rw [hd, if_neg (isS_yes c')] at k
    refine ⟨_, rfl, _, _, rfl, rfl, _, rfl, ?_⟩
    refine ite2 (fun c => ?_) (fun c => ?_)
    · have c2 : 60 < y := Int.ofNat_lt.mp (of_decide_eq_true c)
      rw [if_pos c2] at k
      exact ⟨one_le, fun q nq => k.same S (same_upd nq) upd_same nq⟩
    · have c2 : ¬ 60 < y := fun q => c (decide_eq_true (Int.ofNat_lt.mpr q))
      rw [if_neg c2] at k
      obtain ⟨b, ts, hb, hst⟩ := S.sell.get c'
      refine ⟨_, rfl, p, C, dx, _, _, rfl, hp, T.cl, T.nS, stF_sellers _ _ _ _, _, rfl, sa, _, _, _, rfl, rfl, SqL.of S.sell.lst, atI_nat (j := x) (v := .ref b) (by rw [List.getElem?_map, hb]; rfl), ?_⟩
      refine ⟨_, rfl, b, ts, _, rfl, hst, fun H1 ca s1 nca hca => ?_⟩
      have hy : y < 61 := by omega
      refine ⟨_, rfl, ca, _, _, _, rfl, rfl, SqL.of hca, at_vn (i := y) (by rw [MA.costs_len]; exact hy), _, rfl, _, rfl, b, ts, _, y, rfl, hst.same s1, fun H2 s2 => ⟨(by show 2 ≤ sizeLine; decide), fun q nq => ?_⟩⟩
      have s12 := s1.trans s2
      refine k.same S (s12.trans (same_upd nq)) ?_ (s12.free nq)
      rw [upd_same, MA.costs_get hy]
      rfl
/-! ### tell_buy -/
theorem scBuy : FnScope ["store", "numbers", "s", "wanted", "costs"] ["store", "numbers"] (defScope sBuy) := ⟨rfl, rfl, rfl, by decide +kernel, rfl, by decide +kernel, by decide +kernel⟩
theorem ok_buy {f : Addr} {fd : FuncData} (F : Fun K "tell_buy" "tell_buy" sBuy f fd) (B : Bt mg) (N : Nums mg) (T : Txt K mg C) (cC : C8.Cal P w K mg base 2 "costs_of" spCosts []) (cB : C8.Cal P w K mg base 1 "best_bought" spBestB []) (cL : C8.Cal P w K mg base 2 "least_cost" spLeast []) : FnOk P w K mg base CX0 3 f fd ["store", "numbers"] (spDo C (both .buy)) := by
  refine F.ok scBuy (fun vs H Q E h => sp_len h) (fun cdv A outer s H vs Q E hr h => ?_)
  obtain ⟨Z, p, l, ka, sa, as, ss, a, nums, c, rfl, hl, hc, S, Va, hZ, nl, k⟩ := h
  obtain ⟨x, y, rfl, rfl⟩ := both_inv hc
  obtain ⟨dx, hp⟩ := S.ins
  refine ⟨_, pss_cons (ps_set (i := 2) scBuy.nd rfl (Or.inl rfl) (pe_ix ix_list (pv 1) pe_int (fun _ _ => rfl))) (pss_cons (ps_set (i := 3) scBuy.nd rfl (Or.inl rfl) (pe_ix ix_list (pv 1) pe_int (fun _ _ => rfl)))
    (pss_cons (ps_if (pt_cmpR op_ge (pv 2) (pe_callB call_len_seq (by rfl) B.len PySem.boot_len (pa_cons (pe_fld (pv 0) rfl) pa_nil)) (nomark _)) (pss_one (ps_ret (pe_lst (pa_cons (pe_num N.noneSuch) pa_nil)))) pss_nil)
    (pss_cons (ps_if (pt_cmpR op_gt (pv 3) (pe_num N.mBought) (nomark _)) (pss_one (ps_ret (pe_lst (pa_cons (pe_num N.outOf) pa_nil)))) pss_nil)
    (pss_cons (ps_set (i := 4) scBuy.nd rfl (Or.inl rfl) (C8.pe_c cC hr (by decide) (by rfl) (pa_cons (pe_ix ix_list (pe_fld (pv 0) rfl) (pv 2) (fun _ _ => rfl)) pa_nil)))
    (pss_one (ps_ret (pe_lst (pa_cons (C8.pe_c cB hr (by decide) (by rfl) (pa_cons (pv 4) (pa_cons (pv 3) pa_nil))) (pa_cons (C8.pe_c cL hr (by decide) (by rfl) (pa_cons (pv 4) (pa_cons (pv 3) pa_nil))) (pa_cons (pe_ix ix_list (pv 4) (pv 3) (fun _ _ => rfl)) pa_nil)))))))))), ?_⟩
  refine ⟨_, rfl, l, _, _, _, rfl, rfl, SqL.of hl, at_vn (i := 0) (Nat.succ_pos 1), _, rfl, l, _, _, _, rfl, rfl, SqL.of hl, at_vn (i := 1) (Nat.lt_succ_self 1), _, rfl, _, rfl, p, C, dx, _, _, rfl, hp, T.cl, T.nS, stF_sellers _ _ _ _, sa, _, rfl, .inl (SqL.of S.sell.lst), _, _, rfl, rfl, _, rfl, ?_⟩
  rw [List.length_map, S.sell.len]
  have hd : Su90.does a (.buy x y) = if a.isS x = false then (a, Su90.no (-2)) else if 60 < y then (a, Su90.no (-22)) else (a, Su90.num (Su90.buy (a.seller x) y) [Su90.cost (a.seller x) (Su90.buy (a.seller x) y), Su90.cost (a.seller x) y]) := rfl
  refine ite2 (fun c => ?_) (fun c => ?_)
  · have c' : ¬ x < a.sellers.length := by
      have : (a.sellers.length : Int) ≤ (x : Int) := of_decide_eq_true c
      omega
    rw [hd, if_pos (isS_no c')] at k
    exact ⟨one_le, fun q nq => k.same S (same_upd nq) upd_same nq⟩
  · have c' : x < a.sellers.length := by
      have : ¬ ((a.sellers.length : Int) ≤ (x : Int)) := fun q => c (decide_eq_true q)
      omega
    rw [hd, if_neg (isS_yes c')] at k
    refine ⟨_, rfl, _, _, rfl, rfl, _, rfl, ?_⟩
    refine ite2 (fun c => ?_) (fun c => ?_)
    · have c2 : 60 < y := Int.ofNat_lt.mp (of_decide_eq_true c)
      rw [if_pos c2] at k
      exact ⟨one_le, fun q nq => k.same S (same_upd nq) upd_same nq⟩
    · have c2 : ¬ 60 < y := fun q => c (decide_eq_true (Int.ofNat_lt.mpr q))
      rw [if_neg c2] at k
      obtain ⟨b, ts, hb, hst⟩ := S.sell.get c'
      refine ⟨_, rfl, p, C, dx, _, _, rfl, hp, T.cl, T.nS, stF_sellers _ _ _ _, _, rfl, sa, _, _, _, rfl, rfl, SqL.of S.sell.lst, atI_nat (j := x) (v := .ref b) (by rw [List.getElem?_map, hb]; rfl), ?_⟩
      refine ⟨b, ts, _, rfl, hst, fun H1 ca s1 nca hca => ?_⟩
      have hy : y < 61 := by omega
      have Fi : MA.First (MA.costs (a.seller x)) y (Su90.buy (a.seller x) y) := MA.first_buy (by omega)
      refine ⟨_, rfl, _, rfl, ca, _, y, _, rfl, hca, Fi, fun H2 s2 => ?_⟩
      refine ⟨_, rfl, _, rfl, ca, _, y, _, rfl, s2 _ _ hca, Fi, fun H3 s3 => ?_⟩
      have s23 := s2.trans s3
      have s13 := s1.trans s23
      refine ⟨_, rfl, _, rfl, ca, _, _, _, rfl, rfl, SqL.of (s23 _ _ hca), at_vn (i := y) (by rw [MA.costs_len]; exact hy), (by show 3 ≤ sizeLine; decide), fun q nq => ?_⟩
      refine k.same S (s13.trans (same_upd nq)) ?_ (s13.free nq)
      rw [upd_same, MA.costs_get hy, MA.costs_get (MA.buy_le (by omega))]
      rfl
/-! ### tell_upto -/
theorem scUpto : FnScope ["store", "numbers", "s", "money", "costs", "most"] ["store", "numbers"] (defScope sUpto) := ⟨rfl, rfl, rfl, by decide +kernel, rfl, by decide +kernel, by decide +kernel⟩
theorem ok_upto {f : Addr} {fd : FuncData} (F : Fun K "tell_upto" "tell_upto" sUpto f fd) (B : Bt mg) (N : Nums mg) (T : Txt K mg C) (cC : C8.Cal P w K mg base 2 "costs_of" spCosts []) (cM : C8.Cal P w K mg base 1 "most_for" spMost []) : FnOk P w K mg base CX0 3 f fd ["store", "numbers"] (spDo C (both .upTo)) := by
  refine F.ok scUpto (fun vs H Q E h => sp_len h) (fun cdv A outer s H vs Q E hr h => ?_)
  obtain ⟨Z, p, l, ka, sa, as, ss, a, nums, c, rfl, hl, hc, S, Va, hZ, nl, k⟩ := h
  obtain ⟨x, y, rfl, rfl⟩ := both_inv hc
  obtain ⟨dx, hp⟩ := S.ins
  refine ⟨_, pss_cons (ps_set (i := 2) scUpto.nd rfl (Or.inl rfl) (pe_ix ix_list (pv 1) pe_int (fun _ _ => rfl))) (pss_cons (ps_set (i := 3) scUpto.nd rfl (Or.inl rfl) (pe_ix ix_list (pv 1) pe_int (fun _ _ => rfl)))
    (pss_cons (ps_if (pt_cmpR op_ge (pv 2) (pe_callB call_len_seq (by rfl) B.len PySem.boot_len (pa_cons (pe_fld (pv 0) rfl) pa_nil)) (nomark _)) (pss_one (ps_ret (pe_lst (pa_cons (pe_num N.noneSuch) pa_nil)))) pss_nil)
    (pss_cons (ps_if (pt_cmpR op_gt (pv 3) (pe_num N.mMoney) (nomark _)) (pss_one (ps_ret (pe_lst (pa_cons (pe_num N.outOf) pa_nil)))) pss_nil)
    (pss_cons (ps_set (i := 4) scUpto.nd rfl (Or.inl rfl) (C8.pe_c cC hr (by decide) (by rfl) (pa_cons (pe_ix ix_list (pe_fld (pv 0) rfl) (pv 2) (fun _ _ => rfl)) pa_nil)))
    (pss_cons (ps_set (i := 5) scUpto.nd rfl (Or.inl rfl) (C8.pe_c cM hr (by decide) (by rfl) (pa_cons (pv 4) (pa_cons (pv 3) pa_nil))))
    (pss_one (ps_ret (pe_lst (pa_cons (pv 5) (pa_cons (pe_ix ix_list (pv 4) (pv 5) (fun _ _ => rfl)) pa_nil)))))))))), ?_⟩
  refine ⟨_, rfl, l, _, _, _, rfl, rfl, SqL.of hl, at_vn (i := 0) (Nat.succ_pos 1), _, rfl, l, _, _, _, rfl, rfl, SqL.of hl, at_vn (i := 1) (Nat.lt_succ_self 1), _, rfl, _, rfl, p, C, dx, _, _, rfl, hp, T.cl, T.nS, stF_sellers _ _ _ _, sa, _, rfl, .inl (SqL.of S.sell.lst), _, _, rfl, rfl, _, rfl, ?_⟩
  rw [List.length_map, S.sell.len]
  have hd : Su90.does a (.upTo x y) = if a.isS x = false then (a, Su90.no (-2)) else if 60000 < y then (a, Su90.no (-22)) else (a, Su90.num (Su90.most (a.seller x) y) [Su90.cost (a.seller x) (Su90.most (a.seller x) y)]) := rfl
  refine ite2 (fun c => ?_) (fun c => ?_)
  · have c' : ¬ x < a.sellers.length := by
      have : (a.sellers.length : Int) ≤ (x : Int) := of_decide_eq_true c
      omega
    rw [hd, if_pos (isS_no c')] at k
    exact ⟨one_le, fun q nq => k.same S (same_upd nq) upd_same nq⟩
  · have c' : x < a.sellers.length := by
      have : ¬ ((a.sellers.length : Int) ≤ (x : Int)) := fun q => c (decide_eq_true q)
      omega
    rw [hd, if_neg (isS_yes c')] at k
    refine ⟨_, rfl, _, _, rfl, rfl, _, rfl, ?_⟩
    refine ite2 (fun c => ?_) (fun c => ?_)
    · have c2 : 60000 < y := Int.ofNat_lt.mp (of_decide_eq_true c)
      rw [if_pos c2] at k
      exact ⟨one_le, fun q nq => k.same S (same_upd nq) upd_same nq⟩
    · have c2 : ¬ 60000 < y := fun q => c (decide_eq_true (Int.ofNat_lt.mpr q))
      rw [if_neg c2] at k
      obtain ⟨b, ts, hb, hst⟩ := S.sell.get c'
      refine ⟨_, rfl, p, C, dx, _, _, rfl, hp, T.cl, T.nS, stF_sellers _ _ _ _, _, rfl, sa, _, _, _, rfl, rfl, SqL.of S.sell.lst, atI_nat (j := x) (v := .ref b) (by rw [List.getElem?_map, hb]; rfl), ?_⟩
      refine ⟨b, ts, _, rfl, hst, fun H1 ca s1 nca hca => ?_⟩
      refine ⟨_, rfl, _, rfl, ca, _, y, rfl, hca, fun H2 s2 => ?_⟩
      have hm : Su90.most (a.seller x) y < 61 := by
        rw [MA.most_eq]
        exact MA.mostTo_lt _ _
      have s12 := s1.trans s2
      refine ⟨_, rfl, _, rfl, _, rfl, ca, _, _, _, rfl, rfl, SqL.of (s2 _ _ hca), at_vn (i := Su90.most (a.seller x) y) (by rw [MA.costs_len]; exact hm), (by show 2 ≤ sizeLine; decide), fun q nq => ?_⟩
      refine k.same S (s12.trans (same_upd nq)) ?_ (s12.free nq)
      rw [upd_same, MA.costs_get hm]
      rfl
/-! ### tell_two -/
theorem scTellTwo : FnScope ["store", "numbers", "s", "t", "wanted"] ["store", "numbers"] (defScope sTellTwo) := ⟨rfl, rfl, rfl, by decide +kernel, rfl, by decide +kernel, by decide +kernel⟩
theorem ok_tellTwo {f : Addr} {fd : FuncData} (F : Fun K "tell_two" "tell_two" sTellTwo f fd) (B : Bt mg) (N : Nums mg) (T : Txt K mg C) (cC : C8.Cal P w K mg base 2 "costs_of" spCosts []) (cT : C8.Cal P w K mg base 3 "best_of_two" spTwo []) : FnOk P w K mg base CX0 4 f fd ["store", "numbers"] (spDo C (three .two)) := by
  refine F.ok scTellTwo (fun vs H Q E h => sp_len h) (fun cdv A outer s H vs Q E hr h => ?_)
  obtain ⟨Z, p, l, ka, sa, as, ss, a, nums, c, rfl, hl, hc, S, Va, hZ, nl, k⟩ := h
  obtain ⟨x, y, n, rfl, rfl⟩ := three_inv hc
  obtain ⟨dx, hp⟩ := S.ins
  refine ⟨_, pss_cons (ps_set (i := 2) scTellTwo.nd rfl (Or.inl rfl) (pe_ix ix_list (pv 1) pe_int (fun _ _ => rfl))) (pss_cons (ps_set (i := 3) scTellTwo.nd rfl (Or.inl rfl) (pe_ix ix_list (pv 1) pe_int (fun _ _ => rfl))) (pss_cons (ps_set (i := 4) scTellTwo.nd rfl (Or.inl rfl) (pe_ix ix_list (pv 1) pe_int (fun _ _ => rfl)))
    (pss_cons (ps_if (pt_cmpR op_ge (pe_callB (call_max2 rfl) (by rfl) B.max (by decide +kernel) (pa_cons (pv 2) (pa_cons (pv 3) pa_nil))) (pe_callB call_len_seq (by rfl) B.len PySem.boot_len (pa_cons (pe_fld (pv 0) rfl) pa_nil)) (nomark _)) (pss_one (ps_ret (pe_lst (pa_cons (pe_num N.noneSuch) pa_nil)))) pss_nil)
    (pss_cons (ps_if (pw_or (pt_cmpR op_eq (pv 2) (pv 3) (nomark _)) (pw_or1 (pt_cmpR op_gt (pv 4) (pe_num N.mBought) (nomark _)))).pt (pss_one (ps_ret (pe_lst (pa_cons (pe_num N.outOf) pa_nil)))) pss_nil)
    (pss_one (ps_ret (C8.pe_c cT hr (by decide) (by rfl) (pa_cons (C8.pe_c cC hr (by decide) (by rfl) (pa_cons (pe_ix ix_list (pe_fld (pv 0) rfl) (pv 2) (fun _ _ => rfl)) pa_nil)) (pa_cons (C8.pe_c cC hr (by decide) (by rfl) (pa_cons (pe_ix ix_list (pe_fld (pv 0) rfl) (pv 3) (fun _ _ => rfl)) pa_nil)) (pa_cons (pv 4) pa_nil)))))))))), ?_⟩
  refine ⟨_, rfl, l, _, _, _, rfl, rfl, SqL.of hl, at_vn (i := 0) (by show 0 < 3; decide), _, rfl, l, _, _, _, rfl, rfl, SqL.of hl, at_vn (i := 1) (by show 1 < 3; decide), _, rfl, l, _, _, _, rfl, rfl, SqL.of hl, at_vn (i := 2) (by show 2 < 3; decide), ?_⟩
  refine ⟨_, rfl, _, rfl, _, _, rfl, _, rfl, p, C, dx, _, _, rfl, hp, T.cl, T.nS, stF_sellers _ _ _ _, sa, _, rfl, .inl (SqL.of S.sell.lst), _, _, rfl, rfl, _, rfl, ?_⟩
  rw [List.length_map, S.sell.len]
  have hd : Su90.does a (.two x y n) = if a.isS x = false ∨ a.isS y = false then (a, Su90.no (-2)) else if x = y ∨ 60 < n then (a, Su90.no (-22)) else (a, Su90.num (Su90.cost (a.seller x) (Su90.two (a.seller x) (a.seller y) n).1 + Su90.cost (a.seller y) (Su90.two (a.seller x) (a.seller y) n).2) [(Su90.two (a.seller x) (a.seller y) n).1, (Su90.two (a.seller x) (a.seller y) n).2]) := rfl
  refine ite2 (fun c => ?_) (fun c => ?_)
  · have c' : a.isS x = false ∨ a.isS y = false := by
      have h0 : (if (y : Int) > (x : Int) then (y : Int) else (x : Int)) ≥ (a.sellers.length : Int) := of_decide_eq_true c
      by_cases q : (y : Int) > (x : Int)
      · rw [if_pos q] at h0
        exact Or.inr (isS_no (by omega))
      · rw [if_neg q] at h0
        exact Or.inl (isS_no (by omega))
    rw [hd, if_pos c'] at k
    exact ⟨one_le, fun q nq => k.same S (same_upd nq) upd_same nq⟩
  · have h0 : ¬ ((if (y : Int) > (x : Int) then (y : Int) else (x : Int)) ≥ (a.sellers.length : Int)) := fun q => c (decide_eq_true q)
    have cx : x < a.sellers.length ∧ y < a.sellers.length := by
      by_cases q : (y : Int) > (x : Int)
      · rw [if_pos q] at h0
        omega
      · rw [if_neg q] at h0
        omega
    rw [hd, if_neg (by rintro (z | z); exact isS_yes cx.1 z; exact isS_yes cx.2 z)] at k
    refine ⟨_, rfl, _, rfl, rfl, _, rfl, ?_⟩
    by_cases cxy : x = y
    · rw [if_pos (Or.inl cxy)] at k
      refine if_true_of (decide_eq_true (by subst cxy; rfl)) ?_
      exact ⟨one_le, fun q nq => k.same S (same_upd nq) upd_same nq⟩
    · refine if_false_of (decide_eq_false fun z => cxy (by injection z with z; exact Int.ofNat_inj.mp z)) ?_
      refine ⟨_, rfl, _, _, rfl, rfl, _, rfl, ?_⟩
      refine ite2 (fun c => ?_) (fun c => ?_)
      · have c2 : 60 < n := Int.ofNat_lt.mp (of_decide_eq_true c)
        rw [if_pos (Or.inr c2)] at k
        exact ⟨one_le, fun q nq => k.same S (same_upd nq) upd_same nq⟩
      · have c2 : ¬ 60 < n := fun q => c (decide_eq_true (Int.ofNat_lt.mpr q))
        rw [if_neg (by rintro (z | z); exact cxy z; exact c2 z)] at k
        obtain ⟨b, ts, hb, hst⟩ := S.sell.get cx.1
        obtain ⟨b2, ts2, hb2, hst2⟩ := S.sell.get cx.2
        refine ⟨_, rfl, p, C, dx, _, _, rfl, hp, T.cl, T.nS, stF_sellers _ _ _ _, _, rfl, sa, _, _, _, rfl, rfl, SqL.of S.sell.lst, atI_nat (j := x) (v := .ref b) (by rw [List.getElem?_map, hb]; rfl), ?_⟩
        refine ⟨b, ts, _, rfl, hst, fun H1 ca s1 nca hca => ?_⟩
        refine ⟨_, rfl, p, C, dx, _, _, rfl, s1 _ _ hp, T.cl, T.nS, stF_sellers _ _ _ _, _, rfl, sa, _, _, _, rfl, rfl, SqL.of (s1 _ _ S.sell.lst), atI_nat (j := y) (v := .ref b2) (by rw [List.getElem?_map, hb2]; rfl), ?_⟩
        refine ⟨b2, ts2, _, rfl, hst2.same s1, fun H2 cb s2 ncb hcb => ?_⟩
        have s12 := s1.trans s2
        refine ⟨_, rfl, ca, cb, _, _, n, rfl, s2 _ _ hca, hcb, by omega, fun H3 q s3 nq hq => ?_⟩
        exact k.same S (s12.trans s3) hq (s12.free nq)
/-! ### tell_cheapest -/
theorem scCheap : FnScope ["store", "numbers", "wanted", "asked", "steps"] ["store", "numbers"] (defScope sCheap) := ⟨rfl, rfl, rfl, by decide +kernel, rfl, by decide +kernel, by decide +kernel⟩
def cheapAt (a : Su90.Abs) (n i : Nat) : Nat := Su90.cost (a.seller i) (Su90.buy (a.seller i) n)
theorem ok_cheap {f : Addr} {fd : FuncData} (F : Fun K "tell_cheapest" "tell_cheapest" sCheap f fd) (B : Bt mg) (N : Nums mg) (T : Txt K mg C) (cC : C8.Cal P w K mg base 2 "costs_of" spCosts []) (cL : C8.Cal P w K mg base 2 "least_cost" spLeast []) : FnOk P w K mg base CX0 3 f fd ["store", "numbers"] (spDo C (one .cheapest)) := by
  refine F.ok scCheap (fun vs H Q E h => sp_len h) (fun cdv A outer s H vs Q E hr h => ?_)
  obtain ⟨Z, p, l, ka, sa, as, ss, a, nums, c, rfl, hl, hc, S, Va, hZ, nl, k⟩ := h
  obtain ⟨n, rfl, rfl⟩ := one_inv hc
  obtain ⟨dx, hp⟩ := S.ins
  have v1 := Va.fewS
  refine ⟨_, pss_cons (ps_set (i := 2) scCheap.nd rfl (Or.inr rfl) (pe_ix ix_list (pv 1) pe_int (fun _ _ => rfl)))
    (pss_cons (ps_if (pt_cmpR op_gt (pv 2) (pe_num N.mBought) (nomark _)) (pss_one (ps_ret (pe_lst (pa_cons (pe_num N.outOf) pa_nil)))) pss_nil)
    (pss_cons (ps_if (pt_cmpR op_eq (pe_callB call_len_seq (by rfl) B.len PySem.boot_len (pa_cons (pe_fld (pv 0) rfl) pa_nil)) pe_int (nomark _)) (pss_one (ps_ret (pe_lst (pa_cons (pe_num N.none6) pa_nil)))) pss_nil)
    (pss_cons (ps_setLc (i := 3) (own := [("steps", 4)]) (g := gName 4) (tt := tYes) rfl scCheap.nd rfl rfl (sw_true rfl rfl rfl (by decide +kernel)) (pi_list (pe_fld (pv 0) rfl))
        (blkOk_by (N := ["store", "numbers", "wanted", "asked", "steps"]) (sc := defScope sCheap) (by decide +kernel)) (fun _ _ _ _ _ => pg_name (i := 4) scCheap.nd rfl (Or.inl rfl)) (fun _ _ _ _ _ => pts_nil)
        (fun _ _ _ _ _ => C8.pe_c cL hr (by decide) (by rfl) (pa_cons (C8.pe_c cC hr (by decide) (by rfl) (pa_cons (pv 4) pa_nil)) (pa_cons (pv 2) pa_nil))))
    (pss_one (ps_ret (pe_op op_cat (pe_lst (pa_cons (pe_bm PySem.F.plainAttrs_list PySem.F.slot_list_index PySem.F.type_list_index mt_index (pv 3) (pa_cons (pe_callB (cr_min rfl) (by rfl) B.min (by decide +kernel) (pa_cons (pv 3) pa_nil)) pa_nil)) pa_nil)) (pv 3))))))), ?_⟩
  refine ⟨_, rfl, l, _, _, _, rfl, rfl, SqL.of hl, at_vn (i := 0) Nat.zero_lt_one, _, rfl, _, _, rfl, rfl, _, rfl, ?_⟩
  have hd : Su90.does a (.cheapest n) = if 60 < n then (a, Su90.no (-22)) else if a.sellers = [] then (a, Su90.no (-6)) else (a, Su90.num ((List.range a.sellers.length).foldl (fun b s => if cheapAt a n s < cheapAt a n b then s else b) 0) ((List.range a.sellers.length).map (cheapAt a n))) := rfl
  refine ite2 (fun c => ?_) (fun c => ?_)
  · have c' : 60 < n := Int.ofNat_lt.mp (of_decide_eq_true c)
    rw [hd, if_pos c'] at k
    exact ⟨one_le, fun q nq => k.same S (same_upd nq) upd_same nq⟩
  · have c' : ¬ 60 < n := fun q => c (decide_eq_true (Int.ofNat_lt.mpr q))
    rw [hd, if_neg c'] at k
    refine ⟨_, rfl, p, C, dx, _, _, rfl, hp, T.cl, T.nS, stF_sellers _ _ _ _, sa, _, rfl, .inl (SqL.of S.sell.lst), rfl, _, rfl, ?_⟩
    rw [List.length_map, S.sell.len]
    by_cases c0 : a.sellers.length = 0
    · rw [if_pos (List.length_eq_zero_iff.mp c0)] at k
      refine if_true_of (decide_eq_true (by rw [c0]; rfl)) ?_
      exact ⟨one_le, fun q nq => k.same S (same_upd nq) upd_same nq⟩
    · rw [if_neg (fun z => c0 (List.length_eq_zero_iff.mpr z))] at k
      refine if_false_of (decide_eq_false fun z => c0 (by injection z with z; omega)) ?_
      refine ⟨_, rfl, p, C, dx, _, _, rfl, hp, T.cl, T.nS, stF_sellers _ _ _ _, sa, rfl, ⟨_, SqL.of S.sell.lst⟩, fun D nD => ?_⟩
      refine lc_list (K := K) (a := sa) (xs := ss.map V.ref) (fun i H' => Same H H' ∧ H' D = some (.lst (vn ((List.range i).map (cheapAt a n)))))
        ⟨same_upd nD, upd_same⟩ (fun i H' _ q => SqL.of (q.1 _ _ S.sell.lst)) ?_ ?_
      · rintro i x H1 hi ⟨s1, h1⟩
        rw [List.getElem?_map] at hi
        obtain ⟨b, hb, rfl⟩ := Option.map_eq_some_iff.mp hi
        have hib : i < a.sellers.length := by rw [← S.sell.len]; exact (List.getElem?_eq_some_iff.mp hb).1
        obtain ⟨b', ts, hb', hst⟩ := S.sell.get hib
        rw [hb] at hb'
        obtain rfl : b = b' := Option.some.inj hb'
        have Fi : MA.First (MA.costs (a.seller i)) n (Su90.buy (a.seller i) n) := MA.first_buy (by omega)
        refine ⟨rfl, ?_⟩
        refine ⟨_, rfl, b, ts, _, rfl, hst.same s1, fun H2 ca s2 nca hca => ?_⟩
        refine ⟨_, rfl, ca, _, n, _, rfl, hca, Fi, fun H3 s3 => ?_⟩
        have s13 := (s1.trans s2).trans s3
        refine ⟨_, s3 _ _ (s2 _ _ h1), small (by rw [vn_len, List.length_map, List.length_range]; omega), s13.upd_free nD, ?_⟩
        rw [upd_same, List.range_succ, List.map_append, vn_append, MA.costs_get (MA.buy_le (by omega))]
        rfl
      · rintro H1 ⟨s1, h1⟩
        rw [List.length_map, S.sell.len] at h1
        have lc : ((List.range a.sellers.length).map (cheapAt a n)).length = a.sellers.length := by simp
        have Fi := MA.first_cheap (f := cheapAt a n) lc (fun q hq => by rw [List.getD_eq_getElem?_getD, List.getElem?_map, List.getElem?_range hq]; rfl) (by omega)
        obtain ⟨x1, x2⟩ := first_index Fi
        rw [List.drop_zero, Nat.sub_zero] at x1 x2
        refine ⟨_, rfl, .inl ⟨rfl, _, SqL.of h1⟩, _, rfl, D, ((List.range a.sellers.length).map (cheapAt a n)).map (fun n : Nat => (n : Int)), rfl, by rw [vn_map_int]; exact SqL.of h1, by rw [List.length_map, lc]; omega, fun m hm hle => ?_⟩
        have em := first_min Fi (m := m) (by rw [List.drop_zero]; exact hm) (by rw [List.drop_zero]; exact hle)
        subst em
        refine ⟨D, _, _, _, _, rfl, rfl, SqL.of h1, rfl, all_flat _, x1, beq_self_eq_true _, x2, one_le, fun q nq => ?_⟩
        refine ⟨_, rfl, q, D, _, _, rfl, rfl, upd_same, (same_upd nq) _ _ h1, small' (by rw [vn_len, lc]; show 1 + a.sellers.length ≤ _; omega), fun r nr => ?_⟩
        exact k.same S ((s1.trans (same_upd nq)).trans (same_upd nr)) upd_same ((s1.trans (same_upd nq)).free nr)
end
end Su
namespace Su
open PySem PySem.Spec PyProof.Rows L2
abbrev sSums : Stmt := top 10
abbrev sState : Stmt := top 11
/-- what state tells of the sellers -/
def toldS (sl : List (List (Nat × Nat))) : List Nat := sl.flatMap fun s => s.length :: s.flatMap fun x => [x.1, x.2]
def toldX (st : List (Nat × Nat)) : List Nat := st.flatMap fun x => [x.1, x.2]
theorem toldX_snoc {st : List (Nat × Nat)} {i : Nat} {q : Nat × Nat} (h : st[i]? = some q) : toldX (st.take (i + 1)) = toldX (st.take i) ++ [q.1] ++ [q.2] := by
  unfold toldX
  rw [take_snoc h, List.flatMap_append, List.append_assoc]
  rfl
theorem toldS_snoc {sl : List (List (Nat × Nat))} {i : Nat} {st : List (Nat × Nat)} (h : sl[i]? = some st) : toldS (sl.take (i + 1)) = toldS (sl.take i) ++ [st.length] ++ toldX st := by
  unfold toldS
  rw [take_snoc h, List.flatMap_append, List.append_assoc]
  congr 1
  show (st.length :: toldX st) ++ [] = _
  rw [List.append_nil]
  rfl
theorem toldX_len (st : List (Nat × Nat)) : (toldX st).length = 2 * st.length := by
  induction st with
  | nil => rfl
  | cons x st ih =>
    show (toldX st).length + 1 + 1 = 2 * (st.length + 1)
    omega
theorem toldS_len (sl : List (List (Nat × Nat))) (h : ∀ s ∈ sl, s.length ≤ 4) : (toldS sl).length ≤ 9 * sl.length := by
  induction sl with
  | nil => exact Nat.le_refl _
  | cons s sl ih =>
    have h1 := h s List.mem_cons_self
    have h2 := ih fun t ht => h t (List.mem_cons_of_mem _ ht)
    have h3 := toldX_len s
    show ((s.length :: toldX s) ++ toldS sl).length ≤ 9 * (sl.length + 1)
    rw [List.length_append, List.length_cons]
    omega
theorem okS_len {s : List (Nat × Nat)} (h : Su90.okS s = true) : 1 ≤ s.length ∧ s.length ≤ 4 := by
  have := (MA.okS_iff s).mp h
  exact ⟨this.1, this.2.1⟩
section
variable {P : Program} {w : World} {K : PySem.W.Frag} {mg : Str → Option Value} {base : Heap} {C : Addr}
/-! ### tell_sums -/
theorem scSums : FnScope ["store", "numbers", "pieces", "worths"] ["store", "numbers"] (defScope sSums) := ⟨rfl, rfl, rfl, by decide +kernel, rfl, by decide +kernel, by decide +kernel⟩
theorem ok_sums {f : Addr} {fd : FuncData} (F : Fun K "tell_sums" "tell_sums" sSums f fd) (B : Bt mg) (T : Txt K mg C) (cW : C8.Cal P w K mg base 4 "worth_told" spWorth []) : FnOk P w K mg base CX0 5 f fd ["store", "numbers"] (spDo C (none0 .sums)) := by
  refine F.ok scSums (fun vs H Q E h => sp_len h) (fun cdv A outer s H vs Q E hr h => ?_)
  obtain ⟨Z, p, l, ka, sa, as, ss, a, nums, c, rfl, hl, hc, S, Va, hZ, nl, k⟩ := h
  obtain ⟨rfl, rfl⟩ := none0_inv hc
  obtain ⟨dx, hp⟩ := S.ins
  have v1 := Va.few
  have v2 := Va.room
  refine ⟨_, pss_cons (ps_set (i := 2) scSums.nd rfl (Or.inl rfl) (pe_callB (cr_sum rfl) (by rfl) B.sum (by decide +kernel) (pa_cons (pe_lc (own := [("worths", 3)]) (g := gName 3) (tt := tYes)
      (te := tCB (fun vs H Q => ∃ p xs, vs = [.ref p] ∧ (SqL K H p xs ∨ SqT K H p xs) ∧ Q (.int (xs.length : Nat)) H) (tCons (tVar 3) tNil)) rfl scSums.nd (pi_list (pe_fld (pv 0) rfl))
      (blkOk_by (N := ["store", "numbers", "pieces", "worths"]) (sc := defScope sSums) (by decide +kernel)) (fun _ _ _ _ _ => pg_name (i := 3) scSums.nd rfl (Or.inl rfl)) (fun _ _ _ _ _ => pts_nil)
      (fun _ _ _ _ _ => pe_callB call_len_seq (by rfl) B.len PySem.boot_len (pa_cons (pv 3) pa_nil))) pa_nil)))
    (pss_one (ps_ret (pe_lst (pa_cons pe_int (pa_cons (pe_callB call_len_seq (by rfl) B.len PySem.boot_len (pa_cons (pe_fld (pv 0) rfl) pa_nil)) (pa_cons (pv 2) (pa_cons (pe_callB call_len_seq (by rfl) B.len PySem.boot_len (pa_cons (pe_fld (pv 0) rfl) pa_nil))
      (pa_cons (C8.pe_c cW hr (by decide) (by rfl) (pa_cons (pe_fld (pv 0) rfl) (pa_cons (pe_fld (pv 0) rfl) pa_nil))) pa_nil)))))))), ?_⟩
  refine ⟨_, rfl, p, C, dx, _, _, rfl, hp, T.cl, T.nK, stF_kinds _ _ _ _, ka, rfl, ⟨_, SqL.of S.rows.lst⟩, fun D nD => ?_⟩
  refine lc_list (K := K) (a := ka) (xs := as.map V.ref) (fun i H' => Same H H' ∧ H' D = some (.lst (vn ((a.kinds.take i).map List.length))))
    ⟨same_upd nD, upd_same⟩ (fun i H' _ q => SqL.of (q.1 _ _ S.rows.lst)) ?_ ?_
  · rintro i x H1 hi ⟨s1, h1⟩
    rw [List.getElem?_map] at hi
    obtain ⟨b, hb, rfl⟩ := Option.map_eq_some_iff.mp hi
    obtain ⟨wl, hw, hbl⟩ := S.rows.at_ i b hb
    refine ⟨rfl, ?_⟩
    refine ⟨_, rfl, b, _, rfl, .inl (SqL.of (s1 _ _ hbl)), _, h1, small (by rw [vn_len, List.length_map, List.length_take]; omega), s1.upd_free nD, ?_⟩
    rw [upd_same, take_snoc hw, List.map_append, vn_append, vn_len]
    rfl
  · rintro H1 ⟨s1, h1⟩
    rw [List.length_map, S.rows.len, List.take_length] at h1
    refine ⟨D, (a.kinds.map List.length).map (fun n : Nat => (n : Int)), rfl, by rw [vn_map_int]; exact SqL.of h1, ?_⟩
    rw [MA.sum_cast]
    refine ⟨_, rfl, p, C, dx, _, _, rfl, s1 _ _ hp, T.cl, T.nK, stF_kinds _ _ _ _, ka, _, rfl, .inl (SqL.of (s1 _ _ S.rows.lst)), _, rfl, _, rfl, p, C, dx, _, _, rfl, s1 _ _ hp, T.cl, T.nS, stF_sellers _ _ _ _, sa, _, rfl, .inl (SqL.of (s1 _ _ S.sell.lst)), ?_⟩
    refine ⟨_, rfl, p, C, dx, _, _, rfl, s1 _ _ hp, T.cl, T.nK, stF_kinds _ _ _ _, _, rfl, p, C, dx, _, _, rfl, s1 _ _ hp, T.cl, T.nP, stF_places _ _ _ _, ka, as, a, a.room, rfl, S.rows.same s1, by omega, by omega, fun H2 s2 => ⟨(by show 5 ≤ sizeLine; decide), fun q nq => ?_⟩⟩
    have s12 := s1.trans s2
    refine k.same S (s12.trans (same_upd nq)) ?_ (s12.free nq)
    rw [upd_same, List.length_map, List.length_map, S.rows.len, S.sell.len]
    rfl
/-! ### tell_state -/
theorem scState : FnScope ["store", "numbers", "told", "steps", "start", "asked"] ["store", "numbers"] (defScope sState) := ⟨rfl, rfl, rfl, by decide +kernel, rfl, by decide +kernel, by decide +kernel⟩
theorem ok_state {f : Addr} {fd : FuncData} (F : Fun K "tell_state" "tell_state" sState f fd) (B : Bt mg) (T : Txt K mg C) : FnOk P w K mg base CX0 1 f fd ["store", "numbers"] (spDo C (none0 .state)) := by
  refine F.ok scState (fun vs H Q E h => sp_len h) (fun cdv A outer s H vs Q E hr h => ?_)
  obtain ⟨Z, p, l, ka, sa, as, ss, a, nums, c, rfl, hl, hc, S, Va, hZ, nl, k⟩ := h
  obtain ⟨rfl, rfl⟩ := none0_inv hc
  obtain ⟨dx, hp⟩ := S.ins
  have v1 := Va.fewS
  refine ⟨_, pss_cons (ps_set (i := 2) scState.nd rfl (Or.inl rfl) (pe_lst (pa_cons (pe_fld (pv 0) rfl) (pa_cons (pe_callB call_len_seq (by rfl) B.len PySem.boot_len (pa_cons (pe_fld (pv 0) rfl) pa_nil)) (pa_cons (pe_callB call_len_seq (by rfl) B.len PySem.boot_len (pa_cons (pe_fld (pv 0) rfl) pa_nil)) pa_nil)))))
    (pss_cons (ps_for PassesOwn.never rfl (pi_list (pe_fld (pv 0) rfl)) (pg_name (i := 3) scState.nd rfl (Or.inl rfl))
      (pss_cons (ps_expr (pe_bm PySem.F.plainAttrs_list PySem.F.slot_list_append PySem.F.type_list_append mt_append (pv 2) (pa_cons (pe_callB call_len_seq (by rfl) B.len PySem.boot_len (pa_cons (pv 3) pa_nil)) pa_nil)))
      (pss_one (ps_for PassesOwn.never rfl (pi_list (pv 3)) (pg_tup rfl (pgs_cons (pg_name (i := 4) scState.nd rfl (Or.inl rfl)) (pgs_cons (pg_name (i := 5) scState.nd rfl (Or.inl rfl)) pgs_nil)))
        (pss_cons (ps_expr (pe_bm PySem.F.plainAttrs_list PySem.F.slot_list_append PySem.F.type_list_append mt_append (pv 2) (pa_cons (pv 4) pa_nil)))
        (pss_one (ps_expr (pe_bm PySem.F.plainAttrs_list PySem.F.slot_list_append PySem.F.type_list_append mt_append (pv 2) (pa_cons (pv 5) pa_nil)))))))))
    (pss_one (ps_ret (pv 2)))), ?_⟩
  refine ⟨_, rfl, p, C, dx, _, _, rfl, hp, T.cl, T.nP, stF_places _ _ _ _, _, rfl, p, C, dx, _, _, rfl, hp, T.cl, T.nK, stF_kinds _ _ _ _, ka, _, rfl, .inl (SqL.of S.rows.lst), _, rfl, p, C, dx, _, _, rfl, hp, T.cl, T.nS, stF_sellers _ _ _ _, sa, _, rfl, .inl (SqL.of S.sell.lst), (by show 3 ≤ sizeLine; decide), fun ta nta => ?_⟩
  rw [List.length_map, List.length_map, S.rows.len, S.sell.len]
  have s1 := same_upd (o := .lst [.int ((a.room : Nat) : Int), .int ((a.kinds.length : Nat) : Int), .int ((a.sellers.length : Nat) : Int)]) nta
  have l4 : ∀ s ∈ a.sellers, s.length ≤ 4 := fun s hs => (okS_len (Va.okS s hs)).2
  refine ⟨_, rfl, p, C, dx, _, _, rfl, s1 _ _ hp, T.cl, T.nS, stF_sellers _ _ _ _, sa, rfl, ⟨_, SqL.of (s1 _ _ S.sell.lst)⟩, ?_⟩
  refine for_list (K := K) (a := sa) (xs := ss.map V.ref) (fun i σ H' => ∃ v3 v4 v5, σ = [some (.ref p), some (.ref l), some (.ref ta), v3, v4, v5] ∧ Same H H' ∧ H' ta = some (.lst (vn ([a.room, a.kinds.length, a.sellers.length] ++ toldS (a.sellers.take i)))))
    ⟨none, none, none, rfl, s1, upd_same⟩ (fun i σ H' _ ⟨_, _, _, _, q, _⟩ => SqL.of (q _ _ S.sell.lst)) ?_ ?_
  · rintro i x σ H1 hx ⟨v3, v4, v5, rfl, s2, h2⟩
    rw [List.getElem?_map] at hx
    obtain ⟨b, hb, rfl⟩ := Option.map_eq_some_iff.mp hx
    have hib : i < a.sellers.length := by rw [← S.sell.len]; exact (List.getElem?_eq_some_iff.mp hb).1
    obtain ⟨st, ts, hst, R, _⟩ := S.sell.at_ i b hb
    have hl4 := l4 st (List.mem_of_getElem? hst)
    have hlS := toldS_len (a.sellers.take i) fun s hs => l4 s (List.mem_of_mem_take hs)
    rw [List.length_take, Nat.min_eq_left (by omega)] at hlS
    refine ⟨_, rfl, .inl ⟨rfl, _, SqL.of h2⟩, _, rfl, b, _, rfl, .inl (SqL.of (s2 _ _ R.lst)), ta, _, _, rfl, rfl, h2, small (by rw [vn_len, List.length_append]; show 3 + _ ≤ _; omega), ?_⟩
    rw [List.length_map, R.len]
    have s3 := s2.upd_free (o := .lst (vn ([a.room, a.kinds.length, a.sellers.length] ++ toldS (a.sellers.take i)) ++ [V.int ((st.length : Nat) : Int)])) nta
    refine ⟨_, rfl, b, rfl, ⟨_, SqL.of (s3 _ _ R.lst)⟩, ?_⟩
    refine for_list (K := K) (a := b) (xs := ts.map V.ref) (fun j σ H' => ∃ v4 v5, σ = [some (.ref p), some (.ref l), some (.ref ta), some (.ref b), v4, v5] ∧ Same H H' ∧ H' ta = some (.lst (vn ([a.room, a.kinds.length, a.sellers.length] ++ toldS (a.sellers.take i) ++ [st.length] ++ toldX (st.take j)))))
      ⟨v4, v5, rfl, s3, ?_⟩ (fun j σ H' _ ⟨_, _, _, q, _⟩ => SqL.of (q _ _ R.lst)) ?_ ?_
    · rw [upd_same]
      show _ = some (HO.lst (vn (_ ++ [])))
      rw [List.append_nil, vn_append (_ ++ _)]
      rfl
    · rintro j x σ H2 hx ⟨v4, v5, rfl, s4, h4⟩
      rw [List.getElem?_map] at hx
      obtain ⟨t, ht, rfl⟩ := Option.map_eq_some_iff.mp hx
      obtain ⟨q, hq, hh⟩ := R.at_ j t ht
      have hjt : j < st.length := (List.getElem?_eq_some_iff.mp hq).1
      have hlX := toldX_len (st.take j)
      rw [List.length_take, Nat.min_eq_left (by omega)] at hlX
      refine ⟨t, _, rfl, SqT.of (s4 _ _ hh), rfl, _, _, rfl, _, _, rfl, rfl, ?_⟩
      refine ⟨_, rfl, .inl ⟨rfl, _, SqL.of h4⟩, _, rfl, ta, _, _, rfl, rfl, h4, small (by rw [vn_len, List.length_append, List.length_append, List.length_append]; show 3 + _ + 1 + _ ≤ _; omega), ?_⟩
      have s5 := s4.upd_free (o := .lst (vn ([a.room, a.kinds.length, a.sellers.length] ++ toldS (a.sellers.take i) ++ [st.length] ++ toldX (st.take j)) ++ [V.int ((q.1 : Nat) : Int)])) nta
      refine ⟨_, rfl, .inl ⟨rfl, _, SqL.of upd_same⟩, _, rfl, ta, _, _, rfl, rfl, upd_same, small (by rw [List.length_append, vn_len, List.length_append, List.length_append, List.length_append]; show 3 + _ + 1 + _ + 1 ≤ _; omega), ?_⟩
      refine ⟨some (.int (q.1 : Nat)), some (.int (q.2 : Nat)), rfl, s5.upd_free nta, ?_⟩
      rw [upd_same, toldX_snoc hq, ← List.append_assoc, ← List.append_assoc, vn_append (_ ++ [q.1]), vn_append _ [q.1]]
      rfl
    · rintro σ H2 ⟨v4, v5, rfl, s4, h4⟩
      refine ⟨some (.ref b), v4, v5, rfl, s4, ?_⟩
      rw [h4, List.length_map, R.len, List.take_length, toldS_snoc hst, List.append_assoc, List.append_assoc, List.append_assoc]
  · rintro σ H1 ⟨v3, v4, v5, rfl, s2, h2⟩
    refine ⟨_, rfl, ?_⟩
    refine k.same S s2 ?_ nta
    rw [h2, List.length_map, S.sell.len, List.take_length]
    rfl
end
end Su
namespace Su
open PySem PySem.Spec PyProof.Rows L2
abbrev sInit : Stmt := inClass (top 69) 0
abbrev sAnsTo : Stmt := top 72
abbrev sAnswers : Stmt := top 73
/-- the object as it stands: before a begin, or behind one -/
def StAt (C : Addr) (Z : Addr → Prop) (H : Hp) (p ka sa : Addr) (as ss : List Addr) : Option Su90.Abs → Prop
  | none => StoreAt C Z H p ka sa as ss false 0 [] []
  | some a => StoreAt C Z H p ka sa as ss true a.room a.kinds a.sellers
def DoneO (C : Addr) (Z : Addr → Prop) (H : Hp) (p : Addr) (st : Option Su90.Abs) (z : Su90.Ans) (Q : VK) : Prop := ∀ (H' : Hp) (q kb sb : Addr) (bs ts : List Addr), StAt C Z H' p kb sb bs ts st → H' q = some (.lst (ansV z)) → H q = none →
  (∀ b o, H b = some o → Z b → H' b = some o) → Q (.ref q) H'
def ValidO (st : Option Su90.Abs) : Prop := ∀ a, st = some a → Valid a
section
variable {C : Addr} {Z : Addr → Prop} {H H' : Hp} {p ka sa : Addr} {as ss : List Addr} {st : Option Su90.Abs}
theorem StAt.same (S : StAt C Z H p ka sa as ss st) (s : Same H H') : StAt C Z H' p ka sa as ss st := by
  cases st with
  | none => exact StoreAt.same S s
  | some a => exact StoreAt.same S s
theorem StAt.keep {Z' : Addr → Prop} (S : StAt C Z H p ka sa as ss st) (hZ : ∀ b, Z' b → Z b) (kp : ∀ b o, H b = some o → ¬ Z b → H' b = some o) : StAt C Z' H' p ka sa as ss st := by
  cases st with
  | none => exact StoreAt.keep S hZ kp
  | some a => exact StoreAt.keep S hZ kp
theorem StAt.off (S : StAt C Z H p ka sa as ss st) : ¬ Z p ∧ ¬ Z ka ∧ ¬ Z sa := by
  cases st with
  | none => exact StoreAt.off S
  | some a => exact StoreAt.off S
theorem StAt.begun (S : StAt C Z H p ka sa as ss st) : ∃ dx r, H p = some (.ins C dx (stF st.isSome r ka sa)) := by
  cases st with
  | none =>
    obtain ⟨dx, h⟩ := StoreAt.ins S
    exact ⟨dx, 0, h⟩
  | some a =>
    obtain ⟨dx, h⟩ := StoreAt.ins S
    exact ⟨dx, a.room, h⟩
end
/-- the promise of the def that answers the call of a number -/
def specOf (C : Addr) (n : Nat) : Sp := if n = 0 then spBegin C else spDo C (MA.callN n)
/-- the defs' tables -/
structure Tabs (P : Program) (w : World) (K : PySem.W.Frag) (mg : Str → Option Value) (base : Heap) (C : Addr) (fs : Nat → Addr) (d1 d2 d3 : Addr) (k1 k2 k3 : List (Int × Value)) : Prop where
  D1 : IKD K d1 k1
  g1 : mg "SHELF_CALLS" = some (.ref d1)
  D2 : IKD K d2 k2
  g2 : mg "SELLER_CALLS" = some (.ref d2)
  D3 : IKD K d3 k3
  g3 : mg "OVERVIEW_CALLS" = some (.ref d3)
  l1 : ∀ n : Nat, n < 21 → k1.lookup (n : Int) = if n < 12 then some (.ref (fs n)) else none
  l2 : ∀ n : Nat, n < 21 → k2.lookup (n : Int) = if 12 ≤ n ∧ n < 19 then some (.ref (fs n)) else none
  l3 : ∀ n : Nat, n < 21 → k3.lookup (n : Int) = if 19 ≤ n then some (.ref (fs n)) else none
  fn : ∀ n : Nat, n < 21 → FnR P w K mg base CX0 6 (fs n) (specOf C n) ∧ PySem.W.keepIn K (.ref (fs n)) = true
section
variable {P : Program} {w : World} {K : PySem.W.Frag} {mg : Str → Option Value} {base : Heap} {C : Addr}
/-! ### Store.__init__ -/
def spInit (C : Addr) : Sp := fun vs H Q _ => ∃ (x dx : Addr), vs = [.ref x] ∧ H x = some (.ins C dx []) ∧
  ∀ H' ka sa, H' x = some (.ins C dx (stF false 0 ka sa)) → H' ka = some (.lst []) → H' sa = some (.lst []) → H ka = none → H sa = none → ka ≠ sa → (∀ b o, H b = some o → b ≠ x → H' b = some o) → Q .non H'
theorem scInit : FnScope ["self"] ["self"] (defScope sInit) := ⟨rfl, rfl, rfl, by decide +kernel, rfl, by decide +kernel, by decide +kernel⟩
theorem ok_init {f : Addr} {fd : FuncData} (F : Fun K "__init__" "Store.__init__" sInit f fd) (T : Txt K mg C) : FnOk P w K mg base CX0 1 f fd ["self"] (spInit C) := by
  refine F.ok scInit (fun vs H Q E h => ?_) (fun cdv A outer s H vs Q E hr h => ?_)
  · obtain ⟨x, dx, rfl, _⟩ := h
    rfl
  · obtain ⟨x, dx, rfl, hx, k⟩ := h
    refine ⟨_, pss_cons (ps_fld (pv 0) pe_bl rfl) (pss_cons (ps_fld (pv 0) pe_int rfl) (pss_cons (ps_fld (pv 0) (pe_lst pa_nil) rfl) (pss_one (ps_fld (pv 0) (pe_lst pa_nil) rfl)))), ?_⟩
    refine ⟨_, rfl, x, C, dx, _, rfl, hx, T.cl, T.nB, (by show 0 < 1000; decide), ?_⟩
    refine ⟨_, rfl, x, C, dx, _, rfl, upd_same, T.cl, T.nP, (by show 1 < 1000; decide), ?_⟩
    refine ⟨Nat.zero_le _, fun ka nka => ?_⟩
    have nxk : x ≠ ka := ne_of_none upd_same nka
    refine ⟨_, rfl, x, C, dx, _, rfl, by rw [upd_ne nxk]; exact upd_same, T.cl, T.nK, (by show 2 < 1000; decide), ?_⟩
    refine ⟨Nat.zero_le _, fun sa nsa => ?_⟩
    have nxs : x ≠ sa := ne_of_none upd_same nsa
    have nks : ka ≠ sa := ne_of_none (by rw [upd_ne nxk.symm]; exact upd_same) nsa
    refine ⟨_, rfl, x, C, dx, _, rfl, by rw [upd_ne nxs]; exact upd_same, T.cl, T.nS, (by show 3 < 1000; decide), ?_⟩
    have nka0 : H ka = none := by
      rw [upd_ne nxk.symm, upd_ne nxk.symm] at nka
      exact nka
    have nsa0 : H sa = none := by
      rw [upd_ne nxs.symm, upd_ne nks.symm, upd_ne nxs.symm, upd_ne nxs.symm] at nsa
      exact nsa
    have e0 : putF "begun" (.bl false) [] = ([("begun", V.bl false)] : List (Str × V)) := rfl
    have e1 : putF "places" (.int 0) ([("begun", V.bl false)] : List (Str × V)) = ([("begun", V.bl false), ("places", V.int 0)] : List (Str × V)) := (put_past (by decide +kernel)).trans rfl
    have e2 : putF "kinds" (.ref ka) ([("begun", V.bl false), ("places", V.int 0)] : List (Str × V)) = ([("begun", V.bl false), ("places", V.int 0), ("kinds", V.ref ka)] : List (Str × V)) := (put_past (by decide +kernel)).trans (congrArg _ ((put_past (by decide +kernel)).trans rfl))
    have e3 : putF "sellers" (.ref sa) ([("begun", V.bl false), ("places", V.int 0), ("kinds", V.ref ka)] : List (Str × V)) = stF false 0 ka sa := (put_past (by decide +kernel)).trans (congrArg _ ((put_past (by decide +kernel)).trans (congrArg _ ((put_past (by decide +kernel)).trans rfl))))
    rw [e0, e1, e2, e3]
    refine k _ ka sa upd_same (by rw [upd_ne nxk.symm, upd_ne nks, upd_ne nxk.symm]; exact upd_same) (by rw [upd_ne nxs.symm]; exact upd_same) nka0 nsa0 nks fun b o e nb => ?_
    have m1 : b ≠ ka := ne_of_none e nka0
    have m2 : b ≠ sa := ne_of_none e nsa0
    rw [upd_ne nb, upd_ne m2, upd_ne nb, upd_ne m1, upd_ne nb, upd_ne nb]
    exact e
/-! ### answer_to -/
def spAnsTo (C : Addr) : Sp := fun vs H Q _ => ∃ (Z : Addr → Prop) (p l ka sa : Addr) (as ss : List Addr) (st : Option Su90.Abs) (n : Nat) (nums : List Nat) (x : Su90.Call), vs = [.ref p, .int (n : Int), .ref l] ∧ n < 21 ∧ H l = some (.lst (vn nums)) ∧ MA.callN n nums = some x ∧ (n = 0 ↔ ∃ r, x = .begin_ r) ∧
  StAt C Z H p ka sa as ss st ∧ ValidO st ∧ ZOk Z H ∧ Deep Z p ka sa l ∧ DoneO C Z H p (Su90.step st x).1 (Su90.step st x).2 Q
theorem spec_run {Z : Addr → Prop} {p l ka sa : Addr} {as ss : List Addr} {st : Option Su90.Abs} {n : Nat} {nums : List Nat} {x : Su90.Call} {H : Hp} {Q : VK} {E : XK} (hl : H l = some (.lst (vn nums))) (hc : MA.callN n nums = some x) (S : StAt C Z H p ka sa as ss st) (V : ValidO st) (hZ : ZOk Z H) (nl : Deep Z p ka sa l) (k : DoneO C Z H p (Su90.step st x).1 (Su90.step st x).2 Q) (hv : n = 0 ∨ st.isSome = true) : specOf C n [.ref p, .ref l] H Q E := by
  unfold specOf
  by_cases c0 : n = 0
  · subst c0
    rw [if_pos rfl]
    have hc' : MA.one .begin_ nums = some x := hc
    obtain ⟨r, rfl, rfl⟩ := one_inv hc'
    have hd : ∀ a, Su90.does a (.begin_ r) = if 20 < r then (a, Su90.no (-22)) else (Su90.new r, Su90.no 0) := fun _ => rfl
    cases st with
    | none =>
      have hs : Su90.step none (.begin_ r) = (if (Su90.does (Su90.new 0) (.begin_ r)).2.value < 0 then none else some (Su90.does (Su90.new 0) (.begin_ r)).1, (Su90.does (Su90.new 0) (.begin_ r)).2) := rfl
      rw [hs] at k
      refine ⟨Z, p, l, ka, sa, as, ss, false, 0, [], [], r, rfl, hl, S, hZ, fun h20 H' q s hq nq => ?_, fun h20 H' q kb sb S' hq nq kp => ?_⟩
      · rw [(hd (Su90.new 0)).trans (if_pos h20)] at k
        exact k H' q ka sa as ss (StAt.same (st := none) S s) hq nq fun b o e _ => s b o e
      · rw [(hd (Su90.new 0)).trans (if_neg (show ¬ 20 < r by omega))] at k
        exact k H' q kb sb [] [] S' hq nq kp
    | some a =>
      have hs : Su90.step (some a) (.begin_ r) = (some (Su90.does a (.begin_ r)).1, (Su90.does a (.begin_ r)).2) := rfl
      rw [hs, hd] at k
      refine ⟨Z, p, l, ka, sa, as, ss, true, a.room, a.kinds, a.sellers, r, rfl, hl, S, hZ, fun h20 H' q s hq nq => ?_, fun h20 H' q kb sb S' hq nq kp => ?_⟩
      · rw [if_pos h20] at k
        exact k H' q ka sa as ss (StAt.same (st := some a) S s) hq nq fun b o e _ => s b o e
      · rw [if_neg (by omega)] at k
        exact k H' q kb sb [] [] S' hq nq kp
  · rw [if_neg c0]
    cases st with
    | none => rcases hv with h | h; exact absurd h c0; cases h
    | some a => exact ⟨Z, p, l, ka, sa, as, ss, a, nums, x, rfl, hl, hc, S, V a rfl, hZ, nl, k⟩
theorem step_not {n : Nat} {x : Su90.Call} (h : n = 0 ↔ ∃ r, x = .begin_ r) (h0 : ¬ n = 0) : Su90.step none x = (none, Su90.no (-11)) := by
  cases x with
  | begin_ r => exact absurd (h.mpr ⟨r, rfl⟩) h0
  | _ => rfl
theorem scAnsTo : FnScope ["store", "number", "numbers"] ["store", "number", "numbers"] (defScope sAnsTo) := ⟨rfl, rfl, rfl, by decide +kernel, rfl, by decide +kernel, by decide +kernel⟩
theorem ok_ansTo {f : Addr} {fd : FuncData} {fs : Nat → Addr} {d1 d2 d3 : Addr} {k1 k2 k3 : List (Int × Value)} (F : Fun K "answer_to" "answer_to" sAnsTo f fd) (N : Nums mg) (T : Txt K mg C) (Tb : Tabs P w K mg base C fs d1 d2 d3 k1 k2 k3) : FnOk P w K mg base CX0 7 f fd ["store", "number", "numbers"] (spAnsTo C) := by
  refine F.ok scAnsTo (fun vs H Q E h => ?_) (fun cdv A outer s H vs Q E hr h => ?_)
  · obtain ⟨Z, p, l, ka, sa, as, ss, st, n, nums, x, rfl, _⟩ := h
    rfl
  · obtain ⟨Z, p, l, ka, sa, as, ss, st, n, nums, x, rfl, hn, hl, hc, hb, S, Va, hZ, nl, k⟩ := h
    have FF : ∀ f sp, (∃ n, n < 21 ∧ f = fs n ∧ sp = specOf C n) → FnR P w K mg base CX0 6 f sp ∧ PySem.W.keepIn K (.ref f) = true := fun f sp ⟨n, h1, h2, h3⟩ => by
      rw [h2, h3]
      exact Tb.fn n h1
    refine ⟨_, C8.pss_cut (ps_if (pw_and (pt_cmpR op_ne (pv 1) (pe_num N.begin0) (nomark _)) (pw_and1 (pt_not (pt_val (pe_fld (pv 0) rfl))))).pt (pss_one (ps_ret (pe_lst (pa_cons (pe_num N.notBegun) pa_nil)))) pss_nil)
      (pss_cons (ps_if (pt_cmpR (op_in_ikd Tb.D1) (pv 1) (pe_glob (v := .ref d1) rfl Tb.g1 rfl) (by rfl)) (pss_one (ps_ret (pe_callE (S := fun f sp => ∃ n, n < 21 ∧ f = fs n ∧ sp = specOf C n) (E := E0) (pe_ix (ix_ikd Tb.D1) (pe_glob (v := .ref d1) rfl Tb.g1 rfl) (pv 1) (fun _ _ => rfl)) FF hr pass0 (pa_cons (pv 0) (pa_cons (pv 2) pa_nil))))) pss_nil)
      (pss_cons (ps_if (pt_cmpR (op_in_ikd Tb.D2) (pv 1) (pe_glob (v := .ref d2) rfl Tb.g2 rfl) (by rfl)) (pss_one (ps_ret (pe_callE (S := fun f sp => ∃ n, n < 21 ∧ f = fs n ∧ sp = specOf C n) (E := E0) (pe_ix (ix_ikd Tb.D2) (pe_glob (v := .ref d2) rfl Tb.g2 rfl) (pv 1) (fun _ _ => rfl)) FF hr pass0 (pa_cons (pv 0) (pa_cons (pv 2) pa_nil))))) pss_nil)
      (pss_one (ps_ret (pe_callE (S := fun f sp => ∃ n, n < 21 ∧ f = fs n ∧ sp = specOf C n) (E := E0) (pe_ix (ix_ikd Tb.D3) (pe_glob (v := .ref d3) rfl Tb.g3 rfl) (pv 1) (fun _ _ => rfl)) FF hr pass0 (pa_cons (pv 0) (pa_cons (pv 2) pa_nil))))))), ?_⟩
    obtain ⟨dx, r, hp⟩ := S.begun
    refine ⟨fun σ' H' => σ' = [some (.ref p), some (.int (n : Int)), some (.ref l)] ∧ H' = H ∧ (n = 0 ∨ st.isSome = true), ?_, ?_⟩
    rotate_left
    · -- behind the first test
      rintro σ' H' ⟨rfl, rfl, hv⟩
      have go := spec_run (E := E0) hl hc S Va hZ nl k hv
      have q1 := Tb.l1 n hn
      have q2 := Tb.l2 n hn
      have q3 := Tb.l3 n hn
      refine ⟨_, rfl, (n : Int), rfl, rfl, _, rfl, ?_⟩
      by_cases c1 : n < 12
      · rw [if_pos c1] at q1
        rw [q1]
        refine iteT ?_
        exact ⟨_, rfl, (n : Int), _, .ref (fs n), rfl, rfl, q1, rfl, fs n, _, rfl, ⟨n, hn, rfl, rfl⟩, _, rfl, _, rfl, go⟩
      · rw [if_neg c1] at q1
        rw [q1]
        refine iteF ?_
        refine ⟨_, rfl, (n : Int), rfl, rfl, _, rfl, ?_⟩
        by_cases c2 : n < 19
        · rw [if_pos ⟨by omega, c2⟩] at q2
          rw [q2]
          refine iteT ?_
          exact ⟨_, rfl, (n : Int), _, .ref (fs n), rfl, rfl, q2, rfl, fs n, _, rfl, ⟨n, hn, rfl, rfl⟩, _, rfl, _, rfl, go⟩
        · rw [if_neg (fun z => c2 z.2)] at q2
          rw [q2]
          refine iteF ?_
          rw [if_pos (by omega)] at q3
          exact ⟨_, rfl, (n : Int), _, .ref (fs n), rfl, rfl, q3, rfl, fs n, _, rfl, ⟨n, hn, rfl, rfl⟩, _, rfl, _, rfl, go⟩
    refine ⟨_, rfl, rfl, _, rfl, ?_⟩
    by_cases c0 : n = 0
    · refine if_false_of (by subst c0; rfl) ?_
      refine iteF ?_
      exact ⟨rfl, rfl, Or.inl c0⟩
    · have e0 : decide (V.int (n : Int) = V.int 0) = false := decide_eq_false fun z => c0 (by injection z with z; omega)
      refine if_true_of (by rw [e0]; rfl) ?_
      refine ⟨_, rfl, p, C, dx, _, _, rfl, hp, T.cl, T.nB, stF_begun _ _ _ _, _, rfl, ?_⟩
      cases st with
      | none =>
        rw [step_not hb c0] at k
        refine if_true_of (c := !false) rfl ?_
        exact ⟨one_le, fun q nq => k _ q ka sa as ss (StAt.same (st := none) S (same_upd nq)) upd_same nq fun b o e _ => same_upd nq b o e⟩
      | some a =>
        refine if_false_of (c := !true) rfl ?_
        exact ⟨rfl, rfl, Or.inr rfl⟩
end
end Su
namespace Su
open PySem PySem.Spec PyProof.Rows L2
/-! ### the specification, call by call -/
abbrev stepF (s : Su90Neutral.S) (c : List (List Int)) : Su90Neutral.S × List Int := Su90Neutral.step s (c.headD [])
theorem answers_of {ns : List Int} {raw : List (List (List Int))} (h : PyFlat.calls PySu90.shape ns.length ns = some raw) : PySu90.answers ns = PyFlat.told (PyFlat.played stepF none (raw.map PySu90.whole)) := by
  unfold PySu90.answers PySu90.calls
  rw [h]
  rfl
theorem asked_of {ns : List Int} (h : PySu90.answers_asked ns = true) : ∃ raw, PyFlat.calls PySu90.shape ns.length ns = some raw ∧ (PySu90.answers ns).length ≤ 10000000 := by
  unfold PySu90.answers_asked at h
  cases e : PyFlat.calls PySu90.shape ns.length ns with
  | none => rw [e] at h; cases h
  | some raw =>
    rw [e] at h
    simp only [Bool.and_eq_true] at h
    refine ⟨raw, rfl, ?_⟩
    have := h.2
    unfold PyFlat.short at this
    exact of_decide_eq_true this
def ansI (z : Su90.Ans) : List Int := z.value :: Su90Neutral.outs z.out
theorem ansV_ints (z : Su90.Ans) : ansV z = (ansI z).map V.int := by
  unfold ansV ansI Su90Neutral.outs
  rw [List.map_cons, vn_ints]
theorem told_step {raw : List (List (List Int))} {i : Nat} {c : List (List Int)} {st : Option Su90.Abs} {x : Su90.Call} (hi : raw[i]? = some c) (hf : MA.Formed c) (hx : Su90Neutral.callOf (MA.numOf c :: MA.argsOf c) = some x) :
    PyFlat.told (PyFlat.played stepF st ((raw.drop i).map PySu90.whole)) = ((ansI (Su90.step st x).2).length : Int) :: ansI (Su90.step st x).2 ++ PyFlat.told (PyFlat.played stepF (Su90.step st x).1 ((raw.drop (i + 1)).map PySu90.whole)) := by
  obtain ⟨hl, e⟩ := List.getElem?_eq_some_iff.mp hi
  rw [List.drop_eq_getElem_cons hl, e, List.map_cons]
  have hs : stepF st (PySu90.whole c) = ((Su90.step st x).1, ansI (Su90.step st x).2) := by
    unfold stepF
    rw [MA.whole_formed hf]
    unfold Su90Neutral.step
    rw [hx]
    rfl
  show PyFlat.told ((stepF st (PySu90.whole c)).2 :: PyFlat.played stepF (stepF st (PySu90.whole c)).1 _) = _
  rw [hs]
  rfl
theorem args_vn {l : List Int} (h : ∀ x ∈ l, 0 ≤ x) : l.map V.int = vn (l.map Int.toNat) := by
  rw [vn_ints, MA.nats_of h]
theorem valid_step {st : Option Su90.Abs} (v : ValidO st) (x : Su90.Call) : ValidO (Su90.step st x).1 := by
  cases st with
  | some a =>
    intro b hb
    have : b = (Su90.does a x).1 := (Option.some.inj hb).symm
    rw [this]
    exact MA.valid_does (v a rfl) x
  | none =>
    cases x with
    | begin_ r =>
      intro b hb
      have hs : Su90.step none (.begin_ r) = (if (Su90.does (Su90.new 0) (.begin_ r)).2.value < 0 then none else some (Su90.does (Su90.new 0) (.begin_ r)).1, (Su90.does (Su90.new 0) (.begin_ r)).2) := rfl
      rw [hs] at hb
      simp only at hb
      split at hb
      · cases hb
      · rw [← Option.some.inj hb]
        exact MA.valid_does (MA.valid_new (by omega)) _
    | _ => intro b hb; cases hb
/-- what the store has nothing of: the list told, the calls that are still to come -/
def ZA (ta fl : Addr) (ts ls : List Addr) (i : Nat) (b : Addr) : Prop := b = ta ∨ b = fl ∨ ∃ j, i ≤ j ∧ (ts[j]? = some b ∨ ls[j]? = some b)
theorem ZA.less {ta fl : Addr} {ts ls : List Addr} {i : Nat} {b : Addr} (h : ZA ta fl ts ls (i + 1) b) : ZA ta fl ts ls i b := by
  rcases h with h | h | ⟨j, hj, h⟩
  · exact Or.inl h
  · exact Or.inr (Or.inl h)
  · exact Or.inr (Or.inr ⟨j, by omega, h⟩)
/-- the calls from i on, as they stand -/
def Rest (H : Hp) (ts ls : List Addr) (cs : List (List (List Int))) (i : Nat) : Prop := ∀ (j : Nat) (t l : Addr), i ≤ j → ts[j]? = some t → ls[j]? = some l → ∃ c, cs[j]? = some c ∧ H t = some (.tup [.int (MA.numOf c), .ref l]) ∧ H l = some (.lst ((MA.argsOf c).map V.int))
section
variable {P : Program} {w : World} {K : PySem.W.Frag} {mg : Str → Option Value} {base : Heap} {C : Addr}
def spAnswers (K : PySem.W.Frag) : Sp := fun vs H Q _ => ∃ (a : Addr) (ns : List Int), vs = [.ref a] ∧ SqL K H a (ns.map V.int) ∧ ns.length ≤ 5600 ∧ (∀ x ∈ ns, 0 ≤ x) ∧ PySu90.answers_asked ns = true ∧ ∀ H' q, H' q = some (.lst ((PySu90.answers ns).map V.int)) → Q (.ref q) H'
theorem scAnswers : FnScope ["calls", "store", "told", "number", "numbers", "answer"] ["calls"] (defScope sAnswers) := ⟨rfl, rfl, rfl, by decide +kernel, rfl, by decide +kernel, by decide +kernel⟩
theorem ok_answers {f fI : Addr} {fd fdI : FuncData} (F : Fun K "answers" "answers" sAnswers f fd) (B : Bt mg) (T : Txt K mg C) (M : Mk K C fI) (GI : FnOk P w K mg base CX0 1 fI fdI ["self"] (spInit C)) (bI : Binds K fdI ["self"] []) (cC : C8.Cal P w K mg base 1 "calls_in" (spCalls K) []) (cA : C8.Cal P w K mg base 7 "answer_to" (spAnsTo C) []) : FnOk P w K mg base CX0 8 f fd ["calls"] (spAnswers K) := by
  refine F.ok scAnswers (fun vs H Q E h => ?_) (fun cdv A outer s H vs Q E hr h => ?_)
  · obtain ⟨a, ns, rfl, _⟩ := h
    rfl
  · obtain ⟨a, ns, rfl, hS, hlen, h0, hask, k⟩ := h
    obtain ⟨raw, hraw, hshort⟩ := asked_of hask
    have hans := answers_of hraw
    have hform := MA.calls_formed _ _ _ hraw
    have hmem := MA.calls_mem _ _ _ hraw
    refine ⟨_, pss_cons (ps_set (i := 1) scAnswers.nd rfl (Or.inl rfl) (pe_make0 M GI (hr.mono (by decide)) rfl T.gC bI .nil pass0)) (pss_cons (ps_set (i := 2) scAnswers.nd rfl (Or.inl rfl) (pe_lst pa_nil))
      (pss_cons (ps_for PassesOwn.never rfl (pi_list (C8.pe_c cC hr (by decide) (by rfl) (pa_cons (pv 0) pa_nil))) (pg_tup rfl (pgs_cons (pg_name (i := 3) scAnswers.nd rfl (Or.inl rfl)) (pgs_cons (pg_name (i := 4) scAnswers.nd rfl (Or.inl rfl)) pgs_nil)))
        (pss_cons (ps_set (i := 5) scAnswers.nd rfl (Or.inl rfl) (C8.pe_c cA hr (by decide) (by rfl) (pa_cons (pv 1) (pa_cons (pv 3) (pa_cons (pv 4) pa_nil)))))
        (pss_cons (ps_expr (pe_bm PySem.F.plainAttrs_list PySem.F.slot_list_append PySem.F.type_list_append mt_append (pv 2) (pa_cons (pe_callB call_len_seq (by rfl) B.len PySem.boot_len (pa_cons (pv 5) pa_nil)) pa_nil)))
        (pss_one (ps_expr (pe_bm PySem.F.plainAttrs_list PySem.F.slot_list_extend PySem.F.type_list_extend mt_extend (pv 2) (pa_cons (pv 5) pa_nil)))))))
      (pss_one (ps_ret (pv 2))))), ?_⟩
    intro p dx np ndx nex
    refine ⟨p, dx, rfl, upd_same, fun H1 ka sa hp hka hsa nka nsa nks kp1 => ⟨rfl, ?_⟩⟩
    have s1 : Same H H1 := fun b o e => by
      have m1 : b ≠ p := ne_of_none e np
      have m2 : b ≠ dx := ne_of_none e ndx
      exact kp1 b o (by rw [upd_ne m1, upd_ne m2]; exact e) m1
    refine ⟨Nat.zero_le _, fun ta nta => ?_⟩
    have s12 := same_upd (o := .lst []) nta
    have s2 := s1.trans s12
    refine ⟨_, rfl, a, ns, raw, rfl, s2.seq hS, hlen, hraw, fun H3 fl ts ls s3 nfl hfl Fo => ?_⟩
    have s13 := s12.trans s3
    refine ⟨fl, rfl, ⟨_, SqL.of hfl⟩, ?_⟩
    -- places that differ
    have lk : ∀ {b : Addr} {o : HO}, H1 b = some o → ¬ ZA ta fl ts ls 0 b := fun {b o} e z => by
      have e2 := s12 _ _ e
      rcases z with z | z | ⟨j, _, z | z⟩
      · rw [z, nta] at e; cases e
      · rw [z, nfl] at e2; cases e2
      · have hj := (List.getElem?_eq_some_iff.mp z).1
        have hj2 : j < ls.length := by rw [Fo.len2, ← Fo.len]; exact hj
        obtain ⟨c, _, h2, _⟩ := Fo.at_ j b _ z (List.getElem?_eq_getElem hj2)
        rw [h2] at e2; cases e2
      · have hj := (List.getElem?_eq_some_iff.mp z).1
        have hj2 : j < ts.length := by rw [Fo.len, ← Fo.len2]; exact hj
        obtain ⟨c, _, _, h2, _⟩ := Fo.at_ j _ b (List.getElem?_eq_getElem hj2) z
        rw [h2] at e2; cases e2
    have S0 : StAt C (ZA ta fl ts ls 0) H3 p ka sa [] [] none := ⟨⟨dx, s13 _ _ hp⟩, ⟨s13 _ _ hka, rfl, fun i b h => by simp at h⟩, ⟨s13 _ _ hsa, rfl, fun i b h => by simp at h⟩, fun b hb => by simp at hb, nks, lk hp, lk hka, lk hsa⟩
    have hta3 : H3 ta = some (.lst []) := s3 _ _ upd_same
    have V0 : ValidO none := fun _ z => by cases z
    have R0 : Rest H3 ts ls raw 0 := fun j t l _ h1 h2 => by
      obtain ⟨c, q1, _, _, q4, q5⟩ := Fo.at_ j t l h1 h2
      exact ⟨c, q1, q4, q5⟩
    refine for_list (K := K) (a := fl) (xs := ts.map V.ref) (fun i σ H' => ∃ (v3 v4 v5 : Option V) (ka sa : Addr) (as ss : List Addr) (st : Option Su90.Abs) (told : List Int), σ = [some (.ref a), some (.ref p), some (.ref ta), v3, v4, v5] ∧ StAt C (ZA ta fl ts ls i) H' p ka sa as ss st ∧ ValidO st ∧ H' ta = some (.lst (told.map V.int)) ∧ H' fl = some (.lst (ts.map V.ref)) ∧ Rest H' ts ls raw i ∧ PySu90.answers ns = told ++ PyFlat.told (PyFlat.played stepF st ((raw.drop i).map PySu90.whole)))
      ⟨none, none, none, ka, sa, [], [], none, [], rfl, S0, V0, hta3, hfl, R0, hans⟩ (fun i σ H' _ ⟨_, _, _, _, _, _, _, _, _, _, _, _, _, q, _⟩ => SqL.of q) ?_ ?_
    · rintro i x σ H4 hx ⟨v3, v4, v5, ka, sa, as, ss, st, told, rfl, S4, V4, hta4, hfl4, R4, eq4⟩
      rw [List.getElem?_map] at hx
      obtain ⟨t, ht, rfl⟩ := Option.map_eq_some_iff.mp hx
      have hit := (List.getElem?_eq_some_iff.mp ht).1
      have hil : i < ls.length := by rw [Fo.len2, ← Fo.len]; exact hit
      obtain ⟨l, hl⟩ : ∃ l, ls[i]? = some l := ⟨_, List.getElem?_eq_getElem hil⟩
      obtain ⟨c, hc, hht, hhl⟩ := R4 i t l (Nat.le_refl _) ht hl
      have hcm := List.mem_of_getElem? hc
      have hnn : ∀ x ∈ MA.argsOf c, 0 ≤ x := fun x hx => h0 x (hmem c hcm x hx)
      obtain ⟨n, xc, hn21, hnum, hcall, hcallOf, hbeg⟩ := MA.formed_call (hform c hcm) hnn
      have et := told_step (st := st) hc (hform c hcm) hcallOf
      rw [hnum] at hht
      rw [args_vn hnn] at hhl
      refine ⟨t, _, rfl, SqT.of hht, rfl, _, _, rfl, _, _, rfl, rfl, ?_⟩
      -- the call
      have zin : ∀ b, ZA ta fl ts ls i b → ∃ o, H4 b = some o := fun b z => by
        rcases z with z | z | ⟨j, hj, z | z⟩
        · rw [z]; exact ⟨_, hta4⟩
        · rw [z]; exact ⟨_, hfl4⟩
        · have hj1 := (List.getElem?_eq_some_iff.mp z).1
          have hj2 : j < ls.length := by rw [Fo.len2, ← Fo.len]; exact hj1
          obtain ⟨c, _, h2, _⟩ := R4 j b _ hj z (List.getElem?_eq_getElem hj2)
          exact ⟨_, h2⟩
        · have hj1 := (List.getElem?_eq_some_iff.mp z).1
          have hj2 : j < ts.length := by rw [Fo.len, ← Fo.len2]; exact hj1
          obtain ⟨c, _, _, h2⟩ := R4 j _ b hj (List.getElem?_eq_getElem hj2) z
          exact ⟨_, h2⟩
      have hZ : ZOk (ZA ta fl ts ls (i + 1)) H4 := fun b z => zin b z.less
      have S4' : StAt C (ZA ta fl ts ls (i + 1)) H4 p ka sa as ss st := S4.keep (fun b z => z.less) fun b o e _ => e
      have zl : ZA ta fl ts ls i l := Or.inr (Or.inr ⟨i, Nat.le_refl _, Or.inr hl⟩)
      have offS := S4.off
      have nlta : l ≠ ta := fun z => by
        obtain ⟨_, _, _, h3, _⟩ := Fo.at_ i t l ht hl
        rw [z, upd_same] at h3
        cases h3
      have nlfl : l ≠ fl := fun z => by
        rw [z, hfl4] at hhl
        have e' : ts.map V.ref = vn ((MA.argsOf c).map Int.toNat) := by injection hhl with e; injection e
        have hm : V.ref t ∈ vn ((MA.argsOf c).map Int.toNat) := by rw [← e']; exact List.mem_map.mpr ⟨t, List.mem_of_getElem? ht, rfl⟩
        unfold vn at hm
        obtain ⟨_, _, q⟩ := List.mem_map.mp hm
        cases q
      have nl : Deep (ZA ta fl ts ls (i + 1)) p ka sa l := by
        refine ⟨fun z => offS.1 (z ▸ zl), fun z => offS.2.1 (z ▸ zl), fun z => offS.2.2 (z ▸ zl), ?_⟩
        rintro (z | z | ⟨j, hj, z | z⟩)
        · exact nlta z
        · exact nlfl z
        · have hj1 := (List.getElem?_eq_some_iff.mp z).1
          have hj2 : j < ls.length := by rw [Fo.len2, ← Fo.len]; exact hj1
          obtain ⟨c', _, h2, _⟩ := R4 j l _ (by omega) z (List.getElem?_eq_getElem hj2)
          rw [hhl] at h2
          cases h2
        · obtain ⟨q1, q2⟩ := List.getElem?_eq_some_iff.mp z
          obtain ⟨q3, q4⟩ := List.getElem?_eq_some_iff.mp hl
          exact List.pairwise_iff_getElem.mp Fo.nd i j q3 q1 (by omega) (q4.trans q2.symm)
      refine ⟨_, rfl, _, rfl, _, rfl, ZA ta fl ts ls (i + 1), p, l, ka, sa, as, ss, st, n, _, xc, rfl, hn21, hhl, hcall, hbeg, S4', V4, hZ, nl, fun H5 q kb sb bs us S5 hq nq kp5 => ?_⟩
      have nqta : q ≠ ta := (ne_of_none hta4 nq).symm
      have hta5 : H5 ta = some (.lst (told.map V.int)) := kp5 _ _ hta4 (Or.inl rfl)
      rw [ansV_ints] at hq
      have elen : (PySu90.answers ns).length = told.length + (1 + (ansI (Su90.step st xc).2).length + (PyFlat.told (PyFlat.played stepF (Su90.step st xc).1 ((raw.drop (i + 1)).map PySu90.whole))).length) := by
        rw [eq4, et, List.length_append, List.cons_append, List.length_cons, List.length_append]
        omega
      have sz : (10000000 : Nat) < sizeLine := by decide
      refine ⟨_, rfl, .inl ⟨rfl, _, SqL.of hta5⟩, _, rfl, q, _, rfl, .inl (SqL.of hq), ta, _, _, rfl, rfl, hta5, by rw [List.length_map]; omega, ?_⟩
      rw [List.length_map]
      refine ⟨_, rfl, .inl ⟨rfl, _, SqL.of upd_same⟩, _, rfl, ta, q, _, _, rfl, rfl, upd_same, by rw [upd_ne nqta]; exact hq, by rw [List.length_append, List.length_map, List.length_map]; show told.length + 1 + _ ≤ sizeLine; omega, ?_⟩
      have kp6 : ∀ b o, H5 b = some o → b ≠ ta → (upd (upd H5 ta (.lst (told.map V.int ++ [V.int ((ansI (Su90.step st xc).2).length : Nat)]))) ta (.lst (told.map V.int ++ [V.int ((ansI (Su90.step st xc).2).length : Nat)] ++ (ansI (Su90.step st xc).2).map V.int))) b = some o := fun b o e nb => by
        rw [upd_ne nb, upd_ne nb]
        exact e
      refine ⟨_, _, _, kb, sb, bs, us, (Su90.step st xc).1, told ++ (((ansI (Su90.step st xc).2).length : Int) :: ansI (Su90.step st xc).2), rfl, S5.keep (fun b z => z) (fun b o e nz => kp6 b o e fun z => nz (Or.inl z)), valid_step V4 xc, ?_, ?_, fun j t' l' hj h1 h2 => ?_, ?_⟩
      · rw [upd_same, List.map_append, List.map_cons, List.append_assoc]
        rfl
      · refine kp6 _ _ (kp5 _ _ hfl4 (Or.inr (Or.inl rfl))) fun z => ?_
        rw [← z] at hta3
        have := (s12 : Same H1 _)
        rw [z, upd_same] at nfl
        cases nfl
      · obtain ⟨c', q1, q2, q3⟩ := R4 j t' l' (by omega) h1 h2
        obtain ⟨_, _, g1, g2, _⟩ := Fo.at_ j t' l' h1 h2
        refine ⟨c', q1, kp6 _ _ (kp5 _ _ q2 (Or.inr (Or.inr ⟨j, hj, Or.inl h1⟩))) fun z => ?_, kp6 _ _ (kp5 _ _ q3 (Or.inr (Or.inr ⟨j, hj, Or.inr h2⟩))) fun z => ?_⟩
        · rw [z, upd_same] at g1; cases g1
        · rw [z, upd_same] at g2; cases g2
      · rw [eq4, et, List.append_assoc]
    · rintro σ H4 ⟨v3, v4, v5, ka, sa, as, ss, st, told, rfl, S4, V4, hta4, hfl4, R4, eq4⟩
      refine ⟨_, rfl, ?_⟩
      refine k H4 ta ?_
      rw [List.length_map, Fo.len, List.drop_length] at eq4
      have : told = PySu90.answers ns := by
        rw [eq4]
        exact (List.append_nil _).symm
      rw [← this]
      exact hta4
end
end Su
namespace Su
open PySem PySem.Spec PyProof.Rows L2
section
variable {P : Program} {w : World} {K : PySem.W.Frag} {mg : Str → Option Value} {base : Heap}
theorem cal_mk {x : Str} {f : Addr} {fd : FuncData} {ps : List Str} {k : Nat} {sp : Sp} (G : FnOk P w K mg base CX0 k f fd ps sp) (hm : mg x = some (.ref f)) (kp : PySem.W.keepIn K (.ref f) = true) (b : Binds K fd ps []) : C8.Cal P w K mg base k x sp [] := ⟨f, fd, ps, [], G, hm, kp, b, .nil⟩
theorem raw_mk {f : Addr} {fd : FuncData} {ps : List Str} {k : Nat} {sp : Sp} (G : FnOk P w K mg base CX0 k f fd ps sp) (b : Binds K fd ps []) (h : k ≤ 6) : FnR P w K mg base CX0 6 f sp :=
  ((G.raw b .nil).mono h).imp fun vs H Q E q => by
    rw [List.append_nil]
    exact q
end
theorem all21 {p : Nat → Prop} (h0 : p 0) (h1 : p 1) (h2 : p 2) (h3 : p 3) (h4 : p 4) (h5 : p 5) (h6 : p 6) (h7 : p 7) (h8 : p 8) (h9 : p 9) (h10 : p 10) (h11 : p 11) (h12 : p 12) (h13 : p 13) (h14 : p 14) (h15 : p 15) (h16 : p 16) (h17 : p 17) (h18 : p 18) (h19 : p 19) (h20 : p 20) : ∀ n, n < 21 → p n
  | 0, _ => h0
  | 1, _ => h1
  | 2, _ => h2
  | 3, _ => h3
  | 4, _ => h4
  | 5, _ => h5
  | 6, _ => h6
  | 7, _ => h7
  | 8, _ => h8
  | 9, _ => h9
  | 10, _ => h10
  | 11, _ => h11
  | 12, _ => h12
  | 13, _ => h13
  | 14, _ => h14
  | 15, _ => h15
  | 16, _ => h16
  | 17, _ => h17
  | 18, _ => h18
  | 19, _ => h19
  | 20, _ => h20
  | n + 21, h => absurd h (by omega)
theorem wtab (w14_0 w14_1 w14_2 w14_3 w14_4 w14_5 w14_6 w14_7 w14_8 w14_9 w14_10 w14_11 w14_12 w14_13 w14_14 w14_15 w14_16 : Tok) : WTab [(0, .int 1 w14_0), (2, .int 1 w14_1), (3, .int 1 w14_2), (4, .int 0 w14_3), (5, .int 1 w14_4), (6, .int 1 w14_5), (7, .int 0 w14_6), (9, .int 2 w14_7), (10, .int 1 w14_8), (13, .int 1 w14_9), (14, .int 2 w14_10), (15, .int 2 w14_11), (16, .int 1 w14_12), (17, .int 3 w14_13), (18, .int 2 w14_14), (19, .int 0 w14_15), (20, .int 0 w14_16)] := by
  intro p x h
  rcases MA.shape_mem h with rfl | rfl | rfl | rfl | rfl | rfl | rfl | rfl | rfl | rfl | rfl | rfl | rfl | rfl | rfl | rfl | rfl | rfl | rfl | rfl | rfl
  all_goals refine ⟨fun n hn => ?_, fun hn => ?_⟩
  all_goals first
    | (have e := Option.some.inj hn; subst e; exact ⟨_, rfl⟩)
    | rfl
    | cases hn
theorem within_of {l : List Int} (h : PySem.W.Codec.inList 0 5600 (PySem.W.Codec.inInt 0 4294967295) l && true) : l.length ≤ 5600 ∧ ∀ x ∈ l, (0 : Int) ≤ x := by
  rw [Bool.and_true] at h
  unfold PySem.W.Codec.inList PySem.W.Codec.inLen PySem.W.Codec.inNat PySem.W.Codec.inInt at h
  simp only [Bool.and_eq_true, decide_eq_true_eq, List.all_eq_true] at h
  exact ⟨h.1.2, fun x hx => (h.2 x hx).1⟩
theorem all_mk {Pr : Program} {w : World} {K : PySem.W.Frag} {h : Heap} {mg : Str → Option Value} {fa : Addr} (X : K.In h) (G : h.Ns mainGlobals mg) (hfa : mg "answers" = some (.ref fa))
    {fD1 : Addr} {odD1 anD1 : Option Addr} {slD1 : Array (Option Value)} {ocD1 kVD1 dcD1 pmD1 cdD1 ctD1 : Value}
    (aD1 : PySem.W.nsIn K mainGlobals "worth_of_one_more" = some (some (.ref fD1))) (lD1 : K.lookup fD1 = some ⟨ocD1, odD1, .func (PySem.W.fnOf "worth_of_one_more" "worth_of_one_more" (defArgs (top 1)) (defBody (top 1)) (defScope (top 1)) .none kVD1 dcD1 pmD1 anD1 cdD1 ctD1), slD1⟩) (cD1 : PySem.W.codeIn K cdD1 "worth_of_one_more" = true) (kD1 : PySem.W.keepIn K (.ref fD1) = true)
    {fD2 : Addr} {odD2 anD2 : Option Addr} {slD2 : Array (Option Value)} {ocD2 kVD2 dcD2 pmD2 cdD2 ctD2 : Value}
    (aD2 : PySem.W.nsIn K mainGlobals "kind_to_lay" = some (some (.ref fD2))) (lD2 : K.lookup fD2 = some ⟨ocD2, odD2, .func (PySem.W.fnOf "kind_to_lay" "kind_to_lay" (defArgs (top 2)) (defBody (top 2)) (defScope (top 2)) .none kVD2 dcD2 pmD2 anD2 cdD2 ctD2), slD2⟩) (cD2 : PySem.W.codeIn K cdD2 "kind_to_lay" = true) (kD2 : PySem.W.keepIn K (.ref fD2) = true)
    {fD3 : Addr} {odD3 anD3 : Option Addr} {slD3 : Array (Option Value)} {ocD3 kVD3 dcD3 pmD3 cdD3 ctD3 : Value}
    (aD3 : PySem.W.nsIn K mainGlobals "order_told" = some (some (.ref fD3))) (lD3 : K.lookup fD3 = some ⟨ocD3, odD3, .func (PySem.W.fnOf "order_told" "order_told" (defArgs (top 3)) (defBody (top 3)) (defScope (top 3)) .none kVD3 dcD3 pmD3 anD3 cdD3 ctD3), slD3⟩) (cD3 : PySem.W.codeIn K cdD3 "order_told" = true) (kD3 : PySem.W.keepIn K (.ref fD3) = true)
    {fD4 : Addr} {odD4 anD4 : Option Addr} {slD4 : Array (Option Value)} {ocD4 kVD4 dcD4 pmD4 cdD4 ctD4 : Value}
    (aD4 : PySem.W.nsIn K mainGlobals "sharing_told" = some (some (.ref fD4))) (lD4 : K.lookup fD4 = some ⟨ocD4, odD4, .func (PySem.W.fnOf "sharing_told" "sharing_told" (defArgs (top 4)) (defBody (top 4)) (defScope (top 4)) .none kVD4 dcD4 pmD4 anD4 cdD4 ctD4), slD4⟩) (cD4 : PySem.W.codeIn K cdD4 "sharing_told" = true) (kD4 : PySem.W.keepIn K (.ref fD4) = true)
    {fD5 : Addr} {odD5 anD5 : Option Addr} {slD5 : Array (Option Value)} {ocD5 kVD5 dcD5 pmD5 cdD5 ctD5 : Value}
    (aD5 : PySem.W.nsIn K mainGlobals "worth_together" = some (some (.ref fD5))) (lD5 : K.lookup fD5 = some ⟨ocD5, odD5, .func (PySem.W.fnOf "worth_together" "worth_together" (defArgs (top 5)) (defBody (top 5)) (defScope (top 5)) .none kVD5 dcD5 pmD5 anD5 cdD5 ctD5), slD5⟩) (cD5 : PySem.W.codeIn K cdD5 "worth_together" = true) (kD5 : PySem.W.keepIn K (.ref fD5) = true)
    {fD6 : Addr} {odD6 anD6 : Option Addr} {slD6 : Array (Option Value)} {ocD6 kVD6 dcD6 pmD6 cdD6 ctD6 : Value}
    (aD6 : PySem.W.nsIn K mainGlobals "worth_told" = some (some (.ref fD6))) (lD6 : K.lookup fD6 = some ⟨ocD6, odD6, .func (PySem.W.fnOf "worth_told" "worth_told" (defArgs (top 6)) (defBody (top 6)) (defScope (top 6)) .none kVD6 dcD6 pmD6 anD6 cdD6 ctD6), slD6⟩) (cD6 : PySem.W.codeIn K cdD6 "worth_told" = true) (kD6 : PySem.W.keepIn K (.ref fD6) = true)
    {fD7 : Addr} {odD7 anD7 : Option Addr} {slD7 : Array (Option Value)} {ocD7 kVD7 dcD7 pmD7 cdD7 ctD7 : Value}
    (aD7 : PySem.W.nsIn K mainGlobals "price_of_place" = some (some (.ref fD7))) (lD7 : K.lookup fD7 = some ⟨ocD7, odD7, .func (PySem.W.fnOf "price_of_place" "price_of_place" (defArgs (top 7)) (defBody (top 7)) (defScope (top 7)) .none kVD7 dcD7 pmD7 anD7 cdD7 ctD7), slD7⟩) (cD7 : PySem.W.codeIn K cdD7 "price_of_place" = true) (kD7 : PySem.W.keepIn K (.ref fD7) = true)
    {fD8 : Addr} {odD8 anD8 : Option Addr} {slD8 : Array (Option Value)} {ocD8 kVD8 dcD8 pmD8 cdD8 ctD8 : Value}
    (aD8 : PySem.W.nsIn K mainGlobals "is_sharing" = some (some (.ref fD8))) (lD8 : K.lookup fD8 = some ⟨ocD8, odD8, .func (PySem.W.fnOf "is_sharing" "is_sharing" (defArgs (top 8)) (defBody (top 8)) (defScope (top 8)) .none kVD8 dcD8 pmD8 anD8 cdD8 ctD8), slD8⟩) (cD8 : PySem.W.codeIn K cdD8 "is_sharing" = true) (kD8 : PySem.W.keepIn K (.ref fD8) = true)
    {fD10 : Addr} {odD10 anD10 : Option Addr} {slD10 : Array (Option Value)} {ocD10 kVD10 dcD10 pmD10 cdD10 ctD10 : Value}
    (aD10 : PySem.W.nsIn K mainGlobals "tell_sums" = some (some (.ref fD10))) (lD10 : K.lookup fD10 = some ⟨ocD10, odD10, .func (PySem.W.fnOf "tell_sums" "tell_sums" (defArgs (top 10)) (defBody (top 10)) (defScope (top 10)) .none kVD10 dcD10 pmD10 anD10 cdD10 ctD10), slD10⟩) (cD10 : PySem.W.codeIn K cdD10 "tell_sums" = true) (kD10 : PySem.W.keepIn K (.ref fD10) = true)
    {fD11 : Addr} {odD11 anD11 : Option Addr} {slD11 : Array (Option Value)} {ocD11 kVD11 dcD11 pmD11 cdD11 ctD11 : Value}
    (aD11 : PySem.W.nsIn K mainGlobals "tell_state" = some (some (.ref fD11))) (lD11 : K.lookup fD11 = some ⟨ocD11, odD11, .func (PySem.W.fnOf "tell_state" "tell_state" (defArgs (top 11)) (defBody (top 11)) (defScope (top 11)) .none kVD11 dcD11 pmD11 anD11 cdD11 ctD11), slD11⟩) (cD11 : PySem.W.codeIn K cdD11 "tell_state" = true) (kD11 : PySem.W.keepIn K (.ref fD11) = true)
    {fD15 : Addr} {odD15 anD15 : Option Addr} {slD15 : Array (Option Value)} {ocD15 kVD15 dcD15 pmD15 cdD15 ctD15 : Value}
    (aD15 : PySem.W.nsIn K mainGlobals "calls_in" = some (some (.ref fD15))) (lD15 : K.lookup fD15 = some ⟨ocD15, odD15, .func (PySem.W.fnOf "calls_in" "calls_in" (defArgs (top 15)) (defBody (top 15)) (defScope (top 15)) .none kVD15 dcD15 pmD15 anD15 cdD15 ctD15), slD15⟩) (cD15 : PySem.W.codeIn K cdD15 "calls_in" = true) (kD15 : PySem.W.keepIn K (.ref fD15) = true)
    {fD23 : Addr} {odD23 anD23 : Option Addr} {slD23 : Array (Option Value)} {ocD23 kVD23 dcD23 pmD23 cdD23 ctD23 : Value}
    (aD23 : PySem.W.nsIn K mainGlobals "price_of_piece" = some (some (.ref fD23))) (lD23 : K.lookup fD23 = some ⟨ocD23, odD23, .func (PySem.W.fnOf "price_of_piece" "price_of_piece" (defArgs (top 23)) (defBody (top 23)) (defScope (top 23)) .none kVD23 dcD23 pmD23 anD23 cdD23 ctD23), slD23⟩) (cD23 : PySem.W.codeIn K cdD23 "price_of_piece" = true) (kD23 : PySem.W.keepIn K (.ref fD23) = true)
    {fD24 : Addr} {odD24 anD24 : Option Addr} {slD24 : Array (Option Value)} {ocD24 kVD24 dcD24 pmD24 cdD24 ctD24 : Value}
    (aD24 : PySem.W.nsIn K mainGlobals "costs_of" = some (some (.ref fD24))) (lD24 : K.lookup fD24 = some ⟨ocD24, odD24, .func (PySem.W.fnOf "costs_of" "costs_of" (defArgs (top 24)) (defBody (top 24)) (defScope (top 24)) .none kVD24 dcD24 pmD24 anD24 cdD24 ctD24), slD24⟩) (cD24 : PySem.W.codeIn K cdD24 "costs_of" = true) (kD24 : PySem.W.keepIn K (.ref fD24) = true)
    {fD25 : Addr} {odD25 anD25 : Option Addr} {slD25 : Array (Option Value)} {ocD25 kVD25 dcD25 pmD25 cdD25 ctD25 : Value}
    (aD25 : PySem.W.nsIn K mainGlobals "best_bought" = some (some (.ref fD25))) (lD25 : K.lookup fD25 = some ⟨ocD25, odD25, .func (PySem.W.fnOf "best_bought" "best_bought" (defArgs (top 25)) (defBody (top 25)) (defScope (top 25)) .none kVD25 dcD25 pmD25 anD25 cdD25 ctD25), slD25⟩) (cD25 : PySem.W.codeIn K cdD25 "best_bought" = true) (kD25 : PySem.W.keepIn K (.ref fD25) = true)
    {fD26 : Addr} {odD26 anD26 : Option Addr} {slD26 : Array (Option Value)} {ocD26 kVD26 dcD26 pmD26 cdD26 ctD26 : Value}
    (aD26 : PySem.W.nsIn K mainGlobals "least_cost" = some (some (.ref fD26))) (lD26 : K.lookup fD26 = some ⟨ocD26, odD26, .func (PySem.W.fnOf "least_cost" "least_cost" (defArgs (top 26)) (defBody (top 26)) (defScope (top 26)) .none kVD26 dcD26 pmD26 anD26 cdD26 ctD26), slD26⟩) (cD26 : PySem.W.codeIn K cdD26 "least_cost" = true) (kD26 : PySem.W.keepIn K (.ref fD26) = true)
    {fD27 : Addr} {odD27 anD27 : Option Addr} {slD27 : Array (Option Value)} {ocD27 kVD27 dcD27 pmD27 cdD27 ctD27 : Value}
    (aD27 : PySem.W.nsIn K mainGlobals "best_of_two" = some (some (.ref fD27))) (lD27 : K.lookup fD27 = some ⟨ocD27, odD27, .func (PySem.W.fnOf "best_of_two" "best_of_two" (defArgs (top 27)) (defBody (top 27)) (defScope (top 27)) .none kVD27 dcD27 pmD27 anD27 cdD27 ctD27), slD27⟩) (cD27 : PySem.W.codeIn K cdD27 "best_of_two" = true) (kD27 : PySem.W.keepIn K (.ref fD27) = true)
    {fD28 : Addr} {odD28 anD28 : Option Addr} {slD28 : Array (Option Value)} {ocD28 kVD28 dcD28 pmD28 cdD28 ctD28 : Value}
    (aD28 : PySem.W.nsIn K mainGlobals "most_for" = some (some (.ref fD28))) (lD28 : K.lookup fD28 = some ⟨ocD28, odD28, .func (PySem.W.fnOf "most_for" "most_for" (defArgs (top 28)) (defBody (top 28)) (defScope (top 28)) .none kVD28 dcD28 pmD28 anD28 cdD28 ctD28), slD28⟩) (cD28 : PySem.W.codeIn K cdD28 "most_for" = true) (kD28 : PySem.W.keepIn K (.ref fD28) = true)
    {fD30 : Addr} {odD30 anD30 : Option Addr} {slD30 : Array (Option Value)} {ocD30 kVD30 dcD30 pmD30 cdD30 ctD30 : Value}
    (aD30 : PySem.W.nsIn K mainGlobals "none_above_the_one_before" = some (some (.ref fD30))) (lD30 : K.lookup fD30 = some ⟨ocD30, odD30, .func (PySem.W.fnOf "none_above_the_one_before" "none_above_the_one_before" (defArgs (top 30)) (defBody (top 30)) (defScope (top 30)) .none kVD30 dcD30 pmD30 anD30 cdD30 ctD30), slD30⟩) (cD30 : PySem.W.codeIn K cdD30 "none_above_the_one_before" = true) (kD30 : PySem.W.keepIn K (.ref fD30) = true)
    {fD31 : Addr} {odD31 anD31 : Option Addr} {slD31 : Array (Option Value)} {ocD31 kVD31 dcD31 pmD31 cdD31 ctD31 : Value}
    (aD31 : PySem.W.nsIn K mainGlobals "all_but" = some (some (.ref fD31))) (lD31 : K.lookup fD31 = some ⟨ocD31, odD31, .func (PySem.W.fnOf "all_but" "all_but" (defArgs (top 31)) (defBody (top 31)) (defScope (top 31)) .none kVD31 dcD31 pmD31 anD31 cdD31 ctD31), slD31⟩) (cD31 : PySem.W.codeIn K cdD31 "all_but" = true) (kD31 : PySem.W.keepIn K (.ref fD31) = true)
    {fD37 : Addr} {odD37 anD37 : Option Addr} {slD37 : Array (Option Value)} {ocD37 kVD37 dcD37 pmD37 cdD37 ctD37 : Value}
    (aD37 : PySem.W.nsIn K mainGlobals "are_starts" = some (some (.ref fD37))) (lD37 : K.lookup fD37 = some ⟨ocD37, odD37, .func (PySem.W.fnOf "are_starts" "are_starts" (defArgs (top 37)) (defBody (top 37)) (defScope (top 37)) .none kVD37 dcD37 pmD37 anD37 cdD37 ctD37), slD37⟩) (cD37 : PySem.W.codeIn K cdD37 "are_starts" = true) (kD37 : PySem.W.keepIn K (.ref fD37) = true)
    {fD38 : Addr} {odD38 anD38 : Option Addr} {slD38 : Array (Option Value)} {ocD38 kVD38 dcD38 pmD38 cdD38 ctD38 : Value}
    (aD38 : PySem.W.nsIn K mainGlobals "are_steps" = some (some (.ref fD38))) (lD38 : K.lookup fD38 = some ⟨ocD38, odD38, .func (PySem.W.fnOf "are_steps" "are_steps" (defArgs (top 38)) (defBody (top 38)) (defScope (top 38)) .none kVD38 dcD38 pmD38 anD38 cdD38 ctD38), slD38⟩) (cD38 : PySem.W.codeIn K cdD38 "are_steps" = true) (kD38 : PySem.W.keepIn K (.ref fD38) = true)
    {fD39 : Addr} {odD39 anD39 : Option Addr} {slD39 : Array (Option Value)} {ocD39 kVD39 dcD39 pmD39 cdD39 ctD39 : Value}
    (aD39 : PySem.W.nsIn K mainGlobals "add_seller" = some (some (.ref fD39))) (lD39 : K.lookup fD39 = some ⟨ocD39, odD39, .func (PySem.W.fnOf "add_seller" "add_seller" (defArgs (top 39)) (defBody (top 39)) (defScope (top 39)) .none kVD39 dcD39 pmD39 anD39 cdD39 ctD39), slD39⟩) (cD39 : PySem.W.codeIn K cdD39 "add_seller" = true) (kD39 : PySem.W.keepIn K (.ref fD39) = true)
    {fD40 : Addr} {odD40 anD40 : Option Addr} {slD40 : Array (Option Value)} {ocD40 kVD40 dcD40 pmD40 cdD40 ctD40 : Value}
    (aD40 : PySem.W.nsIn K mainGlobals "send_away" = some (some (.ref fD40))) (lD40 : K.lookup fD40 = some ⟨ocD40, odD40, .func (PySem.W.fnOf "send_away" "send_away" (defArgs (top 40)) (defBody (top 40)) (defScope (top 40)) .none kVD40 dcD40 pmD40 anD40 cdD40 ctD40), slD40⟩) (cD40 : PySem.W.codeIn K cdD40 "send_away" = true) (kD40 : PySem.W.keepIn K (.ref fD40) = true)
    {fD41 : Addr} {odD41 anD41 : Option Addr} {slD41 : Array (Option Value)} {ocD41 kVD41 dcD41 pmD41 cdD41 ctD41 : Value}
    (aD41 : PySem.W.nsIn K mainGlobals "tell_cost" = some (some (.ref fD41))) (lD41 : K.lookup fD41 = some ⟨ocD41, odD41, .func (PySem.W.fnOf "tell_cost" "tell_cost" (defArgs (top 41)) (defBody (top 41)) (defScope (top 41)) .none kVD41 dcD41 pmD41 anD41 cdD41 ctD41), slD41⟩) (cD41 : PySem.W.codeIn K cdD41 "tell_cost" = true) (kD41 : PySem.W.keepIn K (.ref fD41) = true)
    {fD42 : Addr} {odD42 anD42 : Option Addr} {slD42 : Array (Option Value)} {ocD42 kVD42 dcD42 pmD42 cdD42 ctD42 : Value}
    (aD42 : PySem.W.nsIn K mainGlobals "tell_buy" = some (some (.ref fD42))) (lD42 : K.lookup fD42 = some ⟨ocD42, odD42, .func (PySem.W.fnOf "tell_buy" "tell_buy" (defArgs (top 42)) (defBody (top 42)) (defScope (top 42)) .none kVD42 dcD42 pmD42 anD42 cdD42 ctD42), slD42⟩) (cD42 : PySem.W.codeIn K cdD42 "tell_buy" = true) (kD42 : PySem.W.keepIn K (.ref fD42) = true)
    {fD43 : Addr} {odD43 anD43 : Option Addr} {slD43 : Array (Option Value)} {ocD43 kVD43 dcD43 pmD43 cdD43 ctD43 : Value}
    (aD43 : PySem.W.nsIn K mainGlobals "tell_cheapest" = some (some (.ref fD43))) (lD43 : K.lookup fD43 = some ⟨ocD43, odD43, .func (PySem.W.fnOf "tell_cheapest" "tell_cheapest" (defArgs (top 43)) (defBody (top 43)) (defScope (top 43)) .none kVD43 dcD43 pmD43 anD43 cdD43 ctD43), slD43⟩) (cD43 : PySem.W.codeIn K cdD43 "tell_cheapest" = true) (kD43 : PySem.W.keepIn K (.ref fD43) = true)
    {fD44 : Addr} {odD44 anD44 : Option Addr} {slD44 : Array (Option Value)} {ocD44 kVD44 dcD44 pmD44 cdD44 ctD44 : Value}
    (aD44 : PySem.W.nsIn K mainGlobals "tell_two" = some (some (.ref fD44))) (lD44 : K.lookup fD44 = some ⟨ocD44, odD44, .func (PySem.W.fnOf "tell_two" "tell_two" (defArgs (top 44)) (defBody (top 44)) (defScope (top 44)) .none kVD44 dcD44 pmD44 anD44 cdD44 ctD44), slD44⟩) (cD44 : PySem.W.codeIn K cdD44 "tell_two" = true) (kD44 : PySem.W.keepIn K (.ref fD44) = true)
    {fD45 : Addr} {odD45 anD45 : Option Addr} {slD45 : Array (Option Value)} {ocD45 kVD45 dcD45 pmD45 cdD45 ctD45 : Value}
    (aD45 : PySem.W.nsIn K mainGlobals "tell_upto" = some (some (.ref fD45))) (lD45 : K.lookup fD45 = some ⟨ocD45, odD45, .func (PySem.W.fnOf "tell_upto" "tell_upto" (defArgs (top 45)) (defBody (top 45)) (defScope (top 45)) .none kVD45 dcD45 pmD45 anD45 cdD45 ctD45), slD45⟩) (cD45 : PySem.W.codeIn K cdD45 "tell_upto" = true) (kD45 : PySem.W.keepIn K (.ref fD45) = true)
    {fD52 : Addr} {odD52 anD52 : Option Addr} {slD52 : Array (Option Value)} {ocD52 kVD52 dcD52 pmD52 cdD52 ctD52 : Value}
    (aD52 : PySem.W.nsIn K mainGlobals "are_worths" = some (some (.ref fD52))) (lD52 : K.lookup fD52 = some ⟨ocD52, odD52, .func (PySem.W.fnOf "are_worths" "are_worths" (defArgs (top 52)) (defBody (top 52)) (defScope (top 52)) .none kVD52 dcD52 pmD52 anD52 cdD52 ctD52), slD52⟩) (cD52 : PySem.W.codeIn K cdD52 "are_worths" = true) (kD52 : PySem.W.keepIn K (.ref fD52) = true)
    {fD53 : Addr} {odD53 anD53 : Option Addr} {slD53 : Array (Option Value)} {ocD53 kVD53 dcD53 pmD53 cdD53 ctD53 : Value}
    (aD53 : PySem.W.nsIn K mainGlobals "begin" = some (some (.ref fD53))) (lD53 : K.lookup fD53 = some ⟨ocD53, odD53, .func (PySem.W.fnOf "begin" "begin" (defArgs (top 53)) (defBody (top 53)) (defScope (top 53)) .none kVD53 dcD53 pmD53 anD53 cdD53 ctD53), slD53⟩) (cD53 : PySem.W.codeIn K cdD53 "begin" = true) (kD53 : PySem.W.keepIn K (.ref fD53) = true)
    {fD54 : Addr} {odD54 anD54 : Option Addr} {slD54 : Array (Option Value)} {ocD54 kVD54 dcD54 pmD54 cdD54 ctD54 : Value}
    (aD54 : PySem.W.nsIn K mainGlobals "refusal_of_kind" = some (some (.ref fD54))) (lD54 : K.lookup fD54 = some ⟨ocD54, odD54, .func (PySem.W.fnOf "refusal_of_kind" "refusal_of_kind" (defArgs (top 54)) (defBody (top 54)) (defScope (top 54)) .none kVD54 dcD54 pmD54 anD54 cdD54 ctD54), slD54⟩) (cD54 : PySem.W.codeIn K cdD54 "refusal_of_kind" = true) (kD54 : PySem.W.keepIn K (.ref fD54) = true)
    {fD55 : Addr} {odD55 anD55 : Option Addr} {slD55 : Array (Option Value)} {ocD55 kVD55 dcD55 pmD55 cdD55 ctD55 : Value}
    (aD55 : PySem.W.nsIn K mainGlobals "add_kind" = some (some (.ref fD55))) (lD55 : K.lookup fD55 = some ⟨ocD55, odD55, .func (PySem.W.fnOf "add_kind" "add_kind" (defArgs (top 55)) (defBody (top 55)) (defScope (top 55)) .none kVD55 dcD55 pmD55 anD55 cdD55 ctD55), slD55⟩) (cD55 : PySem.W.codeIn K cdD55 "add_kind" = true) (kD55 : PySem.W.keepIn K (.ref fD55) = true)
    {fD56 : Addr} {odD56 anD56 : Option Addr} {slD56 : Array (Option Value)} {ocD56 kVD56 dcD56 pmD56 cdD56 ctD56 : Value}
    (aD56 : PySem.W.nsIn K mainGlobals "drop_kind" = some (some (.ref fD56))) (lD56 : K.lookup fD56 = some ⟨ocD56, odD56, .func (PySem.W.fnOf "drop_kind" "drop_kind" (defArgs (top 56)) (defBody (top 56)) (defScope (top 56)) .none kVD56 dcD56 pmD56 anD56 cdD56 ctD56), slD56⟩) (cD56 : PySem.W.codeIn K cdD56 "drop_kind" = true) (kD56 : PySem.W.keepIn K (.ref fD56) = true)
    {fD57 : Addr} {odD57 anD57 : Option Addr} {slD57 : Array (Option Value)} {ocD57 kVD57 dcD57 pmD57 cdD57 ctD57 : Value}
    (aD57 : PySem.W.nsIn K mainGlobals "change_room" = some (some (.ref fD57))) (lD57 : K.lookup fD57 = some ⟨ocD57, odD57, .func (PySem.W.fnOf "change_room" "change_room" (defArgs (top 57)) (defBody (top 57)) (defScope (top 57)) .none kVD57 dcD57 pmD57 anD57 cdD57 ctD57), slD57⟩) (cD57 : PySem.W.codeIn K cdD57 "change_room" = true) (kD57 : PySem.W.keepIn K (.ref fD57) = true)
    {fD58 : Addr} {odD58 anD58 : Option Addr} {slD58 : Array (Option Value)} {ocD58 kVD58 dcD58 pmD58 cdD58 ctD58 : Value}
    (aD58 : PySem.W.nsIn K mainGlobals "worth_and_sharing" = some (some (.ref fD58))) (lD58 : K.lookup fD58 = some ⟨ocD58, odD58, .func (PySem.W.fnOf "worth_and_sharing" "worth_and_sharing" (defArgs (top 58)) (defBody (top 58)) (defScope (top 58)) .none kVD58 dcD58 pmD58 anD58 cdD58 ctD58), slD58⟩) (cD58 : PySem.W.codeIn K cdD58 "worth_and_sharing" = true) (kD58 : PySem.W.keepIn K (.ref fD58) = true)
    {fD59 : Addr} {odD59 anD59 : Option Addr} {slD59 : Array (Option Value)} {ocD59 kVD59 dcD59 pmD59 cdD59 ctD59 : Value}
    (aD59 : PySem.W.nsIn K mainGlobals "tell_best" = some (some (.ref fD59))) (lD59 : K.lookup fD59 = some ⟨ocD59, odD59, .func (PySem.W.fnOf "tell_best" "tell_best" (defArgs (top 59)) (defBody (top 59)) (defScope (top 59)) .none kVD59 dcD59 pmD59 anD59 cdD59 ctD59), slD59⟩) (cD59 : PySem.W.codeIn K cdD59 "tell_best" = true) (kD59 : PySem.W.keepIn K (.ref fD59) = true)
    {fD60 : Addr} {odD60 anD60 : Option Addr} {slD60 : Array (Option Value)} {ocD60 kVD60 dcD60 pmD60 cdD60 ctD60 : Value}
    (aD60 : PySem.W.nsIn K mainGlobals "tell_at" = some (some (.ref fD60))) (lD60 : K.lookup fD60 = some ⟨ocD60, odD60, .func (PySem.W.fnOf "tell_at" "tell_at" (defArgs (top 60)) (defBody (top 60)) (defScope (top 60)) .none kVD60 dcD60 pmD60 anD60 cdD60 ctD60), slD60⟩) (cD60 : PySem.W.codeIn K cdD60 "tell_at" = true) (kD60 : PySem.W.keepIn K (.ref fD60) = true)
    {fD61 : Addr} {odD61 anD61 : Option Addr} {slD61 : Array (Option Value)} {ocD61 kVD61 dcD61 pmD61 cdD61 ctD61 : Value}
    (aD61 : PySem.W.nsIn K mainGlobals "tell_price" = some (some (.ref fD61))) (lD61 : K.lookup fD61 = some ⟨ocD61, odD61, .func (PySem.W.fnOf "tell_price" "tell_price" (defArgs (top 61)) (defBody (top 61)) (defScope (top 61)) .none kVD61 dcD61 pmD61 anD61 cdD61 ctD61), slD61⟩) (cD61 : PySem.W.codeIn K cdD61 "tell_price" = true) (kD61 : PySem.W.keepIn K (.ref fD61) = true)
    {fD62 : Addr} {odD62 anD62 : Option Addr} {slD62 : Array (Option Value)} {ocD62 kVD62 dcD62 pmD62 cdD62 ctD62 : Value}
    (aD62 : PySem.W.nsIn K mainGlobals "tell_steps" = some (some (.ref fD62))) (lD62 : K.lookup fD62 = some ⟨ocD62, odD62, .func (PySem.W.fnOf "tell_steps" "tell_steps" (defArgs (top 62)) (defBody (top 62)) (defScope (top 62)) .none kVD62 dcD62 pmD62 anD62 cdD62 ctD62), slD62⟩) (cD62 : PySem.W.codeIn K cdD62 "tell_steps" = true) (kD62 : PySem.W.keepIn K (.ref fD62) = true)
    {fD63 : Addr} {odD63 anD63 : Option Addr} {slD63 : Array (Option Value)} {ocD63 kVD63 dcD63 pmD63 cdD63 ctD63 : Value}
    (aD63 : PySem.W.nsIn K mainGlobals "tell_value" = some (some (.ref fD63))) (lD63 : K.lookup fD63 = some ⟨ocD63, odD63, .func (PySem.W.fnOf "tell_value" "tell_value" (defArgs (top 63)) (defBody (top 63)) (defScope (top 63)) .none kVD63 dcD63 pmD63 anD63 cdD63 ctD63), slD63⟩) (cD63 : PySem.W.codeIn K cdD63 "tell_value" = true) (kD63 : PySem.W.keepIn K (.ref fD63) = true)
    {fD64 : Addr} {odD64 anD64 : Option Addr} {slD64 : Array (Option Value)} {ocD64 kVD64 dcD64 pmD64 cdD64 ctD64 : Value}
    (aD64 : PySem.W.nsIn K mainGlobals "tell_worth" = some (some (.ref fD64))) (lD64 : K.lookup fD64 = some ⟨ocD64, odD64, .func (PySem.W.fnOf "tell_worth" "tell_worth" (defArgs (top 64)) (defBody (top 64)) (defScope (top 64)) .none kVD64 dcD64 pmD64 anD64 cdD64 ctD64), slD64⟩) (cD64 : PySem.W.codeIn K cdD64 "tell_worth" = true) (kD64 : PySem.W.keepIn K (.ref fD64) = true)
    {fD65 : Addr} {odD65 anD65 : Option Addr} {slD65 : Array (Option Value)} {ocD65 kVD65 dcD65 pmD65 cdD65 ctD65 : Value}
    (aD65 : PySem.W.nsIn K mainGlobals "tell_without" = some (some (.ref fD65))) (lD65 : K.lookup fD65 = some ⟨ocD65, odD65, .func (PySem.W.fnOf "tell_without" "tell_without" (defArgs (top 65)) (defBody (top 65)) (defScope (top 65)) .none kVD65 dcD65 pmD65 anD65 cdD65 ctD65), slD65⟩) (cD65 : PySem.W.codeIn K cdD65 "tell_without" = true) (kD65 : PySem.W.keepIn K (.ref fD65) = true)
    {fD66 : Addr} {odD66 anD66 : Option Addr} {slD66 : Array (Option Value)} {ocD66 kVD66 dcD66 pmD66 cdD66 ctD66 : Value}
    (aD66 : PySem.W.nsIn K mainGlobals "tell_would" = some (some (.ref fD66))) (lD66 : K.lookup fD66 = some ⟨ocD66, odD66, .func (PySem.W.fnOf "tell_would" "tell_would" (defArgs (top 66)) (defBody (top 66)) (defScope (top 66)) .none kVD66 dcD66 pmD66 anD66 cdD66 ctD66), slD66⟩) (cD66 : PySem.W.codeIn K cdD66 "tell_would" = true) (kD66 : PySem.W.keepIn K (.ref fD66) = true)
    {fD72 : Addr} {odD72 anD72 : Option Addr} {slD72 : Array (Option Value)} {ocD72 kVD72 dcD72 pmD72 cdD72 ctD72 : Value}
    (aD72 : PySem.W.nsIn K mainGlobals "answer_to" = some (some (.ref fD72))) (lD72 : K.lookup fD72 = some ⟨ocD72, odD72, .func (PySem.W.fnOf "answer_to" "answer_to" (defArgs (top 72)) (defBody (top 72)) (defScope (top 72)) .none kVD72 dcD72 pmD72 anD72 cdD72 ctD72), slD72⟩) (cD72 : PySem.W.codeIn K cdD72 "answer_to" = true) (kD72 : PySem.W.keepIn K (.ref fD72) = true)
    {fD73 : Addr} {odD73 anD73 : Option Addr} {slD73 : Array (Option Value)} {ocD73 kVD73 dcD73 pmD73 cdD73 ctD73 : Value}
    (aD73 : PySem.W.nsIn K mainGlobals "answers" = some (some (.ref fD73))) (lD73 : K.lookup fD73 = some ⟨ocD73, odD73, .func (PySem.W.fnOf "answers" "answers" (defArgs (top 73)) (defBody (top 73)) (defScope (top 73)) .none kVD73 dcD73 pmD73 anD73 cdD73 ctD73), slD73⟩) (cD73 : PySem.W.codeIn K cdD73 "answers" = true) (kD73 : PySem.W.keepIn K (.ref fD73) = true)
    {C69 : Addr} (aC69 : PySem.W.nsIn K mainGlobals "Store" = some (some (.ref C69))) (pg69 : PySem.W.plainGet K C69 Str.empty = true) (hd69 : PySem.W.hasDictIn K C69 = true) (po69 : PySem.W.plainOver K C69 = true) (sa69 : PySem.W.findIn K (.ref C69) "__setattr__" = some (some (.builtin "object.__setattr__"))) (mk69 : PySem.W.makesIn K C69 = true) (kc69 : PySem.W.keepIn K (.ref C69) = true)
    {fM69_0 : Addr} {odM69_0 anM69_0 : Option Addr} {slM69_0 : Array (Option Value)} {ocM69_0 kVM69_0 dcM69_0 pmM69_0 cdM69_0 ctM69_0 : Value}
    (aM69_0 : PySem.W.findIn K (.ref C69) "__init__" = some (some (.ref fM69_0))) (iM69_0 : PySem.W.isFn K (.ref fM69_0) = true) (lM69_0 : K.lookup fM69_0 = some ⟨ocM69_0, odM69_0, .func (PySem.W.fnOf "__init__" "Store.__init__" (defArgs (inClass (top 69) 0)) (defBody (inClass (top 69) 0)) (defScope (inClass (top 69) 0)) .none kVM69_0 dcM69_0 pmM69_0 anM69_0 cdM69_0 ctM69_0), slM69_0⟩) (cM69_0 : PySem.W.codeIn K cdM69_0 "Store.__init__" = true) (kM69_0 : PySem.W.keepIn K (.ref fM69_0) = true)
    (n69_begun : PySem.W.findIn K (.ref C69) "begun" = some none)
    (n69_places : PySem.W.findIn K (.ref C69) "places" = some none)
    (n69_kinds : PySem.W.findIn K (.ref C69) "kinds" = some none)
    (n69_sellers : PySem.W.findIn K (.ref C69) "sellers" = some none)
    {t16 : Tok} (v16 : PySem.W.nsIn K mainGlobals "NONE_SUCH" = some (some (.int (-2) t16)))
    {t17 : Tok} (v17 : PySem.W.nsIn K mainGlobals "NONE" = some (some (.int (-6) t17)))
    {t18 : Tok} (v18 : PySem.W.nsIn K mainGlobals "NOT_BEGUN" = some (some (.int (-11) t18)))
    {t19 : Tok} (v19 : PySem.W.nsIn K mainGlobals "OUT_OF_RANGE" = some (some (.int (-22) t19)))
    {t20 : Tok} (v20 : PySem.W.nsIn K mainGlobals "TOO_MANY" = some (some (.int (-28) t20)))
    {t22 : Tok} (v22 : PySem.W.nsIn K mainGlobals "MOST_BOUGHT" = some (some (.int (60) t22)))
    {t33 : Tok} (v33 : PySem.W.nsIn K mainGlobals "MOST_SELLERS" = some (some (.int (3) t33)))
    {t34 : Tok} (v34 : PySem.W.nsIn K mainGlobals "MOST_STEPS" = some (some (.int (4) t34)))
    {t35 : Tok} (v35 : PySem.W.nsIn K mainGlobals "MOST_ASKED" = some (some (.int (1000) t35)))
    {t36 : Tok} (v36 : PySem.W.nsIn K mainGlobals "MOST_MONEY" = some (some (.int (60000) t36)))
    {t48 : Tok} (v48 : PySem.W.nsIn K mainGlobals "MOST_PLACES" = some (some (.int (20) t48)))
    {t49 : Tok} (v49 : PySem.W.nsIn K mainGlobals "MOST_KINDS" = some (some (.int (5) t49)))
    {t50 : Tok} (v50 : PySem.W.nsIn K mainGlobals "MOST_PIECES" = some (some (.int (8) t50)))
    {t51 : Tok} (v51 : PySem.W.nsIn K mainGlobals "MOST_WORTH" = some (some (.int (1000) t51)))
    {t71 : Tok} (v71 : PySem.W.nsIn K mainGlobals "BEGIN" = some (some (.int (0) t71)))
    {d12 : Addr} {es12 : Array DictEntry} {en12 : Nat} (ad12 : PySem.W.nsIn K mainGlobals "OVERVIEW_CALLS" = some (some (.ref d12))) (ld12 : K.lookup d12 = some ⟨.type "dict", none, .dict es12 en12, #[]⟩) (lo12 : (d12 == sysModules) = false) (ik12 : ikOk es12.toList [(19, .ref fD10), (20, .ref fD11)])
    {d14 : Addr} {es14 : Array DictEntry} {en14 : Nat} {w14_0 w14_1 w14_2 w14_3 w14_4 w14_5 w14_6 w14_7 w14_8 w14_9 w14_10 w14_11 w14_12 w14_13 w14_14 w14_15 w14_16 : Tok} (ad14 : PySem.W.nsIn K mainGlobals "WHOLE_NUMBERS" = some (some (.ref d14))) (ld14 : K.lookup d14 = some ⟨.type "dict", none, .dict es14 en14, #[]⟩) (lo14 : (d14 == sysModules) = false) (ik14 : ikOk es14.toList [(0, .int 1 w14_0), (2, .int 1 w14_1), (3, .int 1 w14_2), (4, .int 0 w14_3), (5, .int 1 w14_4), (6, .int 1 w14_5), (7, .int 0 w14_6), (9, .int 2 w14_7), (10, .int 1 w14_8), (13, .int 1 w14_9), (14, .int 2 w14_10), (15, .int 2 w14_11), (16, .int 1 w14_12), (17, .int 3 w14_13), (18, .int 2 w14_14), (19, .int 0 w14_15), (20, .int 0 w14_16)])
    {d46 : Addr} {es46 : Array DictEntry} {en46 : Nat} (ad46 : PySem.W.nsIn K mainGlobals "SELLER_CALLS" = some (some (.ref d46))) (ld46 : K.lookup d46 = some ⟨.type "dict", none, .dict es46 en46, #[]⟩) (lo46 : (d46 == sysModules) = false) (ik46 : ikOk es46.toList [(12, .ref fD39), (13, .ref fD40), (14, .ref fD41), (15, .ref fD42), (16, .ref fD43), (17, .ref fD44), (18, .ref fD45)])
    {d67 : Addr} {es67 : Array DictEntry} {en67 : Nat} (ad67 : PySem.W.nsIn K mainGlobals "SHELF_CALLS" = some (some (.ref d67))) (ld67 : K.lookup d67 = some ⟨.type "dict", none, .dict es67 en67, #[]⟩) (lo67 : (d67 == sysModules) = false) (ik67 : ikOk es67.toList [(0, .ref fD53), (1, .ref fD55), (2, .ref fD56), (3, .ref fD57), (4, .ref fD59), (5, .ref fD60), (6, .ref fD61), (7, .ref fD62), (8, .ref fD63), (9, .ref fD64), (10, .ref fD65), (11, .ref fD66)])
    (b_len : PySem.W.nsIn K mainGlobals "len" = some none)
    (b_sum : PySem.W.nsIn K mainGlobals "sum" = some none)
    (b_zip : PySem.W.nsIn K mainGlobals "zip" = some none)
    (b_enumerate : PySem.W.nsIn K mainGlobals "enumerate" = some none)
    (b_range : PySem.W.nsIn K mainGlobals "range" = some none)
    (b_all : PySem.W.nsIn K mainGlobals "all" = some none)
    (b_max : PySem.W.nsIn K mainGlobals "max" = some none)
    (b_min : PySem.W.nsIn K mainGlobals "min" = some none)
    (b_list : PySem.W.nsIn K mainGlobals "list" = some none) :
    ∃ fd : FuncData, (∀ (s : Shared) (us : List Value), us.length = (["calls"] : List Str).length → BindsTo s fd ⟨us, []⟩ ((["calls"] : List Str).zip us)) ∧ ∀ base : Heap, K.In base → base.Ns mainGlobals mg → FnOk Pr w K mg base CX0 8 fa fd ["calls"] (spAnswers K) := by
  have e := hfa.symm.trans (PySem.W.mg_of X G aD73)
  cases e
  have B : Bt mg := { len := PySem.W.mg_none_of X G b_len, sum := PySem.W.mg_none_of X G b_sum, zip := PySem.W.mg_none_of X G b_zip, enumerate := PySem.W.mg_none_of X G b_enumerate, range := PySem.W.mg_none_of X G b_range, all := PySem.W.mg_none_of X G b_all, max := PySem.W.mg_none_of X G b_max, min := PySem.W.mg_none_of X G b_min, list := PySem.W.mg_none_of X G b_list }
  have N : Nums mg := { noneSuch := ⟨_, PySem.W.mg_of X G v16⟩, notBegun := ⟨_, PySem.W.mg_of X G v18⟩, outOf := ⟨_, PySem.W.mg_of X G v19⟩, tooMany := ⟨_, PySem.W.mg_of X G v20⟩, mPlaces := ⟨_, PySem.W.mg_of X G v48⟩, mKinds := ⟨_, PySem.W.mg_of X G v49⟩, mPieces := ⟨_, PySem.W.mg_of X G v50⟩, mWorth := ⟨_, PySem.W.mg_of X G v51⟩, none6 := ⟨_, PySem.W.mg_of X G v17⟩, mBought := ⟨_, PySem.W.mg_of X G v22⟩, mSellers := ⟨_, PySem.W.mg_of X G v33⟩, mSteps := ⟨_, PySem.W.mg_of X G v34⟩, mAsked := ⟨_, PySem.W.mg_of X G v35⟩, mMoney := ⟨_, PySem.W.mg_of X G v36⟩, begin0 := ⟨_, PySem.W.mg_of X G v71⟩ }
  have T : Txt K mg C69 := ⟨⟨pg69, hd69, po69, sa69⟩, n69_begun, n69_places, n69_kinds, n69_sellers, PySem.W.mg_of X G aC69⟩
  have F1 := fun_mk (st := top 1) lD1 cD1 kD1
  have b1 := F1.binds (ps := ["worths", "pieces"]) fun _ _ _ _ _ _ us hl => match us, hl with | [_, _], _ => rfl
  have F2 := fun_mk (st := top 2) lD2 cD2 kD2
  have b2 := F2.binds (ps := ["kinds", "sharing"]) fun _ _ _ _ _ _ us hl => match us, hl with | [_, _], _ => rfl
  have F3 := fun_mk (st := top 3) lD3 cD3 kD3
  have b3 := F3.binds (ps := ["kinds", "places"]) fun _ _ _ _ _ _ us hl => match us, hl with | [_, _], _ => rfl
  have F4 := fun_mk (st := top 4) lD4 cD4 kD4
  have b4 := F4.binds (ps := ["kinds", "places"]) fun _ _ _ _ _ _ us hl => match us, hl with | [_, _], _ => rfl
  have F5 := fun_mk (st := top 5) lD5 cD5 kD5
  have b5 := F5.binds (ps := ["kinds", "sharing"]) fun _ _ _ _ _ _ us hl => match us, hl with | [_, _], _ => rfl
  have F6 := fun_mk (st := top 6) lD6 cD6 kD6
  have b6 := F6.binds (ps := ["kinds", "places"]) fun _ _ _ _ _ _ us hl => match us, hl with | [_, _], _ => rfl
  have F7 := fun_mk (st := top 7) lD7 cD7 kD7
  have b7 := F7.binds (ps := ["kinds", "places"]) fun _ _ _ _ _ _ us hl => match us, hl with | [_, _], _ => rfl
  have F8 := fun_mk (st := top 8) lD8 cD8 kD8
  have b8 := F8.binds (ps := ["kinds", "sharing"]) fun _ _ _ _ _ _ us hl => match us, hl with | [_, _], _ => rfl
  have F10 := fun_mk (st := top 10) lD10 cD10 kD10
  have b10 := F10.binds (ps := ["store", "numbers"]) fun _ _ _ _ _ _ us hl => match us, hl with | [_, _], _ => rfl
  have F11 := fun_mk (st := top 11) lD11 cD11 kD11
  have b11 := F11.binds (ps := ["store", "numbers"]) fun _ _ _ _ _ _ us hl => match us, hl with | [_, _], _ => rfl
  have F15 := fun_mk (st := top 15) lD15 cD15 kD15
  have b15 := F15.binds (ps := ["calls"]) fun _ _ _ _ _ _ us hl => match us, hl with | [_], _ => rfl
  have F23 := fun_mk (st := top 23) lD23 cD23 kD23
  have b23 := F23.binds (ps := ["steps", "bought"]) fun _ _ _ _ _ _ us hl => match us, hl with | [_, _], _ => rfl
  have F24 := fun_mk (st := top 24) lD24 cD24 kD24
  have b24 := F24.binds (ps := ["steps"]) fun _ _ _ _ _ _ us hl => match us, hl with | [_], _ => rfl
  have F25 := fun_mk (st := top 25) lD25 cD25 kD25
  have b25 := F25.binds (ps := ["costs", "wanted"]) fun _ _ _ _ _ _ us hl => match us, hl with | [_, _], _ => rfl
  have F26 := fun_mk (st := top 26) lD26 cD26 kD26
  have b26 := F26.binds (ps := ["costs", "wanted"]) fun _ _ _ _ _ _ us hl => match us, hl with | [_, _], _ => rfl
  have F27 := fun_mk (st := top 27) lD27 cD27 kD27
  have b27 := F27.binds (ps := ["first", "second", "wanted"]) fun _ _ _ _ _ _ us hl => match us, hl with | [_, _, _], _ => rfl
  have F28 := fun_mk (st := top 28) lD28 cD28 kD28
  have b28 := F28.binds (ps := ["costs", "money"]) fun _ _ _ _ _ _ us hl => match us, hl with | [_, _], _ => rfl
  have F30 := fun_mk (st := top 30) lD30 cD30 kD30
  have b30 := F30.binds (ps := ["numbers"]) fun _ _ _ _ _ _ us hl => match us, hl with | [_], _ => rfl
  have F31 := fun_mk (st := top 31) lD31 cD31 kD31
  have b31 := F31.binds (ps := ["row", "place"]) fun _ _ _ _ _ _ us hl => match us, hl with | [_, _], _ => rfl
  have F37 := fun_mk (st := top 37) lD37 cD37 kD37
  have b37 := F37.binds (ps := ["starts"]) fun _ _ _ _ _ _ us hl => match us, hl with | [_], _ => rfl
  have F38 := fun_mk (st := top 38) lD38 cD38 kD38
  have b38 := F38.binds (ps := ["numbers"]) fun _ _ _ _ _ _ us hl => match us, hl with | [_], _ => rfl
  have F39 := fun_mk (st := top 39) lD39 cD39 kD39
  have b39 := F39.binds (ps := ["store", "numbers"]) fun _ _ _ _ _ _ us hl => match us, hl with | [_, _], _ => rfl
  have F40 := fun_mk (st := top 40) lD40 cD40 kD40
  have b40 := F40.binds (ps := ["store", "numbers"]) fun _ _ _ _ _ _ us hl => match us, hl with | [_, _], _ => rfl
  have F41 := fun_mk (st := top 41) lD41 cD41 kD41
  have b41 := F41.binds (ps := ["store", "numbers"]) fun _ _ _ _ _ _ us hl => match us, hl with | [_, _], _ => rfl
  have F42 := fun_mk (st := top 42) lD42 cD42 kD42
  have b42 := F42.binds (ps := ["store", "numbers"]) fun _ _ _ _ _ _ us hl => match us, hl with | [_, _], _ => rfl
  have F43 := fun_mk (st := top 43) lD43 cD43 kD43
  have b43 := F43.binds (ps := ["store", "numbers"]) fun _ _ _ _ _ _ us hl => match us, hl with | [_, _], _ => rfl
  have F44 := fun_mk (st := top 44) lD44 cD44 kD44
  have b44 := F44.binds (ps := ["store", "numbers"]) fun _ _ _ _ _ _ us hl => match us, hl with | [_, _], _ => rfl
  have F45 := fun_mk (st := top 45) lD45 cD45 kD45
  have b45 := F45.binds (ps := ["store", "numbers"]) fun _ _ _ _ _ _ us hl => match us, hl with | [_, _], _ => rfl
  have F52 := fun_mk (st := top 52) lD52 cD52 kD52
  have b52 := F52.binds (ps := ["worths"]) fun _ _ _ _ _ _ us hl => match us, hl with | [_], _ => rfl
  have F53 := fun_mk (st := top 53) lD53 cD53 kD53
  have b53 := F53.binds (ps := ["store", "numbers"]) fun _ _ _ _ _ _ us hl => match us, hl with | [_, _], _ => rfl
  have F54 := fun_mk (st := top 54) lD54 cD54 kD54
  have b54 := F54.binds (ps := ["kinds", "worths"]) fun _ _ _ _ _ _ us hl => match us, hl with | [_, _], _ => rfl
  have F55 := fun_mk (st := top 55) lD55 cD55 kD55
  have b55 := F55.binds (ps := ["store", "numbers"]) fun _ _ _ _ _ _ us hl => match us, hl with | [_, _], _ => rfl
  have F56 := fun_mk (st := top 56) lD56 cD56 kD56
  have b56 := F56.binds (ps := ["store", "numbers"]) fun _ _ _ _ _ _ us hl => match us, hl with | [_, _], _ => rfl
  have F57 := fun_mk (st := top 57) lD57 cD57 kD57
  have b57 := F57.binds (ps := ["store", "numbers"]) fun _ _ _ _ _ _ us hl => match us, hl with | [_, _], _ => rfl
  have F58 := fun_mk (st := top 58) lD58 cD58 kD58
  have b58 := F58.binds (ps := ["kinds", "places"]) fun _ _ _ _ _ _ us hl => match us, hl with | [_, _], _ => rfl
  have F59 := fun_mk (st := top 59) lD59 cD59 kD59
  have b59 := F59.binds (ps := ["store", "numbers"]) fun _ _ _ _ _ _ us hl => match us, hl with | [_, _], _ => rfl
  have F60 := fun_mk (st := top 60) lD60 cD60 kD60
  have b60 := F60.binds (ps := ["store", "numbers"]) fun _ _ _ _ _ _ us hl => match us, hl with | [_, _], _ => rfl
  have F61 := fun_mk (st := top 61) lD61 cD61 kD61
  have b61 := F61.binds (ps := ["store", "numbers"]) fun _ _ _ _ _ _ us hl => match us, hl with | [_, _], _ => rfl
  have F62 := fun_mk (st := top 62) lD62 cD62 kD62
  have b62 := F62.binds (ps := ["store", "numbers"]) fun _ _ _ _ _ _ us hl => match us, hl with | [_, _], _ => rfl
  have F63 := fun_mk (st := top 63) lD63 cD63 kD63
  have b63 := F63.binds (ps := ["store", "numbers"]) fun _ _ _ _ _ _ us hl => match us, hl with | [_, _], _ => rfl
  have F64 := fun_mk (st := top 64) lD64 cD64 kD64
  have b64 := F64.binds (ps := ["store", "numbers"]) fun _ _ _ _ _ _ us hl => match us, hl with | [_, _], _ => rfl
  have F65 := fun_mk (st := top 65) lD65 cD65 kD65
  have b65 := F65.binds (ps := ["store", "numbers"]) fun _ _ _ _ _ _ us hl => match us, hl with | [_, _], _ => rfl
  have F66 := fun_mk (st := top 66) lD66 cD66 kD66
  have b66 := F66.binds (ps := ["store", "numbers"]) fun _ _ _ _ _ _ us hl => match us, hl with | [_, _], _ => rfl
  have F72 := fun_mk (st := top 72) lD72 cD72 kD72
  have b72 := F72.binds (ps := ["store", "number", "numbers"]) fun _ _ _ _ _ _ us hl => match us, hl with | [_, _, _], _ => rfl
  have F73 := fun_mk (st := top 73) lD73 cD73 kD73
  have b73 := F73.binds (ps := ["calls"]) fun _ _ _ _ _ _ us hl => match us, hl with | [_], _ => rfl
  have FI := fun_mk (st := inClass (top 69) 0) lM69_0 cM69_0 kM69_0
  have bI := FI.binds (ps := ["self"]) fun _ _ _ _ _ _ us hl => match us, hl with | [_], _ => rfl
  have I12 : IKD K d12 [(19, .ref fD10), (20, .ref fD11)] := ⟨⟨_, _, ld12, ik12⟩, lo12⟩
  have I14 : IKD K d14 [(0, .int 1 w14_0), (2, .int 1 w14_1), (3, .int 1 w14_2), (4, .int 0 w14_3), (5, .int 1 w14_4), (6, .int 1 w14_5), (7, .int 0 w14_6), (9, .int 2 w14_7), (10, .int 1 w14_8), (13, .int 1 w14_9), (14, .int 2 w14_10), (15, .int 2 w14_11), (16, .int 1 w14_12), (17, .int 3 w14_13), (18, .int 2 w14_14), (19, .int 0 w14_15), (20, .int 0 w14_16)] := ⟨⟨_, _, ld14, ik14⟩, lo14⟩
  have I46 : IKD K d46 [(12, .ref fD39), (13, .ref fD40), (14, .ref fD41), (15, .ref fD42), (16, .ref fD43), (17, .ref fD44), (18, .ref fD45)] := ⟨⟨_, _, ld46, ik46⟩, lo46⟩
  have I67 : IKD K d67 [(0, .ref fD53), (1, .ref fD55), (2, .ref fD56), (3, .ref fD57), (4, .ref fD59), (5, .ref fD60), (6, .ref fD61), (7, .ref fD62), (8, .ref fD63), (9, .ref fD64), (10, .ref fD65), (11, .ref fD66)] := ⟨⟨_, _, ld67, ik67⟩, lo67⟩
  refine ⟨PySem.W.fnOf "answers" "answers" (defArgs (top 73)) (defBody (top 73)) (defScope (top 73)) .none kVD73 dcD73 pmD73 anD73 cdD73 ctD73, fun s us hu => match us, hu with | [_], _ => .of_eq rfl, fun base _ _ => ?_⟩
  have G1 := ok_one (P := Pr) (w := w) (base := base) (mg := mg) F1 B
  have c1 := cal_mk G1 (PySem.W.mg_of X G aD1) kD1 b1
  have G2 := ok_lay (P := Pr) (w := w) (base := base) (mg := mg) F2 B
  have c2 := cal_mk G2 (PySem.W.mg_of X G aD2) kD2 b2
  have G3 := ok_order (P := Pr) (w := w) (base := base) (mg := mg) F3 B c2
  have c3 := cal_mk G3 (PySem.W.mg_of X G aD3) kD3 b3
  have G4 := ok_sharing (P := Pr) (w := w) (base := base) (mg := mg) F4 B c3
  have c4 := cal_mk G4 (PySem.W.mg_of X G aD4) kD4 b4
  have G5 := ok_together (P := Pr) (w := w) (base := base) (mg := mg) F5 B
  have c5 := cal_mk G5 (PySem.W.mg_of X G aD5) kD5 b5
  have G6 := ok_worth (P := Pr) (w := w) (base := base) (mg := mg) F6 c5 c4
  have c6 := cal_mk G6 (PySem.W.mg_of X G aD6) kD6 b6
  have G7 := ok_price (P := Pr) (w := w) (base := base) (mg := mg) F7 c4 c2 c1
  have c7 := cal_mk G7 (PySem.W.mg_of X G aD7) kD7 b7
  have G8 := ok_is (P := Pr) (w := w) (base := base) (mg := mg) F8 B
  have c8 := cal_mk G8 (PySem.W.mg_of X G aD8) kD8 b8
  have G15 := ok_calls (P := Pr) (w := w) (base := base) (mg := mg) F15 B I14 (wtab _ _ _ _ _ _ _ _ _ _ _ _ _ _ _ _ _) (PySem.W.mg_of X G ad14)
  have c15 := cal_mk G15 (PySem.W.mg_of X G aD15) kD15 b15
  have G23 := ok_piece (P := Pr) (w := w) (base := base) (mg := mg) F23
  have c23 := cal_mk G23 (PySem.W.mg_of X G aD23) kD23 b23
  have G24 := ok_costs (P := Pr) (w := w) (base := base) (mg := mg) F24 B N c23
  have c24 := cal_mk G24 (PySem.W.mg_of X G aD24) kD24 b24
  have G25 := ok_bestB (P := Pr) (w := w) (base := base) (mg := mg) F25 B
  have c25 := cal_mk G25 (PySem.W.mg_of X G aD25) kD25 b25
  have G26 := ok_least (P := Pr) (w := w) (base := base) (mg := mg) F26 c25
  have c26 := cal_mk G26 (PySem.W.mg_of X G aD26) kD26 b26
  have G27 := ok_two (P := Pr) (w := w) (base := base) (mg := mg) F27 B c25 c26
  have c27 := cal_mk G27 (PySem.W.mg_of X G aD27) kD27 b27
  have G28 := ok_most (P := Pr) (w := w) (base := base) (mg := mg) F28 B
  have c28 := cal_mk G28 (PySem.W.mg_of X G aD28) kD28 b28
  have G30 := ok_nab (P := Pr) (w := w) (base := base) (mg := mg) F30 B
  have c30 := cal_mk G30 (PySem.W.mg_of X G aD30) kD30 b30
  have G31 := ok_but (P := Pr) (w := w) (base := base) (mg := mg) F31
  have c31 := cal_mk G31 (PySem.W.mg_of X G aD31) kD31 b31
  have G37 := ok_starts (P := Pr) (w := w) (base := base) (mg := mg) F37 B N
  have c37 := cal_mk G37 (PySem.W.mg_of X G aD37) kD37 b37
  have G38 := ok_areSteps (P := Pr) (w := w) (base := base) (mg := mg) F38 B N c30 c37
  have c38 := cal_mk G38 (PySem.W.mg_of X G aD38) kD38 b38
  have G39 := ok_addS (P := Pr) (w := w) (base := base) (mg := mg) F39 B N T c38
  have c39 := cal_mk G39 (PySem.W.mg_of X G aD39) kD39 b39
  have G40 := ok_away (P := Pr) (w := w) (base := base) (mg := mg) F40 B N T c31
  have c40 := cal_mk G40 (PySem.W.mg_of X G aD40) kD40 b40
  have G41 := ok_cost (P := Pr) (w := w) (base := base) (mg := mg) F41 B N T c24 c23
  have c41 := cal_mk G41 (PySem.W.mg_of X G aD41) kD41 b41
  have G42 := ok_buy (P := Pr) (w := w) (base := base) (mg := mg) F42 B N T c24 c25 c26
  have c42 := cal_mk G42 (PySem.W.mg_of X G aD42) kD42 b42
  have G43 := ok_cheap (P := Pr) (w := w) (base := base) (mg := mg) F43 B N T c24 c26
  have c43 := cal_mk G43 (PySem.W.mg_of X G aD43) kD43 b43
  have G44 := ok_tellTwo (P := Pr) (w := w) (base := base) (mg := mg) F44 B N T c24 c27
  have c44 := cal_mk G44 (PySem.W.mg_of X G aD44) kD44 b44
  have G45 := ok_upto (P := Pr) (w := w) (base := base) (mg := mg) F45 B N T c24 c28
  have c45 := cal_mk G45 (PySem.W.mg_of X G aD45) kD45 b45
  have G52 := ok_are (P := Pr) (w := w) (base := base) (mg := mg) F52 B N c30
  have c52 := cal_mk G52 (PySem.W.mg_of X G aD52) kD52 b52
  have G53 := ok_begin (P := Pr) (w := w) (base := base) (mg := mg) F53 N T
  have c53 := cal_mk G53 (PySem.W.mg_of X G aD53) kD53 b53
  have G54 := ok_refusal (P := Pr) (w := w) (base := base) (mg := mg) F54 B N c52
  have c54 := cal_mk G54 (PySem.W.mg_of X G aD54) kD54 b54
  have G55 := ok_add (P := Pr) (w := w) (base := base) (mg := mg) F55 B T c54
  have c55 := cal_mk G55 (PySem.W.mg_of X G aD55) kD55 b55
  have G56 := ok_drop (P := Pr) (w := w) (base := base) (mg := mg) F56 B N T c31
  have c56 := cal_mk G56 (PySem.W.mg_of X G aD56) kD56 b56
  have G57 := ok_room (P := Pr) (w := w) (base := base) (mg := mg) F57 N T
  have c57 := cal_mk G57 (PySem.W.mg_of X G aD57) kD57 b57
  have G58 := ok_ws (P := Pr) (w := w) (base := base) (mg := mg) F58 c6 c4
  have c58 := cal_mk G58 (PySem.W.mg_of X G aD58) kD58 b58
  have G59 := ok_best (P := Pr) (w := w) (base := base) (mg := mg) F59 T c58
  have c59 := cal_mk G59 (PySem.W.mg_of X G aD59) kD59 b59
  have G60 := ok_at (P := Pr) (w := w) (base := base) (mg := mg) F60 N T c58
  have c60 := cal_mk G60 (PySem.W.mg_of X G aD60) kD60 b60
  have G61 := ok_tellPrice (P := Pr) (w := w) (base := base) (mg := mg) F61 N T c7
  have c61 := cal_mk G61 (PySem.W.mg_of X G aD61) kD61 b61
  have G62 := ok_steps (P := Pr) (w := w) (base := base) (mg := mg) F62 B T c3
  have c62 := cal_mk G62 (PySem.W.mg_of X G aD62) kD62 b62
  have G63 := ok_value (P := Pr) (w := w) (base := base) (mg := mg) F63 B N T c8 c5 c6
  have c63 := cal_mk G63 (PySem.W.mg_of X G aD63) kD63 b63
  have G64 := ok_tellWorth (P := Pr) (w := w) (base := base) (mg := mg) F64 B N T c1
  have c64 := cal_mk G64 (PySem.W.mg_of X G aD64) kD64 b64
  have G65 := ok_without (P := Pr) (w := w) (base := base) (mg := mg) F65 B N T c31 c6
  have c65 := cal_mk G65 (PySem.W.mg_of X G aD65) kD65 b65
  have G66 := ok_would (P := Pr) (w := w) (base := base) (mg := mg) F66 T c54 c58
  have c66 := cal_mk G66 (PySem.W.mg_of X G aD66) kD66 b66
  have G10 := ok_sums (P := Pr) (w := w) (base := base) (mg := mg) F10 B T c6
  have c10 := cal_mk G10 (PySem.W.mg_of X G aD10) kD10 b10
  have G11 := ok_state (P := Pr) (w := w) (base := base) (mg := mg) F11 B T
  have c11 := cal_mk G11 (PySem.W.mg_of X G aD11) kD11 b11
  have Tb : Tabs Pr w K mg base C69 (fun n => [fD53, fD55, fD56, fD57, fD59, fD60, fD61, fD62, fD63, fD64, fD65, fD66, fD39, fD40, fD41, fD42, fD43, fD44, fD45, fD10, fD11].getD n 0) d67 d46 d12 [(0, .ref fD53), (1, .ref fD55), (2, .ref fD56), (3, .ref fD57), (4, .ref fD59), (5, .ref fD60), (6, .ref fD61), (7, .ref fD62), (8, .ref fD63), (9, .ref fD64), (10, .ref fD65), (11, .ref fD66)] [(12, .ref fD39), (13, .ref fD40), (14, .ref fD41), (15, .ref fD42), (16, .ref fD43), (17, .ref fD44), (18, .ref fD45)] [(19, .ref fD10), (20, .ref fD11)] := {
    D1 := I67, g1 := PySem.W.mg_of X G ad67, D2 := I46, g2 := PySem.W.mg_of X G ad46, D3 := I12, g3 := PySem.W.mg_of X G ad12
    l1 := all21 rfl rfl rfl rfl rfl rfl rfl rfl rfl rfl rfl rfl rfl rfl rfl rfl rfl rfl rfl rfl rfl
    l2 := all21 rfl rfl rfl rfl rfl rfl rfl rfl rfl rfl rfl rfl rfl rfl rfl rfl rfl rfl rfl rfl rfl
    l3 := all21 rfl rfl rfl rfl rfl rfl rfl rfl rfl rfl rfl rfl rfl rfl rfl rfl rfl rfl rfl rfl rfl
    fn := all21 ⟨raw_mk G53 b53 (by decide), kD53⟩ ⟨raw_mk G55 b55 (by decide), kD55⟩ ⟨raw_mk G56 b56 (by decide), kD56⟩ ⟨raw_mk G57 b57 (by decide), kD57⟩ ⟨raw_mk G59 b59 (by decide), kD59⟩ ⟨raw_mk G60 b60 (by decide), kD60⟩ ⟨raw_mk G61 b61 (by decide), kD61⟩ ⟨raw_mk G62 b62 (by decide), kD62⟩ ⟨raw_mk G63 b63 (by decide), kD63⟩ ⟨raw_mk G64 b64 (by decide), kD64⟩ ⟨raw_mk G65 b65 (by decide), kD65⟩ ⟨raw_mk G66 b66 (by decide), kD66⟩ ⟨raw_mk G39 b39 (by decide), kD39⟩ ⟨raw_mk G40 b40 (by decide), kD40⟩ ⟨raw_mk G41 b41 (by decide), kD41⟩ ⟨raw_mk G42 b42 (by decide), kD42⟩ ⟨raw_mk G43 b43 (by decide), kD43⟩ ⟨raw_mk G44 b44 (by decide), kD44⟩ ⟨raw_mk G45 b45 (by decide), kD45⟩ ⟨raw_mk G10 b10 (by decide), kD10⟩ ⟨raw_mk G11 b11 (by decide), kD11⟩ }
  have G72 := ok_ansTo (P := Pr) (w := w) (base := base) (mg := mg) F72 N T Tb
  have c72 := cal_mk G72 (PySem.W.mg_of X G aD72) kD72 b72
  exact ok_answers (P := Pr) (w := w) (base := base) (mg := mg) F73 B T ⟨mk69, aM69_0, iM69_0, kc69⟩ (ok_init FI T) bI c15 c72
end Su
open PySem PySem.W PyProof.Rows
set_option maxRecDepth 100000 in
set_option maxHeartbeats 8000000 in
theorem PySem.Challenge.cw_shelfshares_s01_answers_holds : PySem.Challenge.rw_shelfshares_s01_answers.Holds := by
  w_on; k_headS; (case hw => exact ⟨[.list [.int 4]], by decide +kernel, by decide +kernel⟩)
  k_fillS
  refine L2.walk_specK (r := PySem.Challenge.rw_shelfshares_s01_answers) (k := 8) (CX := L2.CX0) (ps := ["calls"]) (sp := Su.spAnswers) (by decide +kernel) rfl rfl ⟨rfl, by decide, by decide⟩
    (fun w h Y => PySem.W.kIn_of Y) ?F ?S (fun _ _ _ _ z => z)
  case F =>
    intro w mg fa h Y KX G hmg
    refine' Su.all_mk KX G hmg ?aD1 ?lD1 ?cD1 ?kD1 ?aD2 ?lD2 ?cD2 ?kD2 ?aD3 ?lD3 ?cD3 ?kD3 ?aD4 ?lD4 ?cD4 ?kD4 ?aD5 ?lD5 ?cD5 ?kD5 ?aD6 ?lD6 ?cD6 ?kD6 ?aD7 ?lD7 ?cD7 ?kD7 ?aD8 ?lD8 ?cD8 ?kD8 ?aD10 ?lD10 ?cD10 ?kD10 ?aD11 ?lD11 ?cD11 ?kD11 ?aD15 ?lD15 ?cD15 ?kD15 ?aD23 ?lD23 ?cD23 ?kD23 ?aD24 ?lD24 ?cD24 ?kD24 ?aD25 ?lD25 ?cD25 ?kD25 ?aD26 ?lD26 ?cD26 ?kD26 ?aD27 ?lD27 ?cD27 ?kD27 ?aD28 ?lD28 ?cD28 ?kD28 ?aD30 ?lD30 ?cD30 ?kD30 ?aD31 ?lD31 ?cD31 ?kD31 ?aD37 ?lD37 ?cD37 ?kD37 ?aD38 ?lD38 ?cD38 ?kD38 ?aD39 ?lD39 ?cD39 ?kD39 ?aD40 ?lD40 ?cD40 ?kD40 ?aD41 ?lD41 ?cD41 ?kD41 ?aD42 ?lD42 ?cD42 ?kD42 ?aD43 ?lD43 ?cD43 ?kD43 ?aD44 ?lD44 ?cD44 ?kD44 ?aD45 ?lD45 ?cD45 ?kD45 ?aD52 ?lD52 ?cD52 ?kD52 ?aD53 ?lD53 ?cD53 ?kD53 ?aD54 ?lD54 ?cD54 ?kD54 ?aD55 ?lD55 ?cD55 ?kD55 ?aD56 ?lD56 ?cD56 ?kD56 ?aD57 ?lD57 ?cD57 ?kD57 ?aD58 ?lD58 ?cD58 ?kD58 ?aD59 ?lD59 ?cD59 ?kD59 ?aD60 ?lD60 ?cD60 ?kD60 ?aD61 ?lD61 ?cD61 ?kD61 ?aD62 ?lD62 ?cD62 ?kD62 ?aD63 ?lD63 ?cD63 ?kD63 ?aD64 ?lD64 ?cD64 ?kD64 ?aD65 ?lD65 ?cD65 ?kD65 ?aD66 ?lD66 ?cD66 ?kD66 ?aD72 ?lD72 ?cD72 ?kD72 ?aD73 ?lD73 ?cD73 ?kD73 ?aC69 ?pg69 ?hd69 ?po69 ?sa69 ?mk69 ?kc69 ?aM69_0 ?iM69_0 ?lM69_0 ?cM69_0 ?kM69_0 ?n69_begun ?n69_places ?n69_kinds ?n69_sellers ?v16 ?v17 ?v18 ?v19 ?v20 ?v22 ?v33 ?v34 ?v35 ?v36 ?v48 ?v49 ?v50 ?v51 ?v71 ?ad12 ?ld12 ?lo12 ?ik12 ?ad14 ?ld14 ?lo14 ?ik14 ?ad46 ?ld46 ?lo46 ?ik46 ?ad67 ?ld67 ?lo67 ?ik67 ?b_len ?b_sum ?b_zip ?b_enumerate ?b_range ?b_all ?b_max ?b_min ?b_list
    (case aD1 => k_is)
    (case lD1 => k_is)
    (case cD1 => k_is)
    (case kD1 => k_is)
    (case aD2 => k_is)
    (case lD2 => k_is)
    (case cD2 => k_is)
    (case kD2 => k_is)
    (case aD3 => k_is)
    (case lD3 => k_is)
    (case cD3 => k_is)
    (case kD3 => k_is)
    (case aD4 => k_is)
    (case lD4 => k_is)
    (case cD4 => k_is)
    (case kD4 => k_is)
    (case aD5 => k_is)
    (case lD5 => k_is)
    (case cD5 => k_is)
    (case kD5 => k_is)
    (case aD6 => k_is)
    (case lD6 => k_is)
    (case cD6 => k_is)
    (case kD6 => k_is)
    (case aD7 => k_is)
    (case lD7 => k_is)
    (case cD7 => k_is)
    (case kD7 => k_is)
    (case aD8 => k_is)
    (case lD8 => k_is)
    (case cD8 => k_is)
    (case kD8 => k_is)
    (case aD10 => k_is)
    (case lD10 => k_is)
    (case cD10 => k_is)
    (case kD10 => k_is)
    (case aD11 => k_is)
    (case lD11 => k_is)
    (case cD11 => k_is)
    (case kD11 => k_is)
    (case aD15 => k_is)
    (case lD15 => k_is)
    (case cD15 => k_is)
    (case kD15 => k_is)
    (case aD23 => k_is)
    (case lD23 => k_is)
    (case cD23 => k_is)
    (case kD23 => k_is)
    (case aD24 => k_is)
    (case lD24 => k_is)
    (case cD24 => k_is)
    (case kD24 => k_is)
    (case aD25 => k_is)
    (case lD25 => k_is)
    (case cD25 => k_is)
    (case kD25 => k_is)
    (case aD26 => k_is)
    (case lD26 => k_is)
    (case cD26 => k_is)
    (case kD26 => k_is)
    (case aD27 => k_is)
    (case lD27 => k_is)
    (case cD27 => k_is)
    (case kD27 => k_is)
    (case aD28 => k_is)
    (case lD28 => k_is)
    (case cD28 => k_is)
    (case kD28 => k_is)
    (case aD30 => k_is)
    (case lD30 => k_is)
    (case cD30 => k_is)
    (case kD30 => k_is)
    (case aD31 => k_is)
    (case lD31 => k_is)
    (case cD31 => k_is)
    (case kD31 => k_is)
    (case aD37 => k_is)
    (case lD37 => k_is)
    (case cD37 => k_is)
    (case kD37 => k_is)
    (case aD38 => k_is)
    (case lD38 => k_is)
    (case cD38 => k_is)
    (case kD38 => k_is)
    (case aD39 => k_is)
    (case lD39 => k_is)
    (case cD39 => k_is)
    (case kD39 => k_is)
    (case aD40 => k_is)
    (case lD40 => k_is)
    (case cD40 => k_is)
    (case kD40 => k_is)
    (case aD41 => k_is)
    (case lD41 => k_is)
    (case cD41 => k_is)
    (case kD41 => k_is)
    (case aD42 => k_is)
    (case lD42 => k_is)
    (case cD42 => k_is)
    (case kD42 => k_is)
    (case aD43 => k_is)
    (case lD43 => k_is)
    (case cD43 => k_is)
    (case kD43 => k_is)
    (case aD44 => k_is)
    (case lD44 => k_is)
    (case cD44 => k_is)
    (case kD44 => k_is)
    (case aD45 => k_is)
    (case lD45 => k_is)
    (case cD45 => k_is)
    (case kD45 => k_is)
    (case aD52 => k_is)
    (case lD52 => k_is)
    (case cD52 => k_is)
    (case kD52 => k_is)
    (case aD53 => k_is)
    (case lD53 => k_is)
    (case cD53 => k_is)
    (case kD53 => k_is)
    (case aD54 => k_is)
    (case lD54 => k_is)
    (case cD54 => k_is)
    (case kD54 => k_is)
    (case aD55 => k_is)
    (case lD55 => k_is)
    (case cD55 => k_is)
    (case kD55 => k_is)
    (case aD56 => k_is)
    (case lD56 => k_is)
    (case cD56 => k_is)
    (case kD56 => k_is)
    (case aD57 => k_is)
    (case lD57 => k_is)
    (case cD57 => k_is)
    (case kD57 => k_is)
    (case aD58 => k_is)
    (case lD58 => k_is)
    (case cD58 => k_is)
    (case kD58 => k_is)
    (case aD59 => k_is)
    (case lD59 => k_is)
    (case cD59 => k_is)
    (case kD59 => k_is)
    (case aD60 => k_is)
    (case lD60 => k_is)
    (case cD60 => k_is)
    (case kD60 => k_is)
    (case aD61 => k_is)
    (case lD61 => k_is)
    (case cD61 => k_is)
    (case kD61 => k_is)
    (case aD62 => k_is)
    (case lD62 => k_is)
    (case cD62 => k_is)
    (case kD62 => k_is)
    (case aD63 => k_is)
    (case lD63 => k_is)
    (case cD63 => k_is)
    (case kD63 => k_is)
    (case aD64 => k_is)
    (case lD64 => k_is)
    (case cD64 => k_is)
    (case kD64 => k_is)
    (case aD65 => k_is)
    (case lD65 => k_is)
    (case cD65 => k_is)
    (case kD65 => k_is)
    (case aD66 => k_is)
    (case lD66 => k_is)
    (case cD66 => k_is)
    (case kD66 => k_is)
    (case aD72 => k_is)
    (case lD72 => k_is)
    (case cD72 => k_is)
    (case kD72 => k_is)
    (case aD73 => k_is)
    (case lD73 => k_is)
    (case cD73 => k_is)
    (case kD73 => k_is)
    (case aC69 => k_is)
    (case pg69 => k_is)
    (case hd69 => k_is)
    (case po69 => k_is)
    (case sa69 => k_is)
    (case mk69 => k_is)
    (case kc69 => k_is)
    (case aM69_0 => k_is)
    (case iM69_0 => k_is)
    (case lM69_0 => k_is)
    (case cM69_0 => k_is)
    (case kM69_0 => k_is)
    (case n69_begun => k_is)
    (case n69_places => k_is)
    (case n69_kinds => k_is)
    (case n69_sellers => k_is)
    (case v16 => k_is)
    (case v17 => k_is)
    (case v18 => k_is)
    (case v19 => k_is)
    (case v20 => k_is)
    (case v22 => k_is)
    (case v33 => k_is)
    (case v34 => k_is)
    (case v35 => k_is)
    (case v36 => k_is)
    (case v48 => k_is)
    (case v49 => k_is)
    (case v50 => k_is)
    (case v51 => k_is)
    (case v71 => k_is)
    (case ad12 => k_is)
    (case ld12 => k_is)
    (case lo12 => first | rfl | decide | decide +kernel)
    (case ik12 => exact ⟨⟨_, rfl⟩, rfl, rfl, ⟨⟨_, rfl⟩, rfl, rfl, trivial⟩⟩)
    (case ad14 => k_is)
    (case ld14 => k_is)
    (case lo14 => first | rfl | decide | decide +kernel)
    (case ik14 => exact ⟨⟨_, rfl⟩, rfl, rfl, ⟨⟨_, rfl⟩, rfl, rfl, ⟨⟨_, rfl⟩, rfl, rfl, ⟨⟨_, rfl⟩, rfl, rfl, ⟨⟨_, rfl⟩, rfl, rfl, ⟨⟨_, rfl⟩, rfl, rfl, ⟨⟨_, rfl⟩, rfl, rfl, ⟨⟨_, rfl⟩, rfl, rfl, ⟨⟨_, rfl⟩, rfl, rfl, ⟨⟨_, rfl⟩, rfl, rfl, ⟨⟨_, rfl⟩, rfl, rfl, ⟨⟨_, rfl⟩, rfl, rfl, ⟨⟨_, rfl⟩, rfl, rfl, ⟨⟨_, rfl⟩, rfl, rfl, ⟨⟨_, rfl⟩, rfl, rfl, ⟨⟨_, rfl⟩, rfl, rfl, ⟨⟨_, rfl⟩, rfl, rfl, trivial⟩⟩⟩⟩⟩⟩⟩⟩⟩⟩⟩⟩⟩⟩⟩⟩⟩)
    (case ad46 => k_is)
    (case ld46 => k_is)
    (case lo46 => first | rfl | decide | decide +kernel)
    (case ik46 => exact ⟨⟨_, rfl⟩, rfl, rfl, ⟨⟨_, rfl⟩, rfl, rfl, ⟨⟨_, rfl⟩, rfl, rfl, ⟨⟨_, rfl⟩, rfl, rfl, ⟨⟨_, rfl⟩, rfl, rfl, ⟨⟨_, rfl⟩, rfl, rfl, ⟨⟨_, rfl⟩, rfl, rfl, trivial⟩⟩⟩⟩⟩⟩⟩)
    (case ad67 => k_is)
    (case ld67 => k_is)
    (case lo67 => first | rfl | decide | decide +kernel)
    (case ik67 => exact ⟨⟨_, rfl⟩, rfl, rfl, ⟨⟨_, rfl⟩, rfl, rfl, ⟨⟨_, rfl⟩, rfl, rfl, ⟨⟨_, rfl⟩, rfl, rfl, ⟨⟨_, rfl⟩, rfl, rfl, ⟨⟨_, rfl⟩, rfl, rfl, ⟨⟨_, rfl⟩, rfl, rfl, ⟨⟨_, rfl⟩, rfl, rfl, ⟨⟨_, rfl⟩, rfl, rfl, ⟨⟨_, rfl⟩, rfl, rfl, ⟨⟨_, rfl⟩, rfl, rfl, ⟨⟨_, rfl⟩, rfl, rfl, trivial⟩⟩⟩⟩⟩⟩⟩⟩⟩⟩⟩⟩)
    (case b_len => k_is)
    (case b_sum => k_is)
    (case b_zip => k_is)
    (case b_enumerate => k_is)
    (case b_range => k_is)
    (case b_all => k_is)
    (case b_max => k_is)
    (case b_min => k_is)
    (case b_list => k_is)
  case S =>
    intro K H xs a hO hwi hask hx
    cases hx with
    | cons h1 h2 =>
      cases h2
      cases h1 with
      | lst hs ha =>
        have e := L2.ints_dw a.1 _ ha
        subst e
        exact ⟨_, a.1, rfl, hs, (Su.within_of hwi).1, (Su.within_of hwi).2, hask, fun H' p hp => .lst (L2.SqL.of hp) (L2.dw_ints _)⟩
#print axioms PySem.Challenge.cw_shelfshares_s01_answers_holds
