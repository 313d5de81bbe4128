import PyProof.Rows.All
import Wide.All
import OpenK.AllK
import Wide.FinOn
import Open.SpecLaws
import KE.OsGo
import KE.GoesEnumKw
import KE.GoesMore
import HandS.ForSpec
import HandS.Comp
import HandS.Iter
import HandS.Rev
import HandS.Walk
import HandS.SortKw
import HandS.SortInts
import HandS.Codes
import HandS.Conv
import KE.DataMinMax
import KE.DataMinKey
import HandS.DictTup
import PySem.Challenge.RW_panstack_s01_answers
set_option Elab.async false
set_option maxRecDepth 100000
set_option maxHeartbeats 4000000
namespace Pan
open Mu28

/-- one size, turned over where sides count -/
def sg (b : Bool) (x : Int) : Int := if b = true then -x else x
theorem sg_sg (b : Bool) (x : Int) : sg b (sg b x) = x := by cases b <;> simp [sg]
theorem sg_abs (b : Bool) (x : Int) : (sg b x).natAbs = x.natAbs := by cases b <;> simp [sg]
theorem flip_def (b : Bool) (k : Nat) (s : List Int) : flip b k s = ((s.take k).reverse.map (sg b)) ++ s.drop k := rfl

theorem flip_len (b : Bool) (k : Nat) (s : List Int) : (flip b k s).length = s.length := by
  rw [flip_def]; simp; omega
theorem flips_len (b : Bool) : ∀ (l : List Nat) (s : List Int), (flips b l s).length = s.length
  | [], _ => rfl
  | k :: l, s => by
    show (flips b l (flip b k s)).length = _
    rw [flips_len b l, flip_len]
theorem flips_cons (b : Bool) (k : Nat) (l : List Nat) (s : List Int) : flips b (k :: l) s = flips b l (flip b k s) := rfl
theorem flips_append (b : Bool) (l m : List Nat) (s : List Int) : flips b (l ++ m) s = flips b m (flips b l s) := by
  unfold flips; rw [List.foldl_append]

theorem flip_get (b : Bool) {k : Nat} {s : List Int} (hk : k ≤ s.length) (i : Nat) :
    (flip b k s)[i]? = if i < k then (s[k - 1 - i]?).map (sg b) else s[i]? := by
  rw [flip_def]
  by_cases h : i < k
  · rw [if_pos h, List.getElem?_append_left (by simp; omega), List.getElem?_map, List.getElem?_reverse (by simp; omega)]
    congr 1
    rw [List.getElem?_take, List.length_take, Nat.min_eq_left hk, if_pos (by omega)]
  · rw [if_neg h, List.getElem?_append_right (by simp; omega), List.getElem?_drop]
    congr 1
    simp; omega

/-! ### what a stack is -/
structure Valid (b : Bool) (s : List Int) : Prop where
  perm : (s.map Int.natAbs).Perm ((List.range s.length).map (· + 1))
  pos : b = true ∨ ∀ x ∈ s, 0 < x

theorem flip_perm (b : Bool) (k : Nat) (s : List Int) : ((flip b k s).map Int.natAbs).Perm (s.map Int.natAbs) := by
  rw [flip_def, List.map_append, List.map_map]
  have e : (Int.natAbs ∘ sg b) = Int.natAbs := by funext x; exact sg_abs b x
  rw [e]
  have h1 : ((s.take k).reverse.map Int.natAbs).Perm ((s.take k).map Int.natAbs) := (List.reverse_perm _).map _
  have h2 := h1.append (List.Perm.refl ((s.drop k).map Int.natAbs))
  rw [← List.map_append, ← List.map_append, List.take_append_drop] at h2
  rw [← List.map_append]
  exact h2

theorem Valid.flip {b : Bool} {s : List Int} (h : Valid b s) (k : Nat) : Valid b (flip b k s) := by
  refine ⟨?_, ?_⟩
  · rw [flip_len]; exact (flip_perm b k s).trans h.perm
  · cases hb : b with
    | true => exact .inl rfl
    | false =>
      refine .inr fun x hx => ?_
      cases h.pos with
      | inl q => rw [hb] at q; cases q
      | inr q =>
        rw [flip_def] at hx
        simp only [sg, List.mem_append, List.mem_map, List.mem_reverse] at hx
        rcases hx with ⟨y, hy, rfl⟩ | hx
        · simpa using q y (List.mem_of_mem_take hy)
        · exact q x (List.mem_of_mem_drop hx)

theorem Valid.flips {b : Bool} : ∀ (l : List Nat) {s : List Int}, Valid b s → Valid b (flips b l s)
  | [], _, h => h
  | k :: l, _, h => Valid.flips l (h.flip k)

theorem Valid.mem {b : Bool} {s : List Int} (h : Valid b s) {x : Int} (hx : x ∈ s) : 1 ≤ x.natAbs ∧ x.natAbs ≤ s.length := by
  have := h.perm.mem_iff.mp (List.mem_map_of_mem (f := Int.natAbs) hx)
  simp at this
  omega

theorem Valid.nodup {b : Bool} {s : List Int} (h : Valid b s) : (s.map Int.natAbs).Nodup := by
  have : ((List.range s.length).map (· + 1)).Nodup := by
    rw [List.nodup_iff_pairwise_ne, List.pairwise_map]
    exact (List.nodup_iff_pairwise_ne.mp List.nodup_range).imp (by intro a b h; omega)
  exact h.perm.symm.nodup this

theorem Valid.has {b : Bool} {s : List Int} (h : Valid b s) {v : Nat} (h1 : 1 ≤ v) (h2 : v ≤ s.length) : ∃ i, i < s.length ∧ ∃ x, s[i]? = some x ∧ x.natAbs = v := by
  have : v ∈ s.map Int.natAbs := h.perm.mem_iff.mpr (by simp; exact ⟨v - 1, by omega, by omega⟩)
  obtain ⟨x, hx, e⟩ := List.mem_map.mp this
  obtain ⟨i, hi⟩ := List.getElem?_of_mem hx
  exact ⟨i, (List.getElem?_eq_some_iff.mp hi).1, x, hi, e⟩

theorem Valid.inj {b : Bool} {s : List Int} (h : Valid b s) {i j : Nat} {x y : Int} (hi : s[i]? = some x) (hj : s[j]? = some y) (e : x.natAbs = y.natAbs) : i = j := by
  have n := h.nodup
  have a : (s.map Int.natAbs)[i]? = some x.natAbs := by rw [List.getElem?_map, hi]; rfl
  have c : (s.map Int.natAbs)[j]? = some x.natAbs := by rw [List.getElem?_map, hj, e]; rfl
  have il : i < (s.map Int.natAbs).length := (List.getElem?_eq_some_iff.mp a).1
  exact (List.getElem?_inj il n).mp (a.trans c.symm)

theorem isStack_valid {b : Bool} {s : List Int} (h : isStack b s = true) : Valid b s ∧ 1 ≤ s.length ∧ s.length ≤ (if b = true then 6 else 8) := by
  unfold isStack at h
  simp only [Bool.and_eq_true, decide_eq_true_eq, Bool.not_eq_true', beq_iff_eq, Bool.or_eq_true, List.all_eq_true] at h
  obtain ⟨h1, h2, h3, h4⟩ := h
  refine ⟨⟨?_, ?_⟩, ?_, h2⟩
  · have p := List.mergeSort_perm (s.map fun (x : Int) => (x.natAbs : Int)) (fun a b => decide (a ≤ b))
    rw [h3] at p
    have p2 := p.symm.map Int.natAbs
    rw [sorted, List.map_map, List.map_map] at p2
    have e1 : (Int.natAbs ∘ fun (x : Int) => (x.natAbs : Int)) = Int.natAbs := by funext x; simp
    have e2 : (Int.natAbs ∘ fun (i : Nat) => (i : Int) + 1) = (· + 1) := by funext x; simp; omega
    rw [e1, e2] at p2
    exact p2
  · cases h4 with
    | inl q => exact .inl q
    | inr q => exact .inr q
  · cases s with
    | nil => simp at h1
    | cons a l => simp
theorem sorted_get (n i : Nat) : (sorted n)[i]? = if i < n then some ((i : Int) + 1) else none := by
  rw [sorted, List.getElem?_map]
  by_cases h : i < n
  · rw [List.getElem?_range h, if_pos h]; rfl
  · rw [if_neg h, List.getElem?_eq_none (by simp; omega)]; rfl
theorem sorted_len (n : Nat) : (sorted n).length = n := by simp [sorted]
theorem sorted_pairwise (n : Nat) : (sorted n).Pairwise (· < ·) := by
  rw [sorted, List.pairwise_map]
  exact List.pairwise_lt_range.imp (by intro a b h; omega)
theorem valid_isStack {b : Bool} {s : List Int} (h : Valid b s) (h1 : 1 ≤ s.length) (h2 : s.length ≤ (if b = true then 6 else 8)) : isStack b s = true := by
  unfold isStack
  simp only [Bool.and_eq_true, decide_eq_true_eq, Bool.not_eq_true', beq_iff_eq, Bool.or_eq_true, List.all_eq_true]
  refine ⟨?_, h2, ?_, ?_⟩
  · cases s with
    | nil => simp at h1
    | cons a l => simp
  · have p := List.mergeSort_perm (s.map fun (x : Int) => (x.natAbs : Int)) (fun a b => decide (a ≤ b))
    have q := List.pairwise_mergeSort (le := fun (a b : Int) => decide (a ≤ b)) (by intro a b c; simp; omega) (by intro a b; simp; omega) (s.map fun (x : Int) => (x.natAbs : Int))
    have pp := h.perm.map (fun (n : Nat) => (n : Int))
    rw [List.map_map, List.map_map] at pp
    have e2 : ((fun (n : Nat) => (n : Int)) ∘ (· + 1)) = (fun (i : Nat) => (i : Int) + 1) := by funext x; simp
    rw [e2] at pp
    have p3 : ((s.map fun (x : Int) => (x.natAbs : Int)).mergeSort fun a b => decide (a ≤ b)).Perm (sorted s.length) := p.trans pp
    refine List.Perm.eq_of_pairwise (le := fun (a b : Int) => a ≤ b) (by intro a b _ _ h1 h2; omega) ?_ ?_ p3
    · exact q.imp (by intro a b; simp)
    · exact (sorted_pairwise _).imp (by intro a b; omega)
  · cases h.pos with
    | inl q => exact .inl q
    | inr q => exact .inr q
end Pan
namespace Pan
open Mu28

def g1 (b : Bool) (x y : Int) : Nat := if gap b x y = true then 1 else 0
theorem g1_le (b : Bool) (x y : Int) : g1 b x y ≤ 1 := by unfold g1; split <;> omega
theorem gapsOf_two (b : Bool) (x y : Int) (l : List Int) : gapsOf b (x :: y :: l) = g1 b x y + gapsOf b (y :: l) := rfl
theorem gapsOf_one (b : Bool) (x : Int) : gapsOf b [x] = 0 := rfl
theorem g1_turn (b : Bool) (x y : Int) : g1 b (sg b y) (sg b x) = g1 b x y := by
  cases b
  · simp only [g1, gap, sg, Bool.false_eq_true, if_false, bne_iff_ne, ne_eq]
    have : (y - x).natAbs = (x - y).natAbs := by omega
    rw [this]
  · simp only [g1, gap, sg, if_true, bne_iff_ne, ne_eq]
    have : (-x - -y) = y - x := by omega
    rw [this]
theorem gapsOf_mid (b : Bool) (x y : Int) (u : List Int) : ∀ t : List Int, gapsOf b (t ++ x :: y :: u) = gapsOf b (t ++ [x]) + g1 b x y + gapsOf b (y :: u)
  | [] => by simp [gapsOf_two, gapsOf_one]
  | [a] => by simp [gapsOf_two, gapsOf_one]; omega
  | a :: c :: t => by
    have ih := gapsOf_mid b x y u (c :: t)
    simp only [List.cons_append] at ih ⊢
    rw [gapsOf_two, gapsOf_two, ih]
    omega
theorem gapsOf_rev (b : Bool) : ∀ t : List Int, gapsOf b (t.reverse.map (sg b)) = gapsOf b t
  | [] => rfl
  | [x] => rfl
  | x :: y :: t => by
    have ih := gapsOf_rev b (y :: t)
    simp only [List.reverse_cons, List.map_append, List.map_cons, List.map_nil] at ih ⊢
    rw [List.append_assoc]
    show gapsOf b (_ ++ sg b y :: sg b x :: []) = _
    rw [gapsOf_mid, ih, gapsOf_two, g1_turn, gapsOf_one]
    omega
/-- the size below the top k (the plate under all) -/
def below (s : List Int) (k : Nat) : Int := s.getD k ((s.length : Int) + 1)
theorem plate_split (s : List Int) (k : Nat) (hk : k ≤ s.length) : s ++ [(s.length : Int) + 1] = s.take k ++ below s k :: (s ++ [(s.length : Int) + 1]).drop (k + 1) := by
  by_cases h : k < s.length
  · have e : below s k = s[k] := by simp [below, List.getD_eq_getElem?_getD, List.getElem?_eq_getElem h]
    have e2 : s = s.take k ++ s[k] :: s.drop (k + 1) := by
      rw [← List.drop_eq_getElem_cons h, List.take_append_drop]
    rw [e, List.drop_append_of_le_length (by omega)]
    generalize [(s.length : Int) + 1] = p
    have e3 : s ++ p = (s.take k ++ s[k] :: s.drop (k + 1)) ++ p := by rw [← e2]
    rw [e3, List.append_assoc]
    rfl
  · have hk' : k = s.length := by omega
    subst hk'
    have e : below s s.length = (s.length : Int) + 1 := by simp [below]
    rw [e, List.take_length, List.drop_eq_nil_of_le (by simp)]
/-- **what a flip does to the gaps** -/
theorem gaps_flip (b : Bool) {s : List Int} {k : Nat} (h1 : 1 ≤ k) (h2 : k ≤ s.length) {x z : Int} (hx : s[0]? = some x) (hz : s[k - 1]? = some z) :
    gaps b (flip b k s) + g1 b z (below s k) = gaps b s + g1 b (sg b x) (below s k) := by
  have e0 := plate_split s k h2
  generalize (s ++ [(s.length : Int) + 1]).drop (k + 1) = u at e0
  have eF : flip b k s ++ [((flip b k s).length : Int) + 1] = (s.take k).reverse.map (sg b) ++ below s k :: u := by
    rw [flip_len, flip_def, List.append_assoc]
    congr 1
    have : s.take k ++ (s.drop k ++ [(s.length : Int) + 1]) = s.take k ++ (below s k :: u) := by
      rw [← List.append_assoc, List.take_append_drop]; exact e0
    exact List.append_cancel_left this
  unfold gaps
  rw [eF, e0]
  generalize below s k = y
  -- the top part: x first, z last
  have hT : ∃ t, s.take k = t ++ [z] := by
    have : s.take k = s.take (k - 1) ++ [z] := by
      have q : k = k - 1 + 1 := by omega
      conv => lhs; rw [q]
      rw [List.take_add_one, hz]; rfl
    exact ⟨_, this⟩
  have hT2 : ∃ t, s.take k = x :: t := by
    cases s with
    | nil => simp at hx
    | cons a l =>
      simp at hx; subst hx
      obtain ⟨j, rfl⟩ : ∃ j, k = j + 1 := ⟨k - 1, by omega⟩
      exact ⟨_, List.take_succ_cons⟩
  obtain ⟨t, ht⟩ := hT
  obtain ⟨t2, ht2⟩ := hT2
  have r : gapsOf b ((s.take k).reverse.map (sg b)) = gapsOf b (s.take k) := gapsOf_rev b _
  have eL : (s.take k).reverse.map (sg b) = t2.reverse.map (sg b) ++ [sg b x] := by
    rw [ht2]; simp
  have eA : gapsOf b ((s.take k).reverse.map (sg b) ++ y :: u) = gapsOf b (s.take k) + g1 b (sg b x) y + gapsOf b (y :: u) := by
    rw [← r, eL, List.append_assoc]
    exact gapsOf_mid b (sg b x) y u _
  have eB : gapsOf b (s.take k ++ y :: u) = gapsOf b (s.take k) + g1 b z y + gapsOf b (y :: u) := by
    rw [ht, List.append_assoc]
    exact gapsOf_mid b z y u t
  rw [eA, eB]
  omega
theorem flip_zero (b : Bool) (s : List Int) : flip b 0 s = s := by simp [flip_def]
theorem flip_far (b : Bool) {k : Nat} {s : List Int} (h : s.length ≤ k) : flip b k s = flip b s.length s := by
  rw [flip_def, flip_def, List.take_of_length_le h, List.take_of_length_le (Nat.le_refl _), List.drop_eq_nil_of_le h, List.drop_eq_nil_of_le (Nat.le_refl _)]
/-- **a flip takes one gap away at the most** -/
theorem gaps_flip_le (b : Bool) (k : Nat) (s : List Int) : gaps b s ≤ gaps b (flip b k s) + 1 := by
  have main : ∀ k, 1 ≤ k → k ≤ s.length → gaps b s ≤ gaps b (flip b k s) + 1 := by
    intro k h1 h2
    have e := gaps_flip b h1 h2 (List.getElem?_eq_getElem (by omega)) (List.getElem?_eq_getElem (by omega))
    have := g1_le b s[k-1] (below s k)
    omega
  by_cases h0 : k = 0
  · subst h0; rw [flip_zero]; omega
  by_cases h : k ≤ s.length
  · exact main k (by omega) h
  · rw [flip_far b (by omega)]
    by_cases hn : s.length = 0
    · rw [hn, flip_zero]; omega
    · exact main _ (by omega) (Nat.le_refl _)
/-! ### no gap: sorted -/
theorem gapsOf_snoc (b : Bool) (t : List Int) (x y : Int) : gapsOf b (t ++ [x] ++ [y]) = gapsOf b (t ++ [x]) + g1 b x y := by
  rw [List.append_assoc]
  show gapsOf b (t ++ x :: y :: []) = _
  rw [gapsOf_mid, gapsOf_one]; rfl
theorem none_burnt : ∀ (n : Nat) (s : List Int) (m : Int), s.length = n → gapsOf true (s ++ [m]) = 0 → ∀ (i : Nat) (x : Int), s[i]? = some x → x = m - n + i
  | 0, s, m, hn, _, i, x, hx => by
    have : s = [] := List.length_eq_zero_iff.mp hn
    subst this; simp at hx
  | n + 1, s, m, hn, h, i, x, hx => by
    have hs : s ≠ [] := by intro e; subst e; simp at hn
    have e := List.dropLast_concat_getLast hs
    generalize s.getLast hs = y at e
    generalize s.dropLast = t at e
    subst e
    rw [gapsOf_snoc] at h
    have hy : g1 true y m = 0 := by omega
    have hy2 : y = m - 1 := by
      simp [g1, gap] at hy; omega
    have ht : t.length = n := by simp at hn; omega
    by_cases hi : i < t.length
    · rw [List.getElem?_append_left hi] at hx
      have := none_burnt n t y ht (by omega) i x hx
      omega
    · have : i = n := by
        have := (List.getElem?_eq_some_iff.mp hx).1
        simp at this; omega
      subst this
      rw [List.getElem?_append_right (by omega), ht] at hx
      simp at hx
      omega
theorem none_plain : ∀ (n : Nat) (s : List Int) (m : Int), s.length = n → gapsOf false (s ++ [m]) = 0 → s.Nodup → (∀ x ∈ s, x < m) → ∀ (i : Nat) (x : Int), s[i]? = some x → x = m - n + i
  | 0, s, m, hn, _, _, _, i, x, hx => by
    have : s = [] := List.length_eq_zero_iff.mp hn
    subst this; simp at hx
  | n + 1, s, m, hn, h, hd, hl, i, x, hx => by
    have hs : s ≠ [] := by intro e; subst e; simp at hn
    have e := List.dropLast_concat_getLast hs
    generalize s.getLast hs = y at e
    generalize s.dropLast = t at e
    subst e
    rw [gapsOf_snoc] at h
    have hy : g1 false y m = 0 := by omega
    have hym : y < m := hl y (by simp)
    have hy2 : y = m - 1 := by
      simp [g1, gap] at hy; omega
    have ht : t.length = n := by simp at hn; omega
    rw [List.nodup_append] at hd
    obtain ⟨hd1, _, hd2⟩ := hd
    by_cases hi : i < t.length
    · rw [List.getElem?_append_left hi] at hx
      have := none_plain n t y ht (by omega) hd1 (by
        intro z hz
        have a := hl z (by simp [hz])
        have c := hd2 z hz y (by simp)
        omega) i x hx
      omega
    · have : i = n := by
        have := (List.getElem?_eq_some_iff.mp hx).1
        simp at this; omega
      subst this
      rw [List.getElem?_append_right (by omega), ht] at hx
      simp at hx
      omega
theorem Valid.nodup' {b : Bool} {s : List Int} (h : Valid b s) : s.Nodup := by
  rw [List.nodup_iff_pairwise_ne]
  have := List.nodup_iff_pairwise_ne.mp h.nodup
  rw [List.pairwise_map] at this
  exact this.imp (by intro a b h e; subst e; exact h rfl)
theorem sorted_of_gaps {b : Bool} {s : List Int} (v : Valid b s) (h : gaps b s = 0) : s = sorted s.length := by
  have key : ∀ (i : Nat) (x : Int), s[i]? = some x → x = (i : Int) + 1 := by
    intro i x hx
    cases b with
    | true =>
      have := none_burnt s.length s ((s.length : Int) + 1) rfl h i x hx
      omega
    | false =>
      have := none_plain s.length s ((s.length : Int) + 1) rfl h v.nodup' (by
        intro x hx
        have := v.mem hx
        omega) i x hx
      omega
  refine List.ext_getElem? fun i => ?_
  rw [sorted_get]
  by_cases hi : i < s.length
  · rw [if_pos hi, List.getElem?_eq_getElem hi]
    rw [key i s[i] (List.getElem?_eq_getElem hi)]
  · rw [if_neg hi, List.getElem?_eq_none (by omega)]
theorem sorted_succ (n : Nat) : sorted (n + 1) = sorted n ++ [(n : Int) + 1] := by
  simp [sorted, List.range_succ]
theorem gapsOf_sorted (b : Bool) : ∀ n, gapsOf b (sorted n) = 0
  | 0 => rfl
  | 1 => rfl
  | n + 2 => by
    have ih := gapsOf_sorted b (n + 1)
    rw [sorted_succ, sorted_succ]
    rw [gapsOf_snoc, ← sorted_succ, ih]
    cases b <;> simp [g1, gap] <;> omega
theorem gaps_sorted (b : Bool) (n : Nat) : gaps b (sorted n) = 0 := by
  unfold gaps
  rw [sorted_len, ← sorted_succ]
  exact gapsOf_sorted b (n + 1)
theorem gaps_zero_iff {b : Bool} {s : List Int} (v : Valid b s) : gaps b s = 0 ↔ s = sorted s.length :=
  ⟨sorted_of_gaps v, fun h => by rw [h]; exact gaps_sorted b _⟩
theorem sorted_valid (b : Bool) (n : Nat) : Valid b (sorted n) := by
  refine ⟨?_, .inr ?_⟩
  · rw [sorted_len, sorted, List.map_map]
    have e2 : (Int.natAbs ∘ fun (i : Nat) => (i : Int) + 1) = (· + 1) := by funext x; simp; omega
    rw [e2]
  · intro x hx
    simp [sorted] at hx
    obtain ⟨a, _, rfl⟩ := hx
    omega
end Pan
namespace Pan
open Mu28

theorem search_zero (b : Bool) (s : List Int) : search b 0 s = if s = sorted s.length then some [] else none := rfl
theorem search_succ (b : Bool) (m : Nat) (s : List Int) : search b (m + 1) s = if m + 1 < gaps b s then none else (ways b s.length).findSome? fun (k : Nat) => (search b m (flip b k s)).map fun (l : List Nat) => k :: l := rfl
theorem ways_mem {b : Bool} {n k : Nat} : k ∈ ways b n ↔ k ≤ n ∧ (if b = true then 1 else 2) ≤ k := by
  simp [ways]; omega
theorem search_gaps {b : Bool} : ∀ {m : Nat} {s l : List _}, search b m s = some l → gaps b s ≤ m
  | 0, s, l, h => by
    rw [search_zero] at h
    by_cases e : s = sorted s.length
    · rw [e, gaps_sorted]; omega
    · rw [if_neg e] at h; cases h
  | m + 1, s, l, h => by
    rw [search_succ] at h
    by_cases e : m + 1 < gaps b s
    · rw [if_pos e] at h; cases h
    · omega
/-- a row that sorts, of flips that do anything: the search of just its length finds one -/
theorem search_row {b : Bool} : ∀ {l : List Nat} {s : List Int}, (∀ k ∈ l, k ∈ ways b s.length) → flips b l s = sorted s.length → ∃ r, search b l.length s = some r
  | [], s, _, h => ⟨[], by
    have h' : s = sorted s.length := h
    rw [List.length_nil, search_zero, if_pos h']⟩
  | k :: l, s, hw, h => by
    have h2 : flips b l (flip b k s) = sorted (flip b k s).length := by rw [flip_len]; exact h
    obtain ⟨r, hr⟩ := search_row (l := l) (s := flip b k s) (by
      intro j hj
      rw [flip_len]
      exact hw j (List.mem_cons_of_mem _ hj)) h2
    have g := search_gaps hr
    have g2 := gaps_flip_le b k s
    rw [List.length_cons, search_succ, if_neg (by omega)]
    cases e : (ways b s.length).findSome? fun (k : Nat) => (search b l.length (flip b k s)).map fun (l : List Nat) => k :: l with
    | some r => exact ⟨r, rfl⟩
    | none =>
      rw [List.findSome?_eq_none_iff] at e
      have := e k (hw k List.mem_cons_self)
      rw [hr] at this
      cases this
/-- what the search finds sorts, and is of just that length -/
theorem search_sound {b : Bool} : ∀ {m : Nat} {s : List Int} {l : List Nat}, search b m s = some l → l.length = m ∧ (∀ k ∈ l, k ∈ ways b s.length) ∧ flips b l s = sorted s.length
  | 0, s, l, h => by
    rw [search_zero] at h
    by_cases e : s = sorted s.length
    · rw [if_pos e] at h
      cases h
      exact ⟨rfl, by simp, e⟩
    · rw [if_neg e] at h; cases h
  | m + 1, s, l, h => by
    rw [search_succ] at h
    by_cases e : m + 1 < gaps b s
    · rw [if_pos e] at h; cases h
    · rw [if_neg e] at h
      obtain ⟨k, hk, h2⟩ := List.exists_of_findSome?_eq_some h
      rw [Option.map_eq_some_iff] at h2
      obtain ⟨r, hr, rfl⟩ := h2
      obtain ⟨a, c, d⟩ := search_sound hr
      rw [flip_len] at c d
      refine ⟨by simp [a], ?_, d⟩
      intro j hj
      cases hj with
      | head => exact hk
      | tail _ hj => exact c j hj
/-! ### a row that sorts is there -/
/-- the bottom from place v on lies right -/
def Right (v : Nat) (s : List Int) : Prop := ∀ i : Nat, v ≤ i → i < s.length → s[i]? = some ((i : Int) + 1)
theorem right_zero {s : List Int} (h : Right 0 s) : s = sorted s.length := by
  refine List.ext_getElem? fun i => ?_
  rw [sorted_get]
  by_cases hi : i < s.length
  · rw [if_pos hi]; exact h i (by omega) hi
  · rw [if_neg hi, List.getElem?_eq_none (by omega)]
theorem Right.flip {b : Bool} {v k : Nat} {s : List Int} (h : Right v s) (hk : k ≤ v) (hv : k ≤ s.length) : Right v (flip b k s) := by
  intro i h1 h2
  rw [flip_len] at h2
  rw [flip_get b hv, if_neg (by omega)]
  exact h i h1 h2
theorem row_step {b : Bool} {s : List Int} (V : Valid b s) {v : Nat} (hv : v < s.length) (R : Right (v + 1) s) (hn : s[v]? ≠ some ((v : Int) + 1)) :
    ∃ l : List Nat, l.length ≤ (if b = true then 3 else 2) ∧ (∀ k ∈ l, k ∈ ways b s.length) ∧ Right v (flips b l s) := by
  obtain ⟨p, hp, x, hx, ex⟩ := V.has (v := v + 1) (by omega) (by omega)
  have hpv : p ≤ v := by
    apply Nat.le_of_not_lt
    intro c
    have a := R p (by omega) hp
    rw [a] at hx
    have := Option.some.inj hx
    omega
  -- plain: the least size is never wrong alone
  have hv2 : b = false → 1 ≤ v := by
    intro hb
    apply Nat.le_of_not_lt
    intro c
    have v0 : v = 0 := by omega
    have p0 : p = 0 := by omega
    subst v0 p0
    apply hn
    rw [hx]
    cases V.pos with
    | inl q => rw [hb] at q; cases q
    | inr q =>
      have := q x (List.mem_of_getElem? hx)
      congr 1
      omega
  have inW : ∀ k : Nat, 1 ≤ k → (b = false → 2 ≤ k) → k ≤ s.length → k ∈ ways b s.length := by
    intro k h1 h2 h3
    rw [ways_mem]
    refine ⟨h3, ?_⟩
    cases b
    · simpa using h2 rfl
    · simpa using h1
  -- first: to the top
  have A : ∃ u : List Nat, u.length ≤ 1 ∧ (∀ k ∈ u, k ∈ ways b s.length) ∧ Right (v + 1) (flips b u s) ∧ ∃ y, (flips b u s)[0]? = some y ∧ y.natAbs = v + 1 := by
    by_cases h0 : p = 0
    · subst h0
      exact ⟨[], by simp, by simp, R, x, hx, ex⟩
    · refine ⟨[p + 1], by simp, ?_, R.flip (by omega) (by omega), sg b x, ?_, by rw [sg_abs]; exact ex⟩
      · intro k hk
        rw [List.mem_singleton] at hk
        subst hk
        exact inW _ (by omega) (by omega) (by omega)
      · show (flip b (p + 1) s)[0]? = _
        rw [flip_get b (by omega), if_pos (by omega)]
        have : p + 1 - 1 - 0 = p := by omega
        rw [this, hx]; rfl
  obtain ⟨u, hu1, hu2, hu3, y, hy, ey⟩ := A
  have tl : (flips b u s).length = s.length := flips_len b u s
  have Vt : Valid b (flips b u s) := V.flips u
  -- then: its burnt side up
  have B : ∃ w : List Nat, w.length ≤ (if b = true then 1 else 0) ∧ (∀ k ∈ w, k ∈ ways b s.length) ∧ Right (v + 1) (flips b w (flips b u s)) ∧ (flips b w (flips b u s))[0]? = some (sg b ((v : Int) + 1)) := by
    cases hb : b with
    | false =>
      subst hb
      refine ⟨[], by simp, by simp, hu3, ?_⟩
      show (flips false u s)[0]? = _
      rw [hy]
      have : 0 < y := by
        cases Vt.pos with
        | inl q => cases q
        | inr q => exact q y (List.mem_of_getElem? hy)
      congr 1
      simp [sg]; omega
    | true =>
      subst hb
      by_cases hpos : 0 < y
      · refine ⟨[1], by simp, ?_, hu3.flip (by omega) (by omega), ?_⟩
        · intro k hk
          rw [List.mem_singleton] at hk
          subst hk
          exact inW _ (by omega) (by intro h; cases h) (by omega)
        · show (flip true 1 (flips true u s))[0]? = _
          rw [flip_get true (by omega), if_pos (by omega)]
          show ((flips true u s)[0]?).map _ = _
          rw [hy]
          show some (sg true y) = _
          congr 1
          simp [sg]; omega
      · refine ⟨[], by simp, by simp, hu3, ?_⟩
        show (flips true u s)[0]? = _
        rw [hy]
        congr 1
        simp [sg]; omega
  obtain ⟨w, hw1, hw2, hw3, hw4⟩ := B
  have tl2 : (flips b w (flips b u s)).length = s.length := by rw [flips_len, tl]
  refine ⟨u ++ (w ++ [v + 1]), ?_, ?_, ?_⟩
  · rw [List.length_append, List.length_append, List.length_singleton]
    cases b
    · have hw1' : w.length ≤ 0 := hw1
      show _ ≤ 2
      omega
    · have hw1' : w.length ≤ 1 := hw1
      show _ ≤ 3
      omega
  · intro k hk
    simp at hk
    rcases hk with h | h | h
    · exact hu2 k h
    · exact hw2 k h
    · subst h
      exact inW _ (by omega) (by intro h; have := hv2 h; omega) (by omega)
  · rw [flips_append, flips_append]
    show Right v (flip b (v + 1) (flips b w (flips b u s)))
    intro i h1 h2
    rw [flip_len] at h2
    by_cases hi : i = v
    · subst hi
      rw [flip_get b (by omega), if_pos (by omega)]
      have : i + 1 - 1 - i = 0 := by omega
      rw [this, hw4]
      show some (sg b (sg b _)) = _
      rw [sg_sg]
    · rw [flip_get b (by omega), if_neg (by omega)]
      exact hw3 i (by omega) h2
theorem row_there {b : Bool} : ∀ (v : Nat) {s : List Int}, Valid b s → v ≤ s.length → Right v s →
    ∃ l : List Nat, l.length ≤ (if b = true then 3 else 2) * v ∧ (∀ k ∈ l, k ∈ ways b s.length) ∧ flips b l s = sorted s.length
  | 0, s, _, _, R => ⟨[], by simp, by simp, right_zero R⟩
  | v + 1, s, V, h, R => by
    by_cases c : s[v]? = some ((v : Int) + 1)
    · obtain ⟨l, h1, h2, h3⟩ := row_there v V (by omega) (s := s) (by
        intro i a e
        by_cases hi : i = v
        · rw [hi]; exact c
        · exact R i (by omega) e)
      refine ⟨l, Nat.le_trans h1 (Nat.mul_le_mul_left _ (by omega)), h2, h3⟩
    · obtain ⟨u, h1, h2, h3⟩ := row_step V (by omega) R c
      have tl := flips_len b u s
      obtain ⟨l, g1, g2, g3⟩ := row_there v (V.flips u) (by omega) h3
      rw [tl] at g2 g3
      refine ⟨u ++ l, ?_, ?_, by rw [flips_append]; exact g3⟩
      · rw [List.length_append, Nat.mul_succ]; omega
      · intro k hk
        cases List.mem_append.mp hk with
        | inl q => exact h2 k q
        | inr q => exact g2 k q
/-- **a search of at most 20 finds a row** -/
theorem search_there {b : Bool} {s : List Int} (V : Valid b s) (h : s.length ≤ (if b = true then 6 else 8)) : ∃ m r, m ≤ 18 ∧ search b m s = some r := by
  obtain ⟨l, h1, h2, h3⟩ := row_there s.length V (Nat.le_refl _) (by intro i a c; omega)
  obtain ⟨r, hr⟩ := search_row h2 h3
  refine ⟨l.length, r, ?_, hr⟩
  cases b <;> simp at h h1 <;> omega
/-! ### the first search that finds -/
theorem fewestFrom_at {b : Bool} {s : List Int} {l : List Nat} : ∀ (f i m : Nat), i ≤ m → m < i + f → (∀ j, i ≤ j → j < m → search b j s = none) → search b m s = some l → fewestFrom b s f i = some l
  | 0, i, m, h1, h2, _, _ => by omega
  | f + 1, i, m, h1, h2, h3, h4 => by
    unfold fewestFrom
    by_cases e : i = m
    · subst e; rw [h4]
    · rw [h3 i (Nat.le_refl _) (by omega)]
      exact fewestFrom_at f (i + 1) m (by omega) (by omega) (fun j a c => h3 j (by omega) c) h4
/-- the least number of flips, and the row -/
structure Least (b : Bool) (s : List Int) (m : Nat) (l : List Nat) : Prop where
  small : m ≤ 18
  none : ∀ j, j < m → search b j s = none
  some : search b m s = some l
theorem least_of {b : Bool} {s : List Int} : ∀ (m : Nat), (∃ r, search b m s = some r) → ∃ m', m' ≤ m ∧ (∀ j, j < m' → search b j s = none) ∧ ∃ r, search b m' s = some r := by
  intro m
  induction m using Nat.strongRecOn with
  | _ m ih =>
    intro h
    by_cases c : ∃ j, j < m ∧ ∃ r, search b j s = some r
    · obtain ⟨j, hj, hr⟩ := c
      obtain ⟨m', a, d, e⟩ := ih j hj hr
      exact ⟨m', by omega, d, e⟩
    · refine ⟨m, Nat.le_refl _, ?_, h⟩
      intro j hj
      cases e : search b j s with
      | none => rfl
      | some r => exact absurd ⟨j, hj, r, e⟩ c
theorem least {b : Bool} {s : List Int} (V : Valid b s) (h : s.length ≤ (if b = true then 6 else 8)) : ∃ m l, Least b s m l := by
  obtain ⟨m, r, hm, hr⟩ := search_there V h
  obtain ⟨m', a, c, l, hl⟩ := least_of m ⟨r, hr⟩
  exact ⟨m', l, by omega, c, hl⟩
theorem Least.fewest {b : Bool} {s : List Int} {m : Nat} {l : List Nat} (L : Least b s m l) : fewest b s = Option.some l :=
  fewestFrom_at 21 0 m (by omega) (by have := L.small; omega) (fun j _ h => L.none j h) L.some
theorem Least.len {b : Bool} {s : List Int} {m : Nat} {l : List Nat} (L : Least b s m l) : l.length = m := (search_sound L.some).1
theorem Least.needs {b : Bool} {s : List Int} {m : Nat} {l : List Nat} (L : Least b s m l) : needs b s = m := by
  unfold Mu28.needs
  rw [L.fewest]
  exact L.len
/-! ### the program's own search: no row of gaps more than are left -/
def rw1 (b : Bool) : Nat → List Int → Option (List Nat)
  | 0, s => if gaps b s = 0 then some [] else none
  | m + 1, s => if gaps b s = 0 then some [] else (ways b s.length).findSome? fun (k : Nat) => if gaps b (flip b k s) < m + 1 then (rw1 b m (flip b k s)).map fun (l : List Nat) => k :: l else none
theorem findSome_congr {α β : Type} {f g : α → Option β} : ∀ (l : List α), (∀ x ∈ l, f x = g x) → l.findSome? f = l.findSome? g
  | [], _ => rfl
  | a :: l, h => by
    rw [List.findSome?_cons, List.findSome?_cons, h a List.mem_cons_self, findSome_congr l fun x hx => h x (List.mem_cons_of_mem _ hx)]
theorem rw1_eq {b : Bool} : ∀ (m : Nat) {s : List Int}, Valid b s → (∀ j, j < m → search b j s = none) → rw1 b m s = search b m s
  | 0, s, V, _ => by
    rw [search_zero]
    unfold rw1
    by_cases e : gaps b s = 0
    · rw [if_pos e, if_pos ((gaps_zero_iff V).mp e)]
    · rw [if_neg e, if_neg (fun c => e ((gaps_zero_iff V).mpr c))]
  | m + 1, s, V, h => by
    have g0 : gaps b s ≠ 0 := by
      intro c
      have := h 0 (by omega)
      rw [search_zero, if_pos ((gaps_zero_iff V).mp c)] at this
      cases this
    unfold rw1
    rw [if_neg g0, search_succ]
    by_cases c : m + 1 < gaps b s
    · rw [if_pos c, List.findSome?_eq_none_iff]
      intro k _
      have := gaps_flip_le b k s
      rw [if_neg (by omega)]
    · rw [if_neg c]
      refine findSome_congr _ fun k hk => ?_
      by_cases d : gaps b (flip b k s) < m + 1
      · rw [if_pos d]
        rw [rw1_eq m (V.flip k)]
        intro j hj
        cases e : search b j (flip b k s) with
        | none => rfl
        | some r =>
          have g := search_gaps e
          have g2 := gaps_flip_le b k s
          have := h (j + 1) (by omega)
          rw [search_succ, if_neg (by omega), List.findSome?_eq_none_iff] at this
          have := this k hk
          rw [e] at this
          cases this
      · rw [if_neg d]
        cases e : search b m (flip b k s) with
        | none => rfl
        | some r =>
          have := search_gaps e
          omega
/-- the program's loop over the lengths, from the gaps upward, ends at the least -/
theorem Least.rw1_none {b : Bool} {s : List Int} {m : Nat} {l : List Nat} (L : Least b s m l) (V : Valid b s) {j : Nat} (h : j < m) : rw1 b j s = Option.none := by
  rw [rw1_eq j V fun i hi => L.none i (by omega)]
  exact L.none j h
theorem Least.rw1_some {b : Bool} {s : List Int} {m : Nat} {l : List Nat} (L : Least b s m l) (V : Valid b s) : rw1 b m s = Option.some l := by
  rw [rw1_eq m V L.none]
  exact L.some
theorem Least.gaps_le {b : Bool} {s : List Int} {m : Nat} {l : List Nat} (L : Least b s m l) : gaps b s ≤ m := search_gaps L.some
end Pan
namespace Pan
open Mu28
/-! ### the usual way, size by size -/
def toPlace (b : Bool) (size : Nat) (s : List Int) : List Nat :=
  if s[size - 1]? = some (size : Int) then [] else
    let u := if placeOf size s = 1 then [] else [placeOf size s]
    u ++ ((if b = true ∧ 0 < (flips b u s).getD 0 0 then [1] else []) ++ [size])
theorem place_of {b : Bool} {s : List Int} (V : Valid b s) {v : Nat} (h1 : 1 ≤ v) (h2 : v ≤ s.length) :
    ∃ j x, placeOf v s = j + 1 ∧ j < s.length ∧ s[j]? = some x ∧ x.natAbs = v ∧ ∀ (m : Nat) (z : Int), m < j → s[m]? = some z → z.natAbs ≠ v := by
  obtain ⟨i, hi, x, hx, ex⟩ := V.has h1 h2
  have hlt : s.findIdx (fun (x : Int) => x.natAbs == v) < s.length := by
    apply List.findIdx_lt_length_of_exists
    exact ⟨x, List.mem_of_getElem? hx, by simp [ex]⟩
  refine ⟨_, s[s.findIdx (fun (x : Int) => x.natAbs == v)], rfl, hlt, List.getElem?_eq_getElem hlt, ?_, ?_⟩
  · have := List.findIdx_getElem (w := hlt)
    simpa using this
  · intro m z hm hz e
    have hml : m < s.length := by omega
    have := List.not_of_lt_findIdx hm
    rw [List.getElem?_eq_getElem hml] at hz
    cases hz
    simp [e] at this
theorem right_iff {b : Bool} {s : List Int} (V : Valid b s) {v : Nat} (h : v < s.length) : (placeOf (v + 1) s == v + 1 && (!b || decide (0 < s.getD v 0))) = true ↔ s[v]? = some ((v : Int) + 1) := by
  obtain ⟨j, x, e1, e2, e3, e4, e5⟩ := place_of V (v := v + 1) (by omega) (by omega)
  rw [e1]
  simp only [Bool.and_eq_true, beq_iff_eq, Bool.or_eq_true, Bool.not_eq_true', decide_eq_true_eq]
  constructor
  · rintro ⟨a, c⟩
    have ej : j = v := by omega
    subst ej
    rw [e3]
    congr 1
    cases c with
    | inl c =>
      cases V.pos with
      | inl q => rw [c] at q; cases q
      | inr q =>
        have := q x (List.mem_of_getElem? e3)
        omega
    | inr c =>
      rw [List.getD_eq_getElem?_getD, e3] at c
      have c' : 0 < x := c
      omega
  · intro a
    have ej : j = v := V.inj e3 a (by omega)
    subst ej
    refine ⟨rfl, .inr ?_⟩
    rw [List.getD_eq_getElem?_getD, a]
    show (0 : Int) < (j : Int) + 1
    omega
theorem usual_succ {b : Bool} {s : List Int} (V : Valid b s) {v : Nat} (h : v < s.length) : usual b (v + 1) s = toPlace b (v + 1) s ++ usual b v (flips b (toPlace b (v + 1) s) s) := by
  have e := right_iff V h
  unfold toPlace
  have e0 : v + 1 - 1 = v := rfl
  have e1 : ((v + 1 : Nat) : Int) = (v : Int) + 1 := by omega
  rw [e0, e1]
  rw [usual]
  by_cases c : s[v]? = some ((v : Int) + 1)
  · rw [if_pos c]
    have := e.mpr c
    simp only [this]
    rfl
  · rw [if_neg c]
    have c' : ¬ (placeOf (v + 1) s == v + 1 && (!b || decide (0 < s.getD v 0))) = true := fun z => c (e.mp z)
    simp only [c']
    rfl
theorem mem_else {p : Prop} [Decidable p] {a k : Nat} (h : k ∈ if p then [] else [a]) : k = a := by
  by_cases c : p
  · rw [if_pos c] at h; cases h
  · rw [if_neg c] at h; exact List.mem_singleton.mp h
theorem mem_then {p : Prop} [Decidable p] {a k : Nat} (h : k ∈ if p then [a] else []) : k = a := by
  by_cases c : p
  · rw [if_pos c] at h; exact List.mem_singleton.mp h
  · rw [if_neg c] at h; cases h
theorem toPlace_len (b : Bool) (v : Nat) (s : List Int) : (toPlace b v s).length ≤ 3 := by
  unfold toPlace
  split
  · simp
  · simp only [List.length_append, List.length_singleton]
    split <;> split <;> simp
theorem toPlace_le {b : Bool} {s : List Int} (V : Valid b s) {v : Nat} (h1 : 1 ≤ v) (h2 : v ≤ s.length) : ∀ k ∈ toPlace b v s, k ≤ s.length := by
  intro k hk
  obtain ⟨j, x, e1, e2, e3, e4, e5⟩ := place_of V h1 h2
  unfold toPlace at hk
  split at hk
  · simp at hk
  · simp only [List.mem_append, List.mem_singleton] at hk
    rcases hk with hk | hk | hk
    · have := mem_else hk
      omega
    · have := mem_then hk
      omega
    · omega
end Pan
namespace Pan
open Mu28
/-! ### all stacks of n are stacks of n -/
theorem stacksOf_perm (b : Bool) : ∀ (k : Nat) (l : List Int), l.length = k → (∀ x ∈ l, 0 < x) → l.Nodup → ∀ s ∈ stacksOf b k l, (s.map Int.natAbs).Perm (l.map Int.natAbs) ∧ (b = true ∨ ∀ x ∈ s, 0 < x)
  | 0, l, hl, _, _, s, hs => by
    have : l = [] := List.length_eq_zero_iff.mp hl
    subst this
    simp only [stacksOf, List.mem_singleton] at hs
    subst hs
    exact ⟨List.Perm.refl _, .inr (by simp)⟩
  | k + 1, l, hl, hp, hd, s, hs => by
    unfold stacksOf at hs
    rw [List.mem_flatMap] at hs
    obtain ⟨x, hx, hs⟩ := hs
    rw [List.mem_flatMap] at hs
    obtain ⟨y, hy, hs⟩ := hs
    rw [List.mem_map] at hs
    obtain ⟨r, hr, rfl⟩ := hs
    have ih := stacksOf_perm b k (l.erase x) (by rw [List.length_erase_of_mem hx]; omega) (fun z hz => hp z (List.mem_of_mem_erase hz)) (hd.erase x) r hr
    have ya : y.natAbs = x.natAbs := by
      cases b
      · simp at hy; rw [hy]
      · simp at hy
        rcases hy with h | h <;> subst h <;> simp
    refine ⟨?_, ?_⟩
    · rw [List.map_cons, ya]
      have e : (x :: l.erase x).Perm l := (List.perm_cons_erase hx).symm
      have e2 := e.map Int.natAbs
      rw [List.map_cons] at e2
      exact (ih.1.cons _).trans e2
    · cases b
      · refine .inr fun z hz => ?_
        simp at hy
        subst hy
        cases List.mem_cons.mp hz with
        | inl h => rw [h]; exact hp _ hx
        | inr h =>
          cases ih.2 with
          | inl q => cases q
          | inr q => exact q z h
      · exact .inl rfl
theorem all_valid {b : Bool} {n : Nat} {s : List Int} (h : s ∈ all b n) : Valid b s ∧ s.length = n := by
  have := stacksOf_perm b n (sorted n) (sorted_len n) (by
    intro x hx
    simp [sorted] at hx
    obtain ⟨a, _, rfl⟩ := hx
    omega) ((sorted_valid false n).nodup') s h
  have e2 : (sorted n).map Int.natAbs = (List.range n).map (· + 1) := by
    have := (sorted_valid false n).perm
    rw [sorted, List.map_map]
    refine List.map_congr_left fun i _ => ?_
    simp; omega
  rw [e2] at this
  have hl : s.length = n := by
    have := this.1.length_eq
    simpa using this
  refine ⟨⟨?_, this.2⟩, hl⟩
  rw [hl]
  exact this.1
/-- sizes of which tally and worst speak -/
def few (b : Bool) : Nat := if b = true then 3 else 5
theorem few_le (b : Bool) : few b ≤ if b = true then 6 else 8 := by cases b <;> decide
theorem needs_least {b : Bool} {n : Nat} (hn : n ≤ few b) {s : List Int} (h : s ∈ all b n) : ∃ m l, Least b s m l ∧ needs b s = m := by
  obtain ⟨V, e⟩ := all_valid h
  obtain ⟨m, l, L⟩ := least V (by rw [e]; exact Nat.le_trans hn (few_le b))
  exact ⟨m, l, L, L.needs⟩
theorem needs_le {b : Bool} {n : Nat} (hn : n ≤ few b) {s : List Int} (h : s ∈ all b n) : needs b s ≤ 18 := by
  obtain ⟨m, l, L, e⟩ := needs_least hn h
  rw [e]
  exact L.small
/-- the most of some numbers -/
theorem foldl_max (l : List Nat) (a : Nat) : a ≤ l.foldl max a ∧ (∀ x ∈ l, x ≤ l.foldl max a) ∧ (l.foldl max a = a ∨ l.foldl max a ∈ l) := by
  induction l generalizing a with
  | nil => simp
  | cons x l ih =>
    obtain ⟨h1, h2, h3⟩ := ih (max a x)
    rw [List.foldl_cons]
    refine ⟨by omega, ?_, ?_⟩
    · intro y hy
      cases List.mem_cons.mp hy with
      | inl h => subst h; omega
      | inr h => exact h2 y h
    · rcases h3 with h | h
      · rw [h]
        by_cases c : x ≤ a
        · left; omega
        · right
          have : max a x = x := by omega
          rw [this]; exact List.mem_cons_self
      · right; exact List.mem_cons_of_mem _ h
/-- the most that one of them needs -/
def mostNeed (b : Bool) (n : Nat) : Nat := ((all b n).map (needs b)).foldl max 0
theorem mostNeed_le {b : Bool} {n : Nat} (hn : n ≤ few b) : mostNeed b n ≤ 18 := by
  unfold mostNeed
  obtain ⟨_, _, h⟩ := foldl_max ((all b n).map (needs b)) 0
  rcases h with h | h
  · omega
  · obtain ⟨s, hs, e⟩ := List.mem_map.mp h
    rw [← e]
    exact needs_le hn hs
theorem le_mostNeed {b : Bool} {n : Nat} {s : List Int} (h : s ∈ all b n) : needs b s ≤ mostNeed b n :=
  (foldl_max ((all b n).map (needs b)) 0).2.1 _ (List.mem_map_of_mem h)
theorem tally_is (b : Bool) (n : Nat) : tally b n = (List.range (mostNeed b n + 1)).map fun k => (((all b n).map (needs b)).filter fun x => x == k).length := rfl
theorem tally_len (b : Bool) (n : Nat) : (tally b n).length = mostNeed b n + 1 := by
  rw [tally_is]; simp
theorem sorted_mem_stacksOf (b : Bool) : ∀ (k : Nat) (l : List Int), l.length = k → l ∈ stacksOf b k l
  | 0, l, hl => by
    have : l = [] := List.length_eq_zero_iff.mp hl
    subst this
    simp [stacksOf]
  | k + 1, [], hl => by simp at hl
  | k + 1, x :: l, hl => by
    unfold stacksOf
    rw [List.mem_flatMap]
    refine ⟨x, List.mem_cons_self, ?_⟩
    rw [List.mem_flatMap]
    refine ⟨x, by cases b <;> simp, ?_⟩
    rw [List.mem_map]
    refine ⟨l, ?_, rfl⟩
    have : (x :: l).erase x = l := by simp
    rw [this]
    exact sorted_mem_stacksOf b k l (by simpa using hl)
theorem all_some (b : Bool) (n : Nat) : ∃ s, s ∈ all b n := ⟨_, sorted_mem_stacksOf b n _ (sorted_len n)⟩
/-- one of them needs the most -/
theorem mostNeed_mem (b : Bool) (n : Nat) : ∃ s ∈ all b n, needs b s = mostNeed b n := by
  obtain ⟨_, _, h⟩ := foldl_max ((all b n).map (needs b)) 0
  rcases h with h | h
  · obtain ⟨s, hs⟩ := all_some b n
    refine ⟨s, hs, ?_⟩
    have a := le_mostNeed hs
    have : mostNeed b n = 0 := h
    omega
  · obtain ⟨s, hs, e⟩ := List.mem_map.mp h
    exact ⟨s, hs, e⟩
/-- the first of them that needs the most -/
theorem worst_there (b : Bool) (n : Nat) : ∃ s, ((all b n).find? fun s => needs b s == (tally b n).length - 1) = some s ∧ s ∈ all b n ∧ needs b s = mostNeed b n := by
  obtain ⟨s, hs, e⟩ := mostNeed_mem b n
  have hl : (tally b n).length - 1 = mostNeed b n := by rw [tally_len]; omega
  rw [hl]
  cases h : (all b n).find? fun s => needs b s == mostNeed b n with
  | none =>
    rw [List.find?_eq_none] at h
    have := h s hs
    simp [e] at this
  | some t =>
    exact ⟨t, rfl, List.mem_of_find?_eq_some h, by simpa using List.find?_some h⟩
end Pan
namespace Pan
open Mu28
/-! ### what stands stays a stack; no answer is long -/
theorem usual_len {b : Bool} : ∀ (v : Nat) {s : List Int}, Valid b s → v ≤ s.length → (usual b v s).length ≤ 3 * v
  | 0, _, _, _ => by simp [usual]
  | v + 1, s, V, h => by
    rw [usual_succ V (by omega), List.length_append]
    have a := toPlace_len b (v + 1) s
    have c := usual_len v (V.flips (toPlace b (v + 1) s)) (by rw [flips_len]; omega)
    omega
def most (b : Bool) : Nat := if b = true then 6 else 8
theorem most_le (b : Bool) : most b ≤ 8 := by cases b <;> decide
structure Fit (t : State) : Prop where
  valid : Valid t.burnt t.stack
  least : 1 ≤ t.stack.length
  most : t.stack.length ≤ most t.burnt
def Good : Abs → Prop
  | none => True
  | some t => Fit t
theorem Fit.le8 {t : State} (g : Fit t) : t.stack.length ≤ 8 := Nat.le_trans g.most (most_le _)
theorem Fit.least_there {t : State} (g : Fit t) : ∃ m l, Least t.burnt t.stack m l := Pan.least g.valid g.most
/-- no more numbers than 30, one at the least; what stands stays fit -/
def Ok (o : Abs) (x : Abs × Ans) : Prop := Good x.1 ∧ 1 ≤ x.2.length ∧ x.2.length ≤ 30 ∧ ∀ t, x.1 = some t → (∃ t0, o = some t0 ∧ t.done_ ≤ t0.done_ + 1) ∨ t.done_ = 0
theorem ok_same {o : Abs} (g : Good o) {a : Ans} (h1 : 1 ≤ a.length) (h2 : a.length ≤ 30) : Ok o (o, a) := ⟨g, h1, h2, fun t e => .inl ⟨t, e, by omega⟩⟩
theorem small_few {b n : Nat} (h : small b n = true) : b ≤ 1 ∧ 1 ≤ n ∧ n ≤ few (b == 1) := by
  unfold small at h
  simp only [Bool.and_eq_true, decide_eq_true_eq] at h
  refine ⟨h.1, h.2.1, ?_⟩
  unfold few
  by_cases c : b = 1
  · subst c; exact h.2.2
  · rw [if_neg c] at h
    rw [if_neg (by simpa using c)]
    exact h.2.2
theorem step_tally {o : Abs} (g : Good o) (b n : Nat) : Ok o (step o (.tally b n)) := by
  have e : step o (.tally b n) = (o, if small b n = false then [-1] else nums (tally (b == 1) n)) := by cases o <;> rfl
  rw [e]
  by_cases c : small b n = false
  · rw [if_pos c]; exact ok_same g (by simp) (by simp)
  · rw [if_neg c]
    have h := small_few (by simpa using c)
    have m := mostNeed_le h.2.2
    refine ok_same g ?_ ?_
    · rw [nums, List.length_map, tally_len]; omega
    · rw [nums, List.length_map, tally_len]; omega
/-- worst, told by its stack -/
theorem worst_step {o : Abs} {b n : Nat} (c : small b n = true) : ∃ s, s ∈ all (b == 1) n ∧ ((all (b == 1) n).find? fun s => needs (b == 1) s == mostNeed (b == 1) n) = some s ∧ step o (.worst b n) = (o, (mostNeed (b == 1) n : Int) :: s) := by
  obtain ⟨s, h1, h2, h3⟩ := worst_there (b == 1) n
  have hl : (tally (b == 1) n).length - 1 = mostNeed (b == 1) n := by rw [tally_len]; omega
  rw [hl] at h1
  have e : step o (.worst b n) = (o, if small b n = false then [-1] else
    match (all (b == 1) n).find? fun (s : Stack) => needs (b == 1) s == (tally (b == 1) n).length - 1 with
    | some s => (((tally (b == 1) n).length - 1 : Nat) : Int) :: s
    | none => [-1]) := by cases o <;> rfl
  refine ⟨s, h2, h1, ?_⟩
  rw [e, if_neg (by simp [c]), hl, h1]
theorem worst_refused {o : Abs} {b n : Nat} (c : small b n = false) : step o (.worst b n) = (o, [-1]) := by
  have e : step o (.worst b n) = (o, if small b n = false then [-1] else
    match (all (b == 1) n).find? fun (s : Stack) => needs (b == 1) s == (tally (b == 1) n).length - 1 with
    | some s => (((tally (b == 1) n).length - 1 : Nat) : Int) :: s
    | none => [-1]) := by cases o <;> rfl
  rw [e, if_pos c]
theorem few_le5 (b : Bool) : few b ≤ 5 := by cases b <;> decide
theorem step_worst {o : Abs} (g : Good o) (b n : Nat) : Ok o (step o (.worst b n)) := by
  cases c : small b n with
  | false => rw [worst_refused c]; exact ok_same g (by simp) (by simp)
  | true =>
    obtain ⟨s, h1, _, h3⟩ := worst_step (o := o) c
    rw [h3]
    have e := (all_valid h1).2
    have h := small_few c
    have := few_le5 (b == 1)
    refine ok_same g (by simp) ?_
    rw [List.length_cons, e]
    omega
theorem step_begin {o : Abs} (g : Good o) (b : Nat) (s : Stack) : Ok o (step o (.begin_ b s)) := by
  have e : step o (.begin_ b s) = if 1 < b ∨ isStack (b == 1) s = false then (o, [-1]) else (some ⟨b == 1, s, 0⟩, [0]) := by cases o <;> rfl
  rw [e]
  by_cases c : 1 < b ∨ isStack (b == 1) s = false
  · rw [if_pos c]; exact ok_same g (by simp) (by simp)
  · rw [if_neg c]
    have h := isStack_valid (b := b == 1) (s := s) (by
      cases q : isStack (b == 1) s with
      | true => rfl
      | false => exact absurd (.inr q) c)
    exact ⟨⟨h.1, h.2.1, h.2.2⟩, by simp, by simp, fun t e => .inr (by
      have := Option.some.inj e
      rw [← this])⟩
theorem fewest_some {t : State} (g : Fit t) : ∃ m l, Least t.burnt t.stack m l ∧ fewest t.burnt t.stack = some l ∧ l.length ≤ 18 := by
  obtain ⟨m, l, L⟩ := g.least_there
  exact ⟨m, l, L, L.fewest, by rw [L.len]; exact L.small⟩
theorem step_ok {o : Abs} (g : Good o) (c : Call) : Ok o (step o c) := by
  cases c with
  | tally b n => exact step_tally g b n
  | worst b n => exact step_worst g b n
  | begin_ b s => exact step_begin g b s
  | flip k =>
    cases o with
    | none => exact ok_same g (by simp) (by simp)
    | some t =>
      show Ok _ (if t.stack.length < k then (some t, [-1]) else _)
      by_cases c : t.stack.length < k
      · rw [if_pos c]; exact ok_same g (by simp) (by simp)
      · rw [if_neg c]
        refine ⟨⟨Valid.flip g.valid k, by show 1 ≤ (Mu28.flip _ _ _).length; rw [flip_len]; exact g.least, by show (Mu28.flip _ _ _).length ≤ _; rw [flip_len]; exact g.most⟩, by simp, by simp, fun u e => .inl ⟨t, rfl, ?_⟩⟩
        have := Option.some.inj e
        rw [← this]
        exact Nat.le_refl _
  | look =>
    cases o with
    | none => exact ok_same g (by simp) (by simp)
    | some t =>
      have := Fit.le8 g
      exact ok_same g (by simp) (by simp; omega)
  | gaps =>
    cases o with
    | none => exact ok_same g (by simp) (by simp)
    | some t => exact ok_same g (by simp) (by simp)
  | fewest =>
    cases o with
    | none => exact ok_same g (by simp) (by simp)
    | some t =>
      obtain ⟨m, l, _, h2, h3⟩ := fewest_some g
      have e : step (some t) .fewest = (some t, counted l) := by show (some t, _) = _; rw [h2]
      rw [e]
      exact ok_same g (by simp [counted, nums]) (by simp [counted, nums]; omega)
  | usual =>
    cases o with
    | none => exact ok_same g (by simp) (by simp)
    | some t =>
      have h := usual_len t.stack.length g.valid (Nat.le_refl _)
      have := Fit.le8 g
      exact ok_same g (by simp [counted, nums]) (by simp [counted, nums]; omega)
  | try_ l =>
    cases o with
    | none => exact ok_same g (by simp) (by simp)
    | some t =>
      show Ok _ (some t, if fine t.stack.length l = false then [-1] else _)
      by_cases c : fine t.stack.length l = false
      · rw [if_pos c]; exact ok_same g (by simp) (by simp)
      · rw [if_neg c]
        have := Fit.le8 g
        exact ok_same g (by simp) (by rw [List.length_cons, flips_len]; omega)
  | same l m =>
    cases o with
    | none => exact ok_same g (by simp) (by simp)
    | some t =>
      show Ok _ (some t, if fine t.stack.length l = false ∨ fine t.stack.length m = false then [-1] else _)
      by_cases c : fine t.stack.length l = false ∨ fine t.stack.length m = false
      · rw [if_pos c]; exact ok_same g (by simp) (by simp)
      · rw [if_neg c]; exact ok_same g (by simp) (by simp)
  | round l =>
    cases o with
    | none => exact ok_same g (by simp) (by simp)
    | some t =>
      show Ok _ (some t, if fine t.stack.length l = false then [-1] else match rounds t.burnt l t.stack 100 0 t.stack with
        | some n => [(n : Int)]
        | none => [-6])
      by_cases c : fine t.stack.length l = false
      · rw [if_pos c]; exact ok_same g (by simp) (by simp)
      · rw [if_neg c]
        cases rounds t.burnt l t.stack 100 0 t.stack with
        | none => exact ok_same g (by simp) (by simp)
        | some n => exact ok_same g (by simp) (by simp)
  | hint =>
    cases o with
    | none => exact ok_same g (by simp) (by simp)
    | some t =>
      obtain ⟨m, l, _, h2, h3⟩ := fewest_some g
      show Ok _ (some t, match fewest t.burnt t.stack with
        | some (k :: l) => [(k : Int), (l.length : Int)]
        | some [] => [0]
        | none => [-6])
      rw [h2]
      cases l with
      | nil => exact ok_same g (by simp) (by simp)
      | cons k l => exact ok_same g (by simp) (by simp)
/-! ### rounds -/
/-- the stack behind a row done i times -/
def often (b : Bool) (l : List Nat) (s : List Int) : Nat → List Int
  | 0 => s
  | i + 1 => flips b l (often b l s i)
theorem often_len (b : Bool) (l : List Nat) (s : List Int) : ∀ i, (often b l s i).length = s.length
  | 0 => rfl
  | i + 1 => by
    show (flips b l (often b l s i)).length = _
    rw [flips_len, often_len b l s i]
theorem rounds_find {b : Bool} {l : List Nat} {s : List Int} : ∀ (f i : Nat), (∀ j, 1 ≤ j → j ≤ i → often b l s j ≠ s) →
    (∀ m, i < m → m ≤ i + f → (∀ j, 1 ≤ j → j < m → often b l s j ≠ s) → often b l s m = s → rounds b l s f i (often b l s i) = some m) ∧
    ((∀ j, 1 ≤ j → j ≤ i + f → often b l s j ≠ s) → rounds b l s f i (often b l s i) = none)
  | 0, i, h => ⟨fun m h1 h2 => by omega, fun _ => rfl⟩
  | f + 1, i, h => by
    have e : rounds b l s (f + 1) i (often b l s i) = if often b l s (i + 1) = s then some (i + 1) else rounds b l s f (i + 1) (often b l s (i + 1)) := rfl
    rw [e]
    by_cases c : often b l s (i + 1) = s
    · rw [if_pos c]
      refine ⟨fun m h1 h2 h3 h4 => ?_, fun h3 => absurd c (h3 _ (by omega) (by omega))⟩
      by_cases d : m = i + 1
      · rw [d]
      · exact absurd c (h3 _ (by omega) (by omega))
    · rw [if_neg c]
      have ih := rounds_find (b := b) (l := l) (s := s) f (i + 1) (by
        intro j h1 h2
        by_cases d : j = i + 1
        · rw [d]; exact c
        · exact h j h1 (by omega))
      refine ⟨fun m h1 h2 h3 h4 => ih.1 m ?_ (by omega) h3 h4, fun h3 => ih.2 fun j h1 h2 => h3 j h1 (by omega)⟩
      apply Nat.lt_of_le_of_ne (by omega)
      intro z
      rw [← z] at h4
      exact c h4
theorem rounds_some {b : Bool} {l : List Nat} {s : List Int} {m : Nat} (h1 : 1 ≤ m) (h2 : m ≤ 100) (h3 : ∀ j, 1 ≤ j → j < m → often b l s j ≠ s) (h4 : often b l s m = s) : rounds b l s 100 0 s = some m :=
  (rounds_find (b := b) (l := l) (s := s) 100 0 (fun j a c => by omega)).1 m (by omega) (by omega) h3 h4
theorem rounds_none {b : Bool} {l : List Nat} {s : List Int} (h : ∀ j, 1 ≤ j → j ≤ 100 → often b l s j ≠ s) : rounds b l s 100 0 s = none :=
  (rounds_find (b := b) (l := l) (s := s) 100 0 (fun j a c => by omega)).2 (fun j a c => h j a (by omega))
theorem fine_iff {n : Nat} {l : List Nat} : fine n l = true ↔ ∀ k ∈ l, k ≤ n := by
  unfold fine
  rw [List.all_eq_true]
  simp
end Pan
namespace Pan
open Mu28
/-! ### the list of calls, read call by call -/
theorem row_inv {r x t : List Int} (h : PyFlat.row r = some (x, t)) : ∃ (n : Nat) (u : List Int), r = (n : Int) :: u ∧ n ≤ u.length ∧ x = u.take n ∧ t = u.drop n := by
  cases r with
  | nil => cases h
  | cons z u =>
    unfold PyFlat.row at h
    dsimp only at h
    by_cases c : 0 ≤ z ∧ z.toNat ≤ u.length
    · rw [if_pos c] at h
      cases h
      exact ⟨z.toNat, u, by rw [Int.toNat_of_nonneg c.1], c.2, rfl, rfl⟩
    · rw [if_neg c] at h
      cases h
theorem rows_succ_inv {k : Nat} {r t : List Int} {xs : List (List Int)} (h : PyFlat.rows (k + 1) r = some (xs, t)) : ∃ x s ys, PyFlat.row r = some (x, s) ∧ PyFlat.rows k s = some (ys, t) ∧ xs = x :: ys := by
  unfold PyFlat.rows at h
  cases e : PyFlat.row r with
  | none => rw [e] at h; cases h
  | some p =>
    obtain ⟨x, s⟩ := p
    rw [e] at h
    cases e2 : PyFlat.rows k s with
    | none => simp only [e2] at h; cases h
    | some q =>
      obtain ⟨ys, u⟩ := q
      simp only [e2] at h
      cases h
      exact ⟨x, s, ys, rfl, e2, rfl⟩
theorem rows_zero_inv {r t : List Int} {xs : List (List Int)} (h : PyFlat.rows 0 r = some (xs, t)) : xs = [] ∧ t = r := by
  unfold PyFlat.rows at h
  cases h
  exact ⟨rfl, rfl⟩
theorem call_inv {f : Int → Option (Nat × Nat)} {P : Int} {r t : List Int} {c : List (List Int)} (h : PyFlat.call f (P :: r) = some (c, t)) :
    ∃ n k xs, f P = some (n, k) ∧ n ≤ r.length ∧ PyFlat.rows k (r.drop n) = some (xs, t) ∧ c = (P :: r.take n) :: xs := by
  unfold PyFlat.call at h
  dsimp only at h
  cases e : f P with
  | none => rw [e] at h; cases h
  | some p =>
    obtain ⟨n, k⟩ := p
    rw [e] at h
    dsimp only at h
    by_cases c : r.length < n
    · rw [if_pos c] at h; cases h
    · rw [if_neg c] at h
      cases e2 : PyFlat.rows k (r.drop n) with
      | none => rw [e2] at h; cases h
      | some q =>
        obtain ⟨xs, u⟩ := q
        rw [e2] at h
        cases h
        exact ⟨n, k, xs, rfl, by omega, e2, rfl⟩
theorem calls_nil (f : Int → Option (Nat × Nat)) (n : Nat) : PyFlat.calls f n [] = some [] := by
  cases n <;> rfl
theorem calls_inv {f : Int → Option (Nat × Nat)} {n : Nat} {P : Int} {r : List Int} {cs : List (List (List Int))} (h : PyFlat.calls f n (P :: r) = some cs) :
    ∃ m c t ds, n = m + 1 ∧ PyFlat.call f (P :: r) = some (c, t) ∧ PyFlat.calls f m t = some ds ∧ cs = c :: ds := by
  cases n with
  | zero => cases h
  | succ m =>
    unfold PyFlat.calls at h
    cases e : PyFlat.call f (P :: r) with
    | none => rw [e] at h; cases h
    | some p =>
      obtain ⟨c, t⟩ := p
      rw [e] at h
      cases e2 : PyFlat.calls f m t with
      | none => simp only [e2] at h; cases h
      | some ds =>
        simp only [e2] at h
        cases h
        exact ⟨m, c, t, ds, rfl, rfl, e2, rfl⟩
theorem whole_id (c : List (List Int)) : PyMu28.whole c = c := by
  unfold PyMu28.whole
  split <;> rfl
theorem map_whole (cs : List (List (List Int))) : cs.map PyMu28.whole = cs := by
  have : PyMu28.whole = id := by funext c; exact whole_id c
  rw [this, List.map_id]
/-! ### the twelve calls -/
def InRow (l : List Int) : Prop := l.length ≤ 60 ∧ ∀ z ∈ l, 0 ≤ z ∧ z ≤ 20
inductive Form : List (List Int) → Call → Prop
  | begin_ (b : Nat) (l : List Int) : b ≤ 5 → l.length ≤ 20 → (∀ z ∈ l, -20 ≤ z ∧ z ≤ 20) → Form [[0, (b : Int)], l] (.begin_ b l)
  | flip (k : Nat) : k ≤ 20 → Form [[1, (k : Int)]] (.flip k)
  | look : Form [[2]] .look
  | gaps : Form [[3]] .gaps
  | fewest : Form [[4]] .fewest
  | usual : Form [[5]] .usual
  | try_ (l : List Nat) : l.length ≤ 60 → (∀ k ∈ l, k ≤ 20) → Form [[6], nums l] (.try_ l)
  | same (l m : List Nat) : l.length ≤ 60 → (∀ k ∈ l, k ≤ 20) → m.length ≤ 60 → (∀ k ∈ m, k ≤ 20) → Form [[7], nums l, nums m] (.same l m)
  | round (l : List Nat) : l.length ≤ 60 → (∀ k ∈ l, k ≤ 20) → Form [[8], nums l] (.round l)
  | tally (b n : Nat) : b ≤ 9 → n ≤ 9 → Form [[9, (b : Int), (n : Int)]] (.tally b n)
  | worst (b n : Nat) : b ≤ 9 → n ≤ 9 → Form [[10, (b : Int), (n : Int)]] (.worst b n)
  | hint : Form [[11]] .hint
theorem within_iff {z lo hi : Int} : NeutralIO.within z lo hi = true ↔ lo ≤ z ∧ z ≤ hi := by
  unfold NeutralIO.within
  simp
theorem nat_of {z hi : Int} (h : 0 ≤ z ∧ z ≤ hi) : ∃ n : Nat, z = (n : Int) ∧ (n : Int) ≤ hi := ⟨z.toNat, by rw [Int.toNat_of_nonneg h.1], by rw [Int.toNat_of_nonneg h.1]; exact h.2⟩
theorem nats_nums (l : List Nat) : Mu28Neutral.nats (nums l) = l := by
  unfold Mu28Neutral.nats nums
  rw [List.map_map]
  have : (Int.toNat ∘ fun (n : Nat) => (n : Int)) = id := by funext n; simp
  rw [this, List.map_id]
theorem row_nums {l : List Int} (h : Mu28Neutral.row l = true) : ∃ u : List Nat, l = nums u ∧ u.length ≤ 60 ∧ ∀ k ∈ u, k ≤ 20 := by
  unfold Mu28Neutral.row at h
  simp only [Bool.and_eq_true, decide_eq_true_eq, List.all_eq_true] at h
  refine ⟨l.map Int.toNat, ?_, by simpa using h.1, ?_⟩
  · unfold nums
    rw [List.map_map]
    symm
    have : l.map ((fun (n : Nat) => (n : Int)) ∘ Int.toNat) = l.map id := by
      refine List.map_congr_left fun z hz => ?_
      have := within_iff.mp (h.2 z hz)
      simp; omega
    rw [this, List.map_id]
  · intro k hk
    obtain ⟨z, hz, rfl⟩ := List.mem_map.mp hk
    have := within_iff.mp (h.2 z hz)
    omega
theorem form_of {c : List (List Int)} (h : Mu28Neutral.asked1 c = true) : ∃ x, Form c x ∧ Mu28Neutral.callOf c = some x := by
  unfold Mu28Neutral.asked1 at h
  split at h
  · rename_i b l
    simp only [Bool.and_eq_true, decide_eq_true_eq, List.all_eq_true] at h
    obtain ⟨n, rfl, hn⟩ := nat_of (within_iff.mp h.1)
    exact ⟨_, .begin_ n l (by omega) h.2.1 fun z hz => within_iff.mp (h.2.2 z hz), by show some (Call.begin_ ((n : Int).toNat) l) = _; rw [Int.toNat_natCast]⟩
  · rename_i k
    obtain ⟨n, rfl, hn⟩ := nat_of (within_iff.mp h)
    exact ⟨_, .flip n (by omega), by show some (Call.flip ((n : Int).toNat)) = _; rw [Int.toNat_natCast]⟩
  · exact ⟨_, .look, rfl⟩
  · exact ⟨_, .gaps, rfl⟩
  · exact ⟨_, .fewest, rfl⟩
  · exact ⟨_, .usual, rfl⟩
  · rename_i l
    obtain ⟨u, rfl, h1, h2⟩ := row_nums h
    exact ⟨_, .try_ u h1 h2, by show some (Call.try_ (Mu28Neutral.nats (nums u))) = _; rw [nats_nums]⟩
  · rename_i l m
    rw [Bool.and_eq_true] at h
    obtain ⟨u, rfl, h1, h2⟩ := row_nums h.1
    obtain ⟨v, rfl, h3, h4⟩ := row_nums h.2
    exact ⟨_, .same u v h1 h2 h3 h4, by show some (Call.same (Mu28Neutral.nats (nums u)) (Mu28Neutral.nats (nums v))) = _; rw [nats_nums, nats_nums]⟩
  · rename_i l
    obtain ⟨u, rfl, h1, h2⟩ := row_nums h
    exact ⟨_, .round u h1 h2, by show some (Call.round (Mu28Neutral.nats (nums u))) = _; rw [nats_nums]⟩
  · rename_i b n
    rw [Bool.and_eq_true] at h
    obtain ⟨b, rfl, hb⟩ := nat_of (within_iff.mp h.1)
    obtain ⟨n, rfl, hn⟩ := nat_of (within_iff.mp h.2)
    exact ⟨_, .tally b n (by omega) (by omega), by show some (Call.tally ((b : Int).toNat) ((n : Int).toNat)) = _; rw [Int.toNat_natCast, Int.toNat_natCast]⟩
  · rename_i b n
    rw [Bool.and_eq_true] at h
    obtain ⟨b, rfl, hb⟩ := nat_of (within_iff.mp h.1)
    obtain ⟨n, rfl, hn⟩ := nat_of (within_iff.mp h.2)
    exact ⟨_, .worst b n (by omega) (by omega), by show some (Call.worst ((b : Int).toNat) ((n : Int).toNat)) = _; rw [Int.toNat_natCast, Int.toNat_natCast]⟩
  · exact ⟨_, .hint, rfl⟩
  · cases h
theorem step_of {c : List (List Int)} {x : Call} (h : Mu28Neutral.callOf c = some x) (S : Abs) : Mu28Neutral.step S c = Mu28.step S x := by
  unfold Mu28Neutral.step
  rw [h]
/-! ### the whole -/
theorem asked_inv {l : List Int} (h : PyMu28.answers_asked l = true) : ∃ cs, PyFlat.calls PyMu28.shape l.length l = some cs ∧ cs.length ≤ 40 ∧ (∀ c ∈ cs, Mu28Neutral.asked1 c = true) ∧
    PyMu28.answers l = PyFlat.told (PyFlat.played Mu28Neutral.step none cs) := by
  unfold PyMu28.answers_asked at h
  cases e : PyFlat.calls PyMu28.shape l.length l with
  | none => rw [e] at h; cases h
  | some cs =>
    rw [e] at h
    simp only [Bool.and_eq_true, map_whole] at h
    obtain ⟨⟨_, h2⟩, _⟩ := h
    unfold Mu28Neutral.asked at h2
    simp only [Bool.and_eq_true, decide_eq_true_eq, List.all_eq_true] at h2
    refine ⟨cs, rfl, h2.2.1, h2.2.2, ?_⟩
    unfold PyMu28.answers PyMu28.calls
    rw [e]
    show PyFlat.told (PyFlat.played Mu28Neutral.step Mu28Neutral.start (cs.map PyMu28.whole)) = _
    rw [map_whole]
    rfl
theorem told_cons (a : List Int) (l : List (List Int)) : PyFlat.told (a :: l) = (a.length : Int) :: (a ++ PyFlat.told l) := rfl
theorem played_cons (S : Abs) (c : List (List Int)) (cs : List (List (List Int))) : PyFlat.played Mu28Neutral.step S (c :: cs) = (Mu28Neutral.step S c).2 :: PyFlat.played Mu28Neutral.step (Mu28Neutral.step S c).1 cs := rfl
end Pan
namespace Pan
open Mu28
/-! ### a flip done twice; rows that may be left out -/
theorem flip_flip (b : Bool) {k : Nat} {s : List Int} (hk : k ≤ s.length) : flip b k (flip b k s) = s := by
  have hl : ((s.take k).reverse.map (sg b)).length = k := by simp; omega
  rw [flip_def b k (flip b k s), flip_def b k s, List.take_left' hl, List.drop_left' hl, ← List.map_reverse, List.reverse_reverse, List.map_map]
  have e : sg b ∘ sg b = id := by funext x; exact sg_sg b x
  rw [e, List.map_id, List.take_append_drop]
/-- no row of fewer flips sorts s -/
def Far (b : Bool) (m : Nat) (s : List Int) : Prop := ∀ r : List Nat, (∀ k ∈ r, k ∈ ways b s.length) → flips b r s = sorted s.length → m ≤ r.length
theorem Far.mono {b : Bool} {m j : Nat} {s : List Int} (h : Far b m s) (l : j ≤ m) : Far b j s := fun r h1 h2 => Nat.le_trans l (h r h1 h2)
theorem Far.flip {b : Bool} {m k : Nat} {s : List Int} (h : Far b m s) (hk : k ∈ ways b s.length) : Far b (m - 1) (flip b k s) := fun r h1 h2 => by
  rw [flip_len] at h1 h2
  have q := h (k :: r) (fun j hj => by
    cases List.mem_cons.mp hj with
    | inl z => rw [z]; exact hk
    | inr z => exact h1 j z) (by rw [flips_cons]; exact h2)
  rw [List.length_cons] at q
  omega
theorem Far.back {b : Bool} {m k : Nat} {s : List Int} (h : Far b m s) (hk : k ≤ s.length) : Far b (m - 1) (Mu28.flip b k (Mu28.flip b k s)) := by
  rw [flip_flip b hk]
  exact h.mono (by omega)
theorem Least.far {b : Bool} {s : List Int} {m : Nat} {l : List Nat} (L : Least b s m l) : Far b m s := fun r h1 h2 => by
  obtain ⟨r', hr⟩ := search_row h1 h2
  apply Nat.le_of_not_lt
  intro c
  have := L.none _ c
  rw [hr] at this
  cases this
theorem rw1_sound {b : Bool} : ∀ {m : Nat} {s : List Int} {l : List Nat}, Valid b s → rw1 b m s = some l → l.length ≤ m ∧ (∀ k ∈ l, k ∈ ways b s.length) ∧ flips b l s = sorted s.length
  | 0, s, l, V, h => by
    unfold rw1 at h
    by_cases c : Mu28.gaps b s = 0
    · rw [if_pos c] at h
      cases h
      exact ⟨Nat.le_refl _, by simp, (gaps_zero_iff V).mp c⟩
    · rw [if_neg c] at h; cases h
  | m + 1, s, l, V, h => by
    unfold rw1 at h
    by_cases c : Mu28.gaps b s = 0
    · rw [if_pos c] at h
      cases h
      exact ⟨Nat.zero_le _, by simp, (gaps_zero_iff V).mp c⟩
    · rw [if_neg c] at h
      obtain ⟨k, hk, h2⟩ := List.exists_of_findSome?_eq_some h
      split at h2
      · rw [Option.map_eq_some_iff] at h2
        obtain ⟨r, hr, rfl⟩ := h2
        obtain ⟨q1, q2, q3⟩ := rw1_sound (V.flip k) hr
        rw [flip_len] at q2 q3
        refine ⟨by rw [List.length_cons]; omega, fun j hj => ?_, by rw [flips_cons]; exact q3⟩
        cases List.mem_cons.mp hj with
        | inl z => rw [z]; exact hk
        | inr z => exact q2 j z
      · cases h2
theorem Far.rw1 {b : Bool} {m : Nat} {s : List Int} (V : Valid b s) (h : Far b (m + 1) s) : rw1 b m s = none := by
  cases e : Pan.rw1 b m s with
  | none => rfl
  | some l =>
    obtain ⟨q1, q2, q3⟩ := rw1_sound V e
    have := h l q2 q3
    omega
/-! ### how many flips a stack needs -/
section
variable {b : Bool} {n : Nat} {s : List Int}
theorem needs_row (V : Valid b s) (h : s.length ≤ few b) : ∃ r : List Nat, (∀ k ∈ r, k ∈ ways b s.length) ∧ flips b r s = sorted s.length ∧ r.length = needs b s := by
  obtain ⟨m, l, L⟩ := least V (Nat.le_trans h (few_le b))
  obtain ⟨q1, q2, q3⟩ := search_sound L.some
  exact ⟨l, q2, q3, by rw [L.needs, q1]⟩
theorem needs_least_row (V : Valid b s) (h : s.length ≤ few b) {r : List Nat} (h1 : ∀ k ∈ r, k ∈ ways b s.length) (h2 : flips b r s = sorted s.length) : needs b s ≤ r.length := by
  obtain ⟨m, l, L⟩ := least V (Nat.le_trans h (few_le b))
  rw [L.needs]
  exact L.far r h1 h2
theorem needs_zero (V : Valid b s) (h : s.length ≤ few b) : needs b s = 0 ↔ s = sorted s.length := by
  constructor
  · intro e
    obtain ⟨r, _, q2, q3⟩ := needs_row V h
    rw [e] at q3
    have : r = [] := List.length_eq_zero_iff.mp q3
    rw [this] at q2
    exact q2
  · intro e
    have := needs_least_row V h (r := []) (by simp) e
    exact Nat.le_zero.mp this
theorem needs_flip (V : Valid b s) (h : s.length ≤ few b) {k : Nat} (hk : k ∈ ways b s.length) : needs b s ≤ needs b (flip b k s) + 1 := by
  obtain ⟨r, q1, q2, q3⟩ := needs_row (V.flip k) (by rw [flip_len]; exact h)
  rw [flip_len] at q1 q2
  have := needs_least_row V h (r := k :: r) (fun j hj => by
    cases List.mem_cons.mp hj with
    | inl z => rw [z]; exact hk
    | inr z => exact q1 j z) (by rw [flips_cons]; exact q2)
  rw [List.length_cons] at this
  omega
theorem needs_pred (V : Valid b s) (h : s.length ≤ few b) {i : Nat} (e : needs b s = i + 1) : ∃ k, k ∈ ways b s.length ∧ needs b (flip b k s) = i := by
  obtain ⟨r, q1, q2, q3⟩ := needs_row V h
  cases r with
  | nil => rw [e] at q3; cases q3
  | cons k r =>
    have hk := q1 k List.mem_cons_self
    refine ⟨k, hk, ?_⟩
    have a := needs_flip V h hk
    have c := needs_least_row (V.flip k) (by rw [flip_len]; exact h) (r := r) (by rw [flip_len]; exact fun j hj => q1 j (List.mem_cons_of_mem _ hj)) (by rw [flip_len]; exact q2)
    rw [List.length_cons] at q3
    omega
/-- below what one needs each number of flips is needed by some stack -/
theorem needs_below (V : Valid b s) (h : s.length ≤ few b) : ∀ (d i : Nat), needs b s = i + d → ∃ t, Valid b t ∧ t.length = s.length ∧ needs b t = i := by
  intro d
  induction d generalizing s with
  | zero => exact fun i e => ⟨s, V, rfl, e⟩
  | succ d ih =>
    intro i e
    obtain ⟨k, hk, e2⟩ := needs_pred V h (i := i + d) (by omega)
    obtain ⟨t, q1, q2, q3⟩ := ih (s := flip b k s) (V.flip k) (by rw [flip_len]; exact h) i e2
    exact ⟨t, q1, by rw [q2, flip_len], q3⟩
end
/-! ### all stacks, in their order -/
def lt1 (x y : Int) : Prop := x.natAbs < y.natAbs ∨ (x.natAbs = y.natAbs ∧ x < y)
def sLt : List Int → List Int → Prop
  | [], [] => False
  | [], _ :: _ => True
  | _ :: _, [] => False
  | x :: s, y :: t => lt1 x y ∨ (x = y ∧ sLt s t)
theorem lt1_irrefl (x : Int) : ¬ lt1 x x := by unfold lt1; omega
theorem lt1_trans {x y z : Int} : lt1 x y → lt1 y z → lt1 x z := by unfold lt1; omega
theorem lt1_total (x y : Int) : lt1 x y ∨ x = y ∨ lt1 y x := by unfold lt1; omega
theorem sLt_irrefl : ∀ s : List Int, ¬ sLt s s
  | [] => fun h => h
  | x :: s => fun h => by
    rcases h with h | h
    · exact lt1_irrefl x h
    · exact sLt_irrefl s h.2
theorem sLt_trans : ∀ {s t u : List Int}, sLt s t → sLt t u → sLt s u
  | [], [], _, h, _ => h.elim
  | [], _ :: _, [], _, h => h.elim
  | [], _ :: _, _ :: _, _, _ => True.intro
  | _ :: _, [], _, h, _ => h.elim
  | _ :: _, _ :: _, [], _, h => h.elim
  | x :: s, y :: t, z :: u, h1, h2 => by
    rcases h1 with h1 | ⟨h1, h1'⟩
    · rcases h2 with h2 | ⟨h2, _⟩
      · exact .inl (lt1_trans h1 h2)
      · rw [← h2]; exact .inl h1
    · rcases h2 with h2 | ⟨h2, h2'⟩
      · rw [h1]; exact .inl h2
      · exact .inr ⟨h1.trans h2, sLt_trans h1' h2'⟩
theorem sLt_total : ∀ s t : List Int, sLt s t ∨ s = t ∨ sLt t s
  | [], [] => .inr (.inl rfl)
  | [], _ :: _ => .inl True.intro
  | _ :: _, [] => .inr (.inr True.intro)
  | x :: s, y :: t => by
    rcases lt1_total x y with h | h | h
    · exact .inl (.inl h)
    · subst h
      rcases sLt_total s t with h | h | h
      · exact .inl (.inr ⟨rfl, h⟩)
      · rw [h]; exact .inr (.inl rfl)
      · exact .inr (.inr (.inr ⟨rfl, h⟩))
    · exact .inr (.inr (.inl h))
theorem stacksOf_sorted (b : Bool) : ∀ (k : Nat) (l : List Int), (∀ x ∈ l, 0 < x) → l.Pairwise (· < ·) → (stacksOf b k l).Pairwise sLt
  | 0, l, _, _ => by
    unfold stacksOf
    exact List.pairwise_singleton _ _
  | k + 1, l, hp, hs => by
    unfold stacksOf
    have sub : ∀ x, (∀ z ∈ l.erase x, 0 < z) ∧ (l.erase x).Pairwise (· < ·) := fun x => ⟨fun z hz => hp z (List.mem_of_mem_erase hz), hs.sublist List.erase_sublist⟩
    have inner : ∀ (x y : Int), ((stacksOf b k (l.erase x)).map fun r => y :: r).Pairwise sLt := fun x y => by
      rw [List.pairwise_map]
      exact (stacksOf_sorted b k _ (sub x).1 (sub x).2).imp fun h => .inr ⟨rfl, h⟩
    have apart : ∀ (x x' y y' : Int), lt1 y y' → ∀ s ∈ ((stacksOf b k (l.erase x)).map fun r => y :: r), ∀ t ∈ ((stacksOf b k (l.erase x')).map fun r => y' :: r), sLt s t := fun x x' y y' h s hs t ht => by
      obtain ⟨r, _, rfl⟩ := List.mem_map.mp hs
      obtain ⟨r', _, rfl⟩ := List.mem_map.mp ht
      exact .inl h
    rw [List.pairwise_flatMap]
    refine ⟨fun x hx => ?_, ?_⟩
    · rw [List.pairwise_flatMap]
      refine ⟨fun y _ => inner x y, ?_⟩
      cases b with
      | false => exact List.pairwise_singleton _ _
      | true =>
        have px := hp x hx
        refine List.pairwise_pair.mpr (apart x x (-x) x ?_)
        unfold lt1
        omega
    · refine List.Pairwise.imp_of_mem ?_ hs
      intro x x' hx hx' h s hs t ht
      obtain ⟨y, hy, hs⟩ := List.mem_flatMap.mp hs
      obtain ⟨y', hy', ht⟩ := List.mem_flatMap.mp ht
      refine apart x x' y y' ?_ s hs t ht
      have p1 := hp x hx
      have p2 := hp x' hx'
      unfold lt1
      cases b
      · simp at hy hy'
        omega
      · simp at hy hy'
        omega
theorem sorted_pos (n : Nat) : ∀ x ∈ sorted n, 0 < x := by
  intro x hx
  simp [sorted] at hx
  obtain ⟨a, _, rfl⟩ := hx
  omega
theorem all_sorted (b : Bool) (n : Nat) : (all b n).Pairwise sLt := stacksOf_sorted b n (sorted n) (sorted_pos n) (sorted_pairwise n)
theorem all_nodup (b : Bool) (n : Nat) : (all b n).Nodup := (all_sorted b n).imp fun {s t} h z => by
  rw [z] at h
  exact sLt_irrefl t h
theorem stacksOf_mem (b : Bool) : ∀ (k : Nat) (l s : List Int), l.length = k → (∀ x ∈ l, 0 < x) → (s.map Int.natAbs).Perm (l.map Int.natAbs) → (b = true ∨ ∀ x ∈ s, 0 < x) → s ∈ stacksOf b k l
  | 0, l, s, hl, _, hp, _ => by
    have : l = [] := List.length_eq_zero_iff.mp hl
    subst this
    have : s = [] := by
      have := hp.length_eq
      simp at this
      exact this
    subst this
    simp [stacksOf]
  | k + 1, l, s, hl, hq, hp, hb => by
    cases s with
    | nil =>
      have := hp.length_eq
      simp at this
      rw [← this] at hl
      simp at hl
    | cons y r =>
      have hy : y.natAbs ∈ l.map Int.natAbs := hp.mem_iff.mp (by simp)
      obtain ⟨x, hx, e⟩ := List.mem_map.mp hy
      have px := hq x hx
      have hl2 : (l.erase x).length = k := by rw [List.length_erase_of_mem hx]; omega
      have hp2 : (r.map Int.natAbs).Perm ((l.erase x).map Int.natAbs) := by
        have p := (List.perm_cons_erase hx).map Int.natAbs
        have p2 := hp.trans p
        rw [List.map_cons, List.map_cons, e] at p2
        exact p2.cons_inv
      have ih := stacksOf_mem b k (l.erase x) r hl2 (fun z hz => hq z (List.mem_of_mem_erase hz)) hp2 (by
        cases hb with
        | inl h => exact .inl h
        | inr h => exact .inr fun z hz => h z (List.mem_cons_of_mem _ hz))
      unfold stacksOf
      refine List.mem_flatMap.mpr ⟨x, hx, List.mem_flatMap.mpr ⟨y, ?_, List.mem_map.mpr ⟨r, ih, rfl⟩⟩⟩
      cases b with
      | true =>
        simp
        omega
      | false =>
        cases hb with
        | inl h => cases h
        | inr h =>
          have := h y List.mem_cons_self
          simp
          omega
theorem mem_all {b : Bool} {n : Nat} {s : List Int} : s ∈ all b n ↔ Valid b s ∧ s.length = n := by
  constructor
  · exact fun h => all_valid h
  · rintro ⟨V, rfl⟩
    refine stacksOf_mem b _ _ s (sorted_len _) (sorted_pos _) ?_ V.pos
    have e2 : (sorted s.length).map Int.natAbs = (List.range s.length).map (· + 1) := by
      rw [sorted, List.map_map]
      refine List.map_congr_left fun i _ => ?_
      simp; omega
    rw [e2]
    exact V.perm
end Pan
namespace Pan
open PySem PySem.Spec PyProof.Rows L2
open PySem.W (Codec)
def top (i : Nat) : Stmt := PySem.Challenge.pw_panstack_s01_answers.main.body.getD i (.Pass ⟨0, 0, 0, 0⟩)
/-! ### enumerate(list, start = k) -/
/-- the items with their counts from k on, each in a new pair -/
def CountedIt (K : PySem.W.Frag) (a : Addr) (k : Int) : It where
  go := fun i H => ∃ (xs : List V) (x : V), SqL K H a xs ∧ xs[i]? = some x
  yld := fun i H v H' => ∃ T x, v = .ref T ∧ H T = none ∧ H' = upd H T (.tup [.int (k + (i : Nat)), x]) ∧ ∀ xs, SqL K H a xs → xs[i]? = some x
  stop := fun i H => ∃ xs : List V, SqL K H a xs ∧ xs.length = i
def Standing (e it a : Addr) (k : Int) (i : Nat) (h : Heap) : Prop := (∃ old, IsEnum h e it (k + (i : Nat)) old) ∧ h.IsListIter it a i ∧ e ≠ it
theorem list_not_iter {h : Heap} {a it : Addr} {i : Nat} {its : Array Value} (pl : PlainL h a its) (hit : h.IsListIter it a i) : a ≠ it := by
  intro z
  obtain ⟨o1, h1, c1, _⟩ := hit
  obtain ⟨o2, n2, h2, c2, _⟩ := pl
  rw [z, h1] at h2
  cases h2
  rw [c1] at c2
  injection c2 with z
  exact absurd z (by decide)
theorem enum_not_list {h : Heap} {a e it : Addr} {c : Int} {old : Value} {its : Array Value} (he : IsEnum h e it c old) (pl : PlainL h a its) : e ≠ a := by
  intro z
  obtain ⟨o2, n2, h2, c2, _⟩ := pl
  rw [← z, show h.get? e = _ from he] at h2
  cases h2
  injection c2 with z
  exact absurd z (by decide)
theorem counted_turn {P : Program} {w : World} {K : PySem.W.Frag} {elts : List Expr} {kk : Nat} {tpos : Pos} (a e it : Addr) (k : Int) :
    Turn P w K (.Tuple elts kk tpos) (CountedIt K a k) [e, it] e (Standing e it a k) := by
  refine ⟨by simp, ?obj, ?keep, ?item, ?done, ?self⟩
  case obj =>
    rintro i h ⟨⟨old, he⟩, ⟨o, ho, _, hd⟩, _⟩ b hb
    simp only [List.mem_cons, List.not_mem_nil, or_false] at hb
    cases hb with
    | inl z => subst z; exact ⟨_, he, by intro v q; cases q⟩
    | inr z => subst z; exact ⟨o, ho, by intro v q; rw [hd] at q; cases q⟩
  case keep =>
    rintro i h h' ⟨⟨old, he⟩, hi, hne⟩ k
    exact ⟨⟨old, k e (by simp) _ he⟩, hi.at (fun o q => k it (by simp) o q), hne⟩
  case self =>
    rintro A i s Q E ⟨⟨_, he⟩, _⟩ h
    exact wpAny_pyIter_enum he h
  case done =>
    intro X hP hw hK hc i pins s σ H E I hf st hg
    subst hP; subst hw; subst hK
    obtain ⟨⟨old, he⟩, hit, hne⟩ := st
    obtain ⟨xs, hq, hx⟩ := hg
    obtain ⟨its, rv, pl, _⟩ := I.list hq
    have D := Draws.list (prog := X.prog) (w := X.w) (A := X.A.in1) (I.ok.hd hc) it a (list_not_iter pl hit) its.toArray
    have hn : its.toArray.size = i := by
      have := rv.length
      simp
      omega
    rw [hn] at D
    refine wpAny_pyNext_enum_endD D he ⟨hit, pl.isList⟩ fun h' eb => ⟨rfl, ?_⟩
    have F := hf it (by simp)
    exact I.turned (t' := s.toks) (fun b o hb q => eb b o hb q) F.1 F.2.1 F.2.2.2.1 F.2.2.2.2.1 F.2.2.2.2.2
  case item =>
    intro X hP hw hK hc i pins s σ H E I hf st hg
    subst hP; subst hw; subst hK
    obtain ⟨⟨old, he⟩, hit, hne⟩ := st
    obtain ⟨xs, x, hq, hx⟩ := hg
    obtain ⟨its, rv, pl, hz⟩ := I.list hq
    obtain ⟨u, hu, ru⟩ := rv.get hx
    have D := Draws.list (prog := X.prog) (w := X.w) (A := X.A.in1) (I.ok.hd hc) it a (list_not_iter pl hit) its.toArray
    have hil : i < its.toArray.size := by
      have := (List.getElem?_eq_some_iff.mp hu).1
      simpa using this
    have ea : e ≠ a := enum_not_list he pl
    have e_old : e < s.heap.objs.size := Heap.lt_size he
    have it_old : it < s.heap.objs.size := by
      obtain ⟨_, q, _⟩ := hit
      exact Heap.lt_size q
    refine wpAny_pyNext_enum_itemC D he ⟨hit, pl.isList⟩ hil hne (by simp [hne, ea]) fun y h' tk hy ho st' hT hsz hk => ?_
    have ey : y = u := by
      have : its.toArray[i]? = some u := by simpa using hu
      rw [this] at hy
      exact (Option.some.inj hy).symm
    subst ey
    refine ⟨_, rfl, wpAny_letOwnedTupleGo_enum (s := { s with heap := h', toks := tk + 1 }) ho fun h2 he2 sb => ?_⟩
    have away : ∀ b, b < s.heap.objs.size → b ≠ s.heap.objs.size := fun b hb => Nat.ne_of_lt hb
    have hT2 := (sb.2 _ (away e e_old).symm).trans hT
    have new : ObjOk X.prog X.w (upd H s.heap.objs.size (.tup [.int (k + (i : Nat)), x])) h2 s.heap.objs.size (.tup [.int (k + (i : Nat)), x]) := by
      refine ⟨by show 2 ≤ sizeLine; decide, [.int (k + (i : Nat)) tk, y], .cons ⟨_, rfl⟩ (.cons ru .nil), ⟨_, hT2, rfl, _, rfl⟩⟩
    have I2 : Inv X pins σ (upd H s.heap.objs.size (.tup [.int (k + (i : Nat)), x])) { s with heap := h2, toks := tk + 1 } := by
      refine I.turnedNew (ch := [e, it]) (fun b ob hb q => ?_) hf (Nat.le_refl _) new
      simp only [List.mem_cons, List.not_mem_nil, or_false, not_or] at hb
      exact (sb.2 b hb.1).trans (hk b ob hb.1 hb.2 q)
    have hcount : k + ((i + 1 : Nat) : Int) = k + (i : Nat) + 1 := by omega
    refine ⟨.ref s.heap.objs.size, _, I2, rfl, ⟨_, x, rfl, I.hok.fresh (Nat.le_refl _), rfl, fun ys hy => ?_⟩, ⟨⟨y, ?_⟩, ?_, hne⟩, fun b hb => ?_⟩
    · rw [I.list_inj hy hq]
      exact hx
    · rw [hcount]
      exact he2
    · exact st'.1.at fun o q => (sb.2 it (Ne.symm hne)).trans q
    · have bl : b < s.heap.objs.size := by
        simp only [List.mem_cons, List.not_mem_nil, or_false] at hb
        cases hb with
        | inl z => rw [z]; exact e_old
        | inr z => rw [z]; exact it_old
      rw [upd_ne (away b bl)]
      exact (hf b hb).1
/-- a built-in class called with one argument and some keywords -/
theorem class_kw {M : Model} {A : Around} {E : Value → Shared → Prop} {s : Shared} {env : Env} {pos : Pos} {T : String} {e : Expr} {kws : List Keyword} {Q : Value → Shared → Prop}
    (hall : (backToKw pos (keywordEach kws env)).all (·.1.isSome) = true) (hnone : (backToKw pos (keywordEach kws env)).any (·.1.isNone) = false)
    (he : backTo pos (starEach [e] env) = (false, eval e env) :: backTo pos (starEach [] env))
    (h : wpAny M A (spliced (backTo pos (starEach [e] env))) (fun vs s₁ => wpAny M A (evalAll ((backToKw pos (keywordEach kws env)).map (·.2)))
      (fun ws s₂ => wpAny M A (call (.type T) vs (((backToKw pos (keywordEach kws env)).filterMap (·.1)).zip ws)) Q E s₂) E s₁) E s) :
    wpAny M A (callWith pos (.type T) [] (backTo pos (starEach [e] env)) (backToKw pos (keywordEach kws env))) Q E s := by
  have plain : ((backTo pos (starEach [e] env)).any (·.1) || (backToKw pos (keywordEach kws env)).any (·.1.isNone)) = false := by
    rw [he, hnone]; rfl
  have hev := evalArgs_kwB (M := M) (A := A) (E := E) (s := s) (f := .type T) (x := eval e env) (rest := backTo pos (starEach [] env)) (Q := fun a s₁ => wpAny M A (call (.type T) ([] ++ a.pos) a.kw) Q E s₁) hall (by
    rw [← he]; exact h)
  rw [← he] at hev
  unfold callWith
  refine wpAny_bind (wpAny_holding (wpAny_mono hev (fun a s₁ h₁ => wpAny_bind (wpAny_standAt ?_)) fun _ _ z => z))
  simp only [plain]
  exact wpAny_bind (wpAny_pure (wpAny_bind (wpAny_mono h₁ (fun r s₂ hr => wpAny_bind (wpAny_holding (wpAny_point (wpAny_pure hr)))) fun _ _ z => z)))
/-- (the two readings, then) the list, the first count -/
def iCounted (K : PySem.W.Frag) (te tk : TE) : TI := fun σ H R => tCons te tNil σ H fun vs H1 => tCons tk tNil σ H1 fun ks H2 => ∃ (a : Addr) (xs : List V) (n : Int), vs = [.ref a] ∧ ks = [.int n] ∧ -(2 ^ 63) ≤ n ∧ n < 2 ^ 63 ∧ SqL K H2 a xs ∧ R (CountedIt K a n) H2
theorem pi_counted {X : Cx} {e k : Expr} {te tk : TE} {p pos tpos kpos : Pos} {elts : List Expr} {kk : Nat} (hg : Gl X "enumerate") (hm : X.mg "enumerate" = none) (he : PE X e te) (hk : PE X k tk)
    (hst : starEach [e] X.env = (false, eval e X.env) :: starEach [] X.env := by rfl) (hse : backTo pos (starEach [e] X.env) = (false, eval e X.env) :: backTo pos (starEach [] X.env) := by rfl)
    (hall : (backToKw pos (keywordEach [⟨some "start", k, kpos⟩] X.env)).all (·.1.isSome) = true := by rfl) (hnone : (backToKw pos (keywordEach [⟨some "start", k, kpos⟩] X.env)).any (·.1.isNone) = false := by rfl)
    (hks : (backToKw pos (keywordEach [⟨some "start", k, kpos⟩] X.env)).filterMap (·.1) = (["start"] : List Str) := by rfl) :
    PI X (.Tuple elts kk tpos) (.Call (.Name "enumerate" p) [e] [⟨some "start", k, kpos⟩] pos) (iCounted X.K te tk) := by
  refine ⟨fun pins s σ H R I h => ?_⟩
  have ha : PA X [e] (tCons te tNil) := pa_cons he pa_nil hst
  have hkw : PK X [⟨some "start", k, kpos⟩] (tCons tk tNil) := pk_cons hk pk_nil
  refine wpAny_Call_Name_kw (ld_blt I hg hm boot_enumerate (class_kw hall hnone hse (thn (ha.run pos pins s σ H _ I h) fun us s1 ⟨vs, H1, I1, r1, q1⟩ =>
    thn (hkw.run pos pins s1 σ H1 _ I1 q1) fun ws s2 ⟨ks, H2, I2, r2, q2⟩ => ?_)))
  rw [hks]
  obtain ⟨a, xs, n, rfl, rfl, n1, n2, hq, q⟩ := q2
  cases r1 with
  | cons r rr =>
    cases rr
    cases r
    cases r2 with
    | cons r' rr' =>
      cases rr'
      obtain ⟨tk', rfl⟩ : ∃ t, _ = Value.int n t := r'
      obtain ⟨its, rv, pl, hz⟩ := I2.list hq
      show wpAny _ _ (call (.type "enumerate") [.ref a] [(Str.ofString "start", .int n tk')]) _ _ _
      refine enum_begins_start (begins_list a its.toArray) pl.isList n1 n2 fun h' hen hit hsz hk => wpAny_pyIter_enum hen ?_
      have I3 : Inv X pins σ H2 { s2 with heap := h' } := I2.kept (t' := s2.toks) hk
      have st : Standing (s2.heap.objs.size + 1) s2.heap.objs.size a n 0 h' := ⟨⟨.none, by simpa using hen⟩, ⟨_, hit, rfl, rfl⟩, Nat.succ_ne_self _⟩
      refine ⟨s2.heap.objs.size + 1, [s2.heap.objs.size + 1, s2.heap.objs.size], _, _, H2, rfl, I3, counted_turn a _ _ n, st, fun b hb => ?_, q⟩
      have hle : s2.heap.objs.size ≤ b := by
        simp only [List.mem_cons, List.not_mem_nil, or_false] at hb
        cases hb with
        | inl z => rw [z]; exact Nat.le_add_right _ _
        | inr z => rw [z]; exact Nat.le_refl _
      exact I2.fpOk hle (I2.hok.fresh hle)
theorem walk_counted {K : PySem.W.Frag} {a : Addr} {xs : List V} {k : Int} : Walk (CountedIt K a k) xs.length (fun H => SqL K H a xs) (YPair (fun i => some (.int (k + (i : Nat)))) (fun i => xs[i]?)) := by
  refine ⟨fun i H hi q => ⟨xs, xs[i], q, List.getElem?_eq_getElem hi⟩, fun H q => ⟨xs, q, rfl⟩, fun i H v H' hi q y => ?_⟩
  obtain ⟨T, x, e1, e2, e3, e4⟩ := y
  exact ⟨T, _, x, e1, e2, e3, rfl, e4 xs q⟩
end Pan
namespace Pan
open PySem PySem.Spec PyProof.Rows L2
open PySem.W (Codec)
abbrev ivs (s : List Int) : List V := s.map V.int
abbrev sStack : Stmt := top 3
abbrev sTurned : Stmt := top 4
abbrev sFlipped : Stmt := top 5
abbrev sBelow : Stmt := top 6
abbrev sBetween : Stmt := top 7
abbrev sCount : Stmt := top 8
abbrev sChange : Stmt := top 9
/-- a def of the program's that keeps a promise, called by its name -/
def Def (P : Program) (w : World) (K : PySem.W.Frag) (mg : Str → Option Value) (base : Heap) (k : Nat) (x : Str) (ps : List Str) (sp : Sp) : Prop :=
  ∃ (f : Addr) (fd : FuncData), mg x = some (.ref f) ∧ PySem.W.keepIn K (.ref f) = true ∧ Binds K fd ps [] ∧ FnOk P w K mg base CX0 k f fd ps sp
/-- the names of Python's own that are still Python's own -/
structure Own (mg : Str → Option Value) : Prop where
  len : mg "len" = none
  abs : mg "abs" = none
  min : mg "min" = none
  sorted : mg "sorted" = none
  list : mg "list" = none
  range : mg "range" = none
  reversed : mg "reversed" = none
  enumerate : mg "enumerate" = none
/-- an if by a test that is a decision -/
theorem if_dec {p : Prop} [Decidable p] {A B : Prop} (h1 : p → A) (h2 : ¬ p → B) : if decide p = true then A else B := by
  by_cases c : p
  · rw [if_pos (decide_eq_true c)]; exact h1 c
  · rw [if_neg (by rw [decide_eq_false c]; exact Bool.false_ne_true)]; exact h2 c
theorem int_ne {x y : Int} (h : ¬ V.int x = V.int y) : x ≠ y := fun z => h (by rw [z])
theorem int_eq {x y : Int} (h : V.int x = V.int y) : x = y := by injection h
theorem atI_ivs {s : List Int} {k : Nat} {z : Int} (h : s[k]? = some z) : atI (ivs s) k = some (V.int z) := by
  refine atI_nat ?_
  rw [List.getElem?_map, h]
  rfl
section
variable {P : Program} {w : World} {K : PySem.W.Frag} {mg : Str → Option Value} {base : Heap}
/-! ### turned -/
theorem scTu : FnScope ["size", "sides_count"] ["size", "sides_count"] (defScope sTurned) := ⟨rfl, rfl, rfl, by decide +kernel, rfl, by decide +kernel, by decide +kernel⟩
def spTurned : Sp := fun vs H Q _ => ∃ (x : Int) (b : Bool), vs = [.int x, .bl b] ∧ Q (.int (sg b x)) H
theorem ok_turned {f : Addr} {fd : FuncData} (F : Fun K "turned" "turned" sTurned f fd) : FnOk P w K mg base CX0 1 f fd ["size", "sides_count"] spTurned := by
  refine F.ok scTu (fun vs H Q E h => ?_) (fun cdv A outer s H vs Q E hr h => ⟨_, pss_one (ps_ret (pe_ifExp (pt_truth (pv 1) (by intro _; rfl)) (pe_un un_neg (pv 0)) (pv 0))), ?_⟩)
  · obtain ⟨x, b, rfl, _⟩ := h; rfl
  · obtain ⟨x, b, rfl, k⟩ := h
    refine ⟨_, rfl, _, rfl, ?_⟩
    cases b with
    | true => exact ⟨_, rfl, _, rfl, k⟩
    | false => exact ⟨_, rfl, k⟩
/-! ### size_below -/
theorem scBe : FnScope ["stack", "k"] ["stack", "k"] (defScope sBelow) := ⟨rfl, rfl, rfl, by decide +kernel, rfl, by decide +kernel, by decide +kernel⟩
def spBelow (K : PySem.W.Frag) : Sp := fun vs H Q _ => ∃ (a : Addr) (s : List Int) (k : Nat), vs = [.ref a, .int k] ∧ SqL K H a (ivs s) ∧ Q (.int (below s k)) H
theorem ok_below {f : Addr} {fd : FuncData} (F : Fun K "size_below" "size_below" sBelow f fd) (T : Own mg) : FnOk P w K mg base CX0 1 f fd ["stack", "k"] (spBelow K) := by
  refine F.ok scBe (fun vs H Q E h => ?_) (fun cdv A outer s H vs Q E hr h => ⟨_, pss_one (ps_ret (pe_ifExp (pt_cmpR op_lt (pv 1) (pe_callB call_len_seq (by rfl) T.len PySem.boot_len (pa_cons (pv 0) pa_nil)) (nomark _))
      (pe_ix ix_list (pv 0) (pv 1) (fun _ _ => rfl)) (pe_op op_add (pe_callB call_len_seq (by rfl) T.len PySem.boot_len (pa_cons (pv 0) pa_nil)) pe_int))), ?_⟩)
  · obtain ⟨a, s, k, rfl, _⟩ := h; rfl
  · obtain ⟨a, s, k, rfl, hs, q⟩ := h
    refine ⟨_, rfl, _, rfl, a, _, rfl, .inl hs, _, _, rfl, rfl, _, rfl, ?_⟩
    rw [List.length_map]
    refine if_dec (fun c => ?_) fun c => ?_
    · have c : k < s.length := by omega
      refine ⟨_, rfl, _, rfl, a, _, _, .int (below s k), rfl, rfl, hs, atI_ivs ?_, q⟩
      unfold below
      rw [List.getD_eq_getElem?_getD, List.getElem?_eq_getElem c]
      rfl
    · refine ⟨_, rfl, a, _, rfl, .inl hs, _, _, rfl, rfl, ?_⟩
      rw [List.length_map]
      have e : below s k = (s.length : Int) + 1 := by
        unfold below
        rw [List.getD_eq_getElem?_getD, List.getElem?_eq_none (by omega)]
        rfl
      rw [e] at q
      exact q
/-! ### gap_between -/
theorem scBw : FnScope ["upper", "lower", "sides_count"] ["upper", "lower", "sides_count"] (defScope sBetween) := ⟨rfl, rfl, rfl, by decide +kernel, rfl, by decide +kernel, by decide +kernel⟩
def spBetween : Sp := fun vs H Q _ => ∃ (x y : Int) (b : Bool), vs = [.int x, .int y, .bl b] ∧ Q (.int (g1 b x y)) H
theorem ok_between {f : Addr} {fd : FuncData} (F : Fun K "gap_between" "gap_between" sBetween f fd) (T : Own mg) : FnOk P w K mg base CX0 1 f fd ["upper", "lower", "sides_count"] spBetween := by
  refine F.ok scBw (fun vs H Q E h => ?_) (fun cdv A outer s H vs Q E hr h => ⟨_, pss_cons (ps_if (pt_truth (pv 2) (by intro _; rfl))
      (pss_one (ps_ret (pe_ifExp (pt_cmpR op_eq (pv 1) (pe_op op_add (pv 0) pe_int) (nomark _)) pe_int pe_int))) pss_nil)
      (pss_one (ps_ret (pe_ifExp (pt_cmpR op_eq (pe_callB call_abs (by rfl) T.abs (by decide +kernel) (pa_cons (pe_op op_sub (pv 1) (pv 0)) pa_nil)) pe_int (nomark _)) pe_int pe_int))), ?_⟩)
  · obtain ⟨x, y, b, rfl, _⟩ := h; rfl
  · obtain ⟨x, y, b, rfl, q⟩ := h
    refine ⟨_, rfl, _, rfl, ?_⟩
    cases b with
    | true =>
      refine ⟨_, rfl, _, rfl, _, _, rfl, rfl, rfl, _, rfl, ?_⟩
      refine if_dec (fun c => ?_) fun c => ?_
      · have c := int_eq c
        have e : g1 true x y = 0 := by simp [g1, Mu28.gap]; omega
        rw [e] at q
        exact q
      · have c := int_ne c
        have e : g1 true x y = 1 := by simp [g1, Mu28.gap]; omega
        rw [e] at q
        exact q
    | false =>
      refine ⟨_, rfl, _, rfl, _, _, rfl, rfl, _, rfl, rfl, _, rfl, ?_⟩
      refine if_dec (fun c => ?_) fun c => ?_
      · have c := int_eq c
        have e : g1 false x y = 0 := by simp [g1, Mu28.gap]; split at c <;> omega
        rw [e] at q
        exact q
      · have c := int_ne c
        have e : g1 false x y = 1 := by simp [g1, Mu28.gap]; split at c <;> omega
        rw [e] at q
        exact q
end
end Pan
namespace Pan
open PySem PySem.Spec PyProof.Rows L2
open PySem.W (Codec)
theorem cut_to (xs : List V) (k : Nat) : cutV xs none (some (k : Int)) = xs.take k := by
  unfold cutV
  rw [HT.sIx_none, HT.sIx_nat, List.drop_zero, Nat.sub_zero, Nat.min_comm]
  exact (List.take_eq_take_min (l := xs) (i := k)) ▸ (by rw [Nat.min_comm])
theorem cut_from (xs : List V) (k : Nat) : cutV xs (some (k : Int)) none = xs.drop k := by
  unfold cutV
  rw [HT.sIx_none, HT.sIx_nat]
  by_cases h : k ≤ xs.length
  · rw [Nat.min_eq_left h, List.take_of_length_le (by simp)]
  · rw [Nat.min_eq_right (by omega), List.drop_of_length_le (by omega), List.drop_of_length_le (by omega)]
    simp
theorem if_tt {A B : Prop} (h : A) : if true = true then A else B := by
  rw [if_pos rfl]
  exact h
theorem same_upd {H H' : Hp} {p : Addr} {o : HO} (s : Same H H') (hp : H p = none) : Same H (upd H' p o) := fun b u h => by
  rw [upd_ne (fun z => by rw [z, hp] at h; cases h)]
  exact s b u h
theorem same_new {H : Hp} {p : Addr} {o : HO} (hp : H p = none) : Same H (upd H p o) := same_upd (Same.refl H) hp
section
variable {P : Program} {w : World} {K : PySem.W.Frag} {mg : Str → Option Value} {base : Heap}
/-! ### flipped -/
theorem scFl : FnScope ["stack", "k", "sides_count", "top", "size"] ["stack", "k", "sides_count"] (defScope sFlipped) := ⟨rfl, rfl, rfl, by decide +kernel, rfl, by decide +kernel, by decide +kernel⟩
def spFlipped : Sp := fun vs H Q _ => ∃ (a : Addr) (s : List Int) (k : Nat) (b : Bool), vs = [.ref a, .int k, .bl b] ∧ H a = some (.lst (ivs s)) ∧ s.length ≤ 100 ∧
  ∀ H' p, Same H H' → H p = none → H' p = some (.lst (ivs (Mu28.flip b k s))) → Q (.ref p) H'
theorem ok_flipped {f : Addr} {fd : FuncData} (F : Fun K "flipped" "flipped" sFlipped f fd) (T : Own mg) (DT : Def P w K mg base 1 "turned" ["size", "sides_count"] spTurned) : FnOk P w K mg base CX0 2 f fd ["stack", "k", "sides_count"] spFlipped := by
  obtain ⟨ft, fdt, mt, kt, bt, Gt⟩ := DT
  refine F.ok scFl (fun vs H Q E h => ?_) (fun cdv A outer s H vs Q E hr h => ⟨_, pss_cons
    (ps_setLc (i := 3) (own := [("size", 4)]) (g := gName 4) (tt := tYes) (by rfl) scFl.nd rfl rfl (sw_true rfl rfl rfl (by decide +kernel)) (pi_reversed (by rfl) T.reversed (pa_cons (pe_slice sl_list (pv 0) po_none (po_some (pv 1))) pa_nil))
      (blkOk_by (own := [("size", 4)]) (N := ["stack", "k", "sides_count", "top", "size"]) (sc := defScope sFlipped) (by decide +kernel)) (fun _ _ _ _ _ => pg_name (i := 4) scFl.nd rfl (Or.inl rfl)) (fun _ _ _ _ _ => pts_nil)
      (fun _ _ _ _ _ => pe_call Gt hr rfl mt kt bt .nil pass0 (pa_cons (pv 4) (pa_cons (pv 2) pa_nil))))
    (pss_one (ps_ret (pe_op op_cat (pv 3) (pe_slice sl_list (pv 0) (po_some (pv 1)) po_none)))), ?_⟩)
  · obtain ⟨a, s, k, b, rfl, _⟩ := h; rfl
  · obtain ⟨a, s, k, b, rfl, hs, hl, q⟩ := h
    refine ⟨_, rfl, _, rfl, _, rfl, a, _, rfl, SqL.of hs, fun p hp => ⟨p, _, rfl, SqL.of upd_same, fun D hD => ?_⟩⟩
    rw [cut_to] at hD ⊢
    have ep : (ivs s).take k = ivs (s.take k) := List.map_take.symm
    rw [ep] at hD ⊢
    have hDp : D ≠ p := fun z => by rw [z, upd_same] at hD; cases hD
    have hHD : H D = none := by rw [upd_ne hDp] at hD; exact hD
    have hpD : p ≠ D := Ne.symm hDp
    refine lc_it (w := walk_rev (K := K) (a := p) (xs := ivs (s.take k))) (fun i H' => Same H H' ∧ H' p = some (.lst (ivs (s.take k))) ∧ H' D = some (.lst (ivs (((s.take k).reverse.map (sg b)).take i)))) ?_ ?_ ?_ ?_
    · exact ⟨same_upd (same_new hp) hHD, (upd_ne hpD).trans upd_same, upd_same⟩
    · exact fun i H' _ h => SqL.of h.2.1
    · rintro i x H2 H3 hi ⟨h1, h2, h3⟩ ⟨rfl, hx⟩
      rw [List.length_map] at hi hx
      have hi' : s.take k = s.take k := rfl
      have ei : (s.take k)[(s.take k).length - 1 - i]? = some ((s.take k)[(s.take k).length - 1 - i]'(by omega)) := List.getElem?_eq_getElem _
      generalize (s.take k)[(s.take k).length - 1 - i]'(by omega) = z at ei
      have ex : x = V.int z := by
        rw [List.getElem?_map, ei] at hx
        exact (Option.some.inj hx).symm
      subst ex
      have er : ((s.take k).reverse.map (sg b))[i]? = some (sg b z) := by
        rw [List.getElem?_map, List.getElem?_reverse hi, ei]
        rfl
      refine ⟨rfl, ?_⟩
      refine ⟨_, rfl, _, rfl, z, b, rfl, _, h3, ?_, ?_⟩
      · refine small1000 ?_
        rw [List.length_map, List.length_take]
        simp
        omega
      · refine ⟨same_upd h1 hHD, (upd_ne hpD).trans h2, ?_⟩
        rw [upd_same, List.take_add_one, er]
        simp
    · rintro H2 ⟨h1, h2, h3⟩
      rw [List.length_map] at h3
      have e3 : ((s.take k).reverse.map (sg b)).take (s.take k).length = (s.take k).reverse.map (sg b) := List.take_of_length_le (by simp)
      rw [e3] at h3
      refine ⟨_, rfl, _, rfl, _, rfl, _, rfl, a, _, rfl, SqL.of (h1 _ _ hs), fun t ht => ?_⟩
      have nD : ∀ {o}, H2 D = some o → D ≠ t := fun e z => by rw [z, ht] at e; cases e
      rw [cut_from]
      have ed : (ivs s).drop k = ivs (s.drop k) := List.map_drop.symm
      rw [ed]
      refine ⟨D, t, _, _, rfl, rfl, (upd_ne (nD h3)).trans h3, upd_same, ?_, fun u hu => ?_⟩
      · refine Nat.le_of_lt (small1000 ?_)
        simp only [List.length_map, List.length_reverse, List.length_take, List.length_drop]
        omega
      · have hut : H t = none := Same.free h1 ht
        have hu2 : H u = none := Same.free (same_upd h1 hut) hu
        refine q _ u (same_upd (same_upd h1 hut) hu2) hu2 ?_
        rw [upd_same, flip_def]
        exact congrArg (fun q => some (HO.lst q)) List.map_append.symm
end
end Pan
namespace Pan
open PySem PySem.Spec PyProof.Rows L2
open PySem.W (Codec)
/-! ### the gaps, summed from the top -/
def gapsTo (b : Bool) (s : List Int) (i : Nat) : Nat := Mu28.gapsOf b ((s ++ [(s.length : Int) + 1]).take (i + 1))
theorem gapsTo_zero (b : Bool) (s : List Int) : gapsTo b s 0 = 0 := by
  unfold gapsTo
  cases s <;> rfl
theorem gapsTo_all (b : Bool) (s : List Int) : gapsTo b s s.length = Mu28.gaps b s := by
  unfold gapsTo Mu28.gaps
  rw [List.take_of_length_le (by simp)]
theorem plated_get {s : List Int} {k : Nat} (hk : k ≤ s.length) : (s ++ [(s.length : Int) + 1])[k]? = some (below s k) := by
  unfold below
  rw [List.getD_eq_getElem?_getD]
  by_cases h : k < s.length
  · rw [List.getElem?_append_left h, List.getElem?_eq_getElem h]; rfl
  · have e : k = s.length := by omega
    subst e
    rw [List.getElem?_append_right (Nat.le_refl _), List.getElem?_eq_none (Nat.le_refl s.length)]
    simp
theorem gapsTo_succ (b : Bool) {s : List Int} {i : Nat} {x : Int} (h : s[i]? = some x) : gapsTo b s (i + 1) = gapsTo b s i + g1 b x (below s (i + 1)) := by
  have hi : i < s.length := (List.getElem?_eq_some_iff.mp h).1
  unfold gapsTo
  have e1 : (s ++ [(s.length : Int) + 1]).take (i + 1) = (s ++ [(s.length : Int) + 1]).take i ++ [x] := by
    rw [List.take_add_one, List.getElem?_append_left hi, h]; rfl
  have e2 : (s ++ [(s.length : Int) + 1]).take (i + 1 + 1) = (s ++ [(s.length : Int) + 1]).take i ++ [x] ++ [below s (i + 1)] := by
    rw [List.take_add_one, plated_get hi, e1]; rfl
  rw [e2, e1, gapsOf_snoc]
theorem below_get {s : List Int} {k : Nat} {z : Int} (h : s[k]? = some z) : below s k = z := by
  unfold below
  rw [List.getD_eq_getElem?_getD, h]
  rfl
theorem ivs_get {s : List Int} {k : Nat} {y : V} (h : (ivs s)[k]? = some y) : ∃ z, s[k]? = some z ∧ y = V.int z := by
  rw [List.getElem?_map] at h
  cases e : s[k]? with
  | none => rw [e] at h; cases h
  | some z => rw [e] at h; exact ⟨z, rfl, (Option.some.inj h).symm⟩
section
variable {P : Program} {w : World} {K : PySem.W.Frag} {mg : Str → Option Value} {base : Heap}
/-! ### gap_count -/
theorem scCo : FnScope ["stack", "sides_count", "gaps", "place", "size"] ["stack", "sides_count"] (defScope sCount) := ⟨rfl, rfl, rfl, by decide +kernel, rfl, by decide +kernel, by decide +kernel⟩
def spCount (K : PySem.W.Frag) : Sp := fun vs H Q _ => ∃ (a : Addr) (s : List Int) (b : Bool), vs = [.ref a, .bl b] ∧ SqL K H a (ivs s) ∧ ∀ H', Same H H' → Q (.int (Mu28.gaps b s)) H'
theorem ok_count {f : Addr} {fd : FuncData} (F : Fun K "gap_count" "gap_count" sCount f fd) (T : Own mg) (DB : Def P w K mg base 1 "gap_between" ["upper", "lower", "sides_count"] spBetween)
    (DL : Def P w K mg base 1 "size_below" ["stack", "k"] (spBelow K)) : FnOk P w K mg base CX0 2 f fd ["stack", "sides_count"] (spCount K) := by
  obtain ⟨fb, fdb, mb, kb, bb, Gb⟩ := DB
  obtain ⟨fl, fdl, ml, kl, bl, Gl⟩ := DL
  refine F.ok scCo (fun vs H Q E h => ?_) (fun cdv A outer s H vs Q E hr h => ⟨_, pss_cons (ps_set (i := 2) scCo.nd rfl (Or.inl rfl) pe_int)
    (pss_cons (ps_for PassesOwn.never rfl (pi_counted (by rfl) T.enumerate (pv 0) pe_int) (pg_tup (by rfl) (pgs_cons (pg_name (i := 3) scCo.nd rfl (Or.inl rfl)) (pgs_cons (pg_name (i := 4) scCo.nd rfl (Or.inl rfl)) pgs_nil)))
      (pss_one (ps_aug (i := 2) scCo.nd rfl (Or.inl rfl) (pe_call Gb hr rfl mb kb bb .nil pass0 (pa_cons (pv 4) (pa_cons (pe_call Gl hr rfl ml kl bl .nil pass0 (pa_cons (pv 0) (pa_cons (pv 3) pa_nil))) (pa_cons (pv 1) pa_nil)))) ip_add)))
    (pss_one (ps_ret (pv 2)))), ?_⟩)
  · obtain ⟨a, s, b, rfl, _⟩ := h; rfl
  · obtain ⟨a, s, b, rfl, hs, q⟩ := h
    refine ⟨_, rfl, a, _, 1, rfl, rfl, by decide, by decide, hs, ?_⟩
    refine for_it (w := walk_counted (K := K) (a := a) (xs := ivs s) (k := 1)) (fun i σ H' => ∃ v3 v4, σ = [some (.ref a), some (.bl b), some (.int (gapsTo b s i)), v3, v4] ∧ Same H H') ?_ ?_ ?_ ?_
    · exact ⟨none, none, by rw [gapsTo_zero]; rfl, Same.refl H⟩
    · rintro i σ H' _ ⟨v3, v4, _, h1⟩
      exact h1.seq hs
    · rintro i x σ H1 H2 hi ⟨v3, v4, rfl, h1⟩ ⟨T', c, y, rfl, hT, rfl, hc, hy⟩
      have hc := Option.some.inj hc
      subst hc
      obtain ⟨z, hz, rfl⟩ := ivs_get hy
      have ec : 1 + (i : Int) = ((i + 1 : Nat) : Int) := by omega
      rw [ec]
      have h2 : Same H (upd H1 T' (.tup [V.int ((i + 1 : Nat) : Int), V.int z])) := same_upd h1 (Same.free h1 hT)
      refine ⟨T', _, rfl, SqT.of upd_same, rfl, _, _, rfl, _, _, rfl, rfl, ?_⟩
      refine ⟨_, rfl, _, rfl, _, rfl, _, rfl, a, s, i + 1, rfl, h2.seq hs, _, rfl, z, _, b, rfl, _, _, rfl, rfl, some (V.int ((i + 1 : Nat) : Int)), some (V.int z), ?_, h2⟩
      rw [gapsTo_succ b hz]
      rfl
    · rintro σ H' ⟨v3, v4, rfl, h1⟩
      rw [List.length_map, gapsTo_all]
      exact ⟨_, rfl, q H' h1⟩
end
end Pan
namespace Pan
open PySem PySem.Spec PyProof.Rows L2
open PySem.W (Codec)
section
variable {P : Program} {w : World} {K : PySem.W.Frag} {mg : Str → Option Value} {base : Heap}
/-! ### gap_change -/
theorem scCh : FnScope ["stack", "k", "sides_count", "lower", "before", "after"] ["stack", "k", "sides_count"] (defScope sChange) := ⟨rfl, rfl, rfl, by decide +kernel, rfl, by decide +kernel, by decide +kernel⟩
def spChange (K : PySem.W.Frag) : Sp := fun vs H Q _ => ∃ (a : Addr) (s : List Int) (k : Nat) (b : Bool), vs = [.ref a, .int k, .bl b] ∧ SqL K H a (ivs s) ∧ 1 ≤ k ∧ k ≤ s.length ∧ Q (.int ((Mu28.gaps b (Mu28.flip b k s) : Int) - Mu28.gaps b s)) H
theorem ok_change {f : Addr} {fd : FuncData} (F : Fun K "gap_change" "gap_change" sChange f fd) (DT : Def P w K mg base 1 "turned" ["size", "sides_count"] spTurned) (DB : Def P w K mg base 1 "gap_between" ["upper", "lower", "sides_count"] spBetween)
    (DL : Def P w K mg base 1 "size_below" ["stack", "k"] (spBelow K)) : FnOk P w K mg base CX0 2 f fd ["stack", "k", "sides_count"] (spChange K) := by
  obtain ⟨ft, fdt, mt, kt, bt, Gt⟩ := DT
  obtain ⟨fb, fdb, mb, kb, bb, Gb⟩ := DB
  obtain ⟨fl, fdl, ml, kl, bl, Gl⟩ := DL
  refine F.ok scCh (fun vs H Q E h => ?_) (fun cdv A outer s H vs Q E hr h => ⟨_, pss_cons (ps_set (i := 3) scCh.nd rfl (Or.inl rfl) (pe_call Gl hr rfl ml kl bl .nil pass0 (pa_cons (pv 0) (pa_cons (pv 1) pa_nil))))
    (pss_cons (ps_set (i := 4) scCh.nd rfl (Or.inl rfl) (pe_call Gb hr rfl mb kb bb .nil pass0 (pa_cons (pe_ix ix_list (pv 0) (pe_op op_sub (pv 1) pe_int) (fun _ _ => rfl)) (pa_cons (pv 3) (pa_cons (pv 2) pa_nil)))))
    (pss_cons (ps_set (i := 5) scCh.nd rfl (Or.inl rfl) (pe_call Gb hr rfl mb kb bb .nil pass0 (pa_cons (pe_call Gt hr rfl mt kt bt .nil pass0 (pa_cons (pe_ix ix_list (pv 0) pe_int (fun _ _ => rfl)) (pa_cons (pv 2) pa_nil))) (pa_cons (pv 3) (pa_cons (pv 2) pa_nil)))))
    (pss_one (ps_ret (pe_op op_sub (pv 5) (pv 4)))))), ?_⟩)
  · obtain ⟨a, s, k, b, rfl, _⟩ := h; rfl
  · obtain ⟨a, s, k, b, rfl, hs, h1, h2, q⟩ := h
    have e0 : s[0]? = some s[0] := List.getElem?_eq_getElem (by omega)
    have e1 : s[k - 1]? = some s[k - 1] := List.getElem?_eq_getElem (by omega)
    have ek : (k : Int) - 1 = ((k - 1 : Nat) : Int) := by omega
    refine ⟨_, rfl, _, rfl, a, s, k, rfl, hs, ?_⟩
    refine ⟨_, rfl, _, rfl, _, _, rfl, rfl, a, _, _, .int s[k - 1], rfl, rfl, hs, (by rw [ek]; exact atI_ivs e1), _, rfl, _, rfl, s[k - 1], below s k, b, rfl, ?_⟩
    refine ⟨_, rfl, a, _, _, .int s[0], rfl, rfl, hs, (atI_ivs (k := 0) e0), _, rfl, s[0], b, rfl, _, rfl, _, rfl, _, below s k, b, rfl, ?_⟩
    refine ⟨_, rfl, _, rfl, _, _, rfl, rfl, ?_⟩
    have g := gaps_flip b h1 h2 e0 e1
    have e : ((g1 b (sg b s[0]) (below s k) : Nat) : Int) - (g1 b s[k - 1] (below s k) : Nat) = (Mu28.gaps b (Mu28.flip b k s) : Int) - Mu28.gaps b s := by omega
    rw [← e] at q
    exact q
end
end Pan
namespace Pan
open PySem PySem.Spec PyProof.Rows L2
open PySem.W (Codec)
abbrev sFewest : Stmt := top 11
abbrev sWithin : Stmt := top 12
abbrev sLeast : Stmt := top 13
abbrev sUsual : Stmt := top 14
abbrev sPlace : Stmt := top 15
/-! ### the flips that are tried, in their order -/
def lo (b : Bool) : Nat := if b = true then 1 else 2
theorem lo_pos (b : Bool) : 1 ≤ lo b := by cases b <;> decide
theorem ways_range (b : Bool) : ∀ n, Mu28.ways b n = List.range' (lo b) (n + 1 - lo b)
  | 0 => by cases b <;> rfl
  | n + 1 => by
    have ih := ways_range b n
    unfold Mu28.ways at ih ⊢
    rw [List.range_succ, List.filter_append, ih]
    by_cases h : lo b ≤ n + 1
    · have e : n + 1 + 1 - lo b = (n + 1 - lo b) + 1 := by omega
      rw [e, List.range'_concat]
      have e2 : lo b + 1 * (n + 1 - lo b) = n + 1 := by omega
      have h' : (if b = true then 1 else 2) ≤ n + 1 := h
      rw [e2]
      simp [h']
    · have e : n + 1 + 1 - lo b = n + 1 - lo b := by omega
      rw [e]
      have h' : ¬ (if b = true then 1 else 2) ≤ n + 1 := h
      simp
      simpa using h'
/-- what is found behind the flip k -/
def behind (b : Bool) (len : Nat) (s : List Int) (k : Nat) : Option (List Nat) := if Mu28.gaps b (Mu28.flip b k s) < len then (rw1 b (len - 1) (Mu28.flip b k s)).map (fun l => k :: l) else none
theorem rw1_is (b : Bool) (len : Nat) (s : List Int) : rw1 b len s = if Mu28.gaps b s = 0 then some [] else (Mu28.ways b s.length).findSome? (behind b len s) := by
  cases len with
  | zero =>
    unfold rw1
    by_cases h : Mu28.gaps b s = 0
    · rw [if_pos h, if_pos h]
    · rw [if_neg h, if_neg h]
      symm
      rw [List.findSome?_eq_none_iff]
      intro k _
      unfold behind
      rw [if_neg (by omega)]
  | succ m => rfl
theorem findSome_range' {α : Type} {f : Nat → Option α} {a n i : Nat} {r : α} (hi : i < n) (h : ∀ j, j < i → f (a + j) = none) (hr : f (a + i) = some r) : (List.range' a n).findSome? f = some r := by
  have e : List.range' a n = List.range' a i ++ (a + i) :: List.range' (a + i + 1) (n - i - 1) := by
    have : n = i + ((n - i - 1) + 1) := by omega
    rw [this, List.range'_append_1.symm, List.range'_succ]
    congr 2
    congr 1
    omega
  rw [e, List.findSome?_append]
  have z : (List.range' a i).findSome? f = none := by
    rw [List.findSome?_eq_none_iff]
    intro x hx
    rw [List.mem_range'_1] at hx
    have := h (x - a) (by omega)
    have e : a + (x - a) = x := by omega
    rw [e] at this
    exact this
  rw [z, List.findSome?_cons, hr]
  rfl
theorem findSome_range'_none {α : Type} {f : Nat → Option α} {a n : Nat} (h : ∀ j, j < n → f (a + j) = none) : (List.range' a n).findSome? f = none := by
  rw [List.findSome?_eq_none_iff]
  intro x hx
  rw [List.mem_range'_1] at hx
  have := h (x - a) (by omega)
  have e : a + (x - a) = x := by omega
  rw [e] at this
  exact this
abbrev nvs (l : List Nat) : List V := l.map fun n => V.int (n : Nat)
theorem rw1_short {b : Bool} : ∀ {len : Nat} {s : List Int} {l : List Nat}, rw1 b len s = some l → l.length ≤ len
  | 0, s, l, h => by
    unfold rw1 at h
    by_cases c : Mu28.gaps b s = 0
    · rw [if_pos c] at h; cases h; exact Nat.le_refl _
    · rw [if_neg c] at h; cases h
  | m + 1, s, l, h => by
    unfold rw1 at h
    by_cases c : Mu28.gaps b s = 0
    · rw [if_pos c] at h; cases h; exact Nat.zero_le _
    · rw [if_neg c] at h
      obtain ⟨k, _, h2⟩ := List.exists_of_findSome?_eq_some h
      split at h2
      · rw [Option.map_eq_some_iff] at h2
        obtain ⟨r, hr, rfl⟩ := h2
        have := rw1_short hr
        simp
        omega
      · cases h2
theorem if_ndec_t {p : Prop} [Decidable p] {A B : Prop} (h : p) (x : B) : if (!decide p) = true then A else B := by
  rw [if_neg (by simp [h])]; exact x
theorem if_ndec_f {p : Prop} [Decidable p] {A B : Prop} (h : ¬ p) (x : A) : if (!decide p) = true then A else B := by
  rw [if_pos (by simp [h])]; exact x
section
variable {P : Program} {w : World} {K : PySem.W.Frag} {mg : Str → Option Value} {base : Heap}
/-! ### least_flip -/
theorem scLe : FnScope ["sides_count"] ["sides_count"] (defScope sLeast) := ⟨rfl, rfl, rfl, by decide +kernel, rfl, by decide +kernel, by decide +kernel⟩
def spLeast : Sp := fun vs H Q _ => ∃ b : Bool, vs = [.bl b] ∧ Q (.int (lo b : Nat)) H
theorem ok_least {f : Addr} {fd : FuncData} (F : Fun K "least_flip" "least_flip" sLeast f fd) : FnOk P w K mg base CX0 1 f fd ["sides_count"] spLeast := by
  refine F.ok scLe (fun vs H Q E h => ?_) (fun cdv A outer s H vs Q E hr h => ⟨_, pss_one (ps_ret (pe_ifExp (pt_truth (pv 0) (by intro _; rfl)) pe_int pe_int)), ?_⟩)
  · obtain ⟨b, rfl, _⟩ := h; rfl
  · obtain ⟨b, rfl, q⟩ := h
    refine ⟨_, rfl, _, rfl, ?_⟩
    cases b with
    | true => exact q
    | false => exact q
/-! ### row_within -/
theorem scWi : FnScope ["stack", "sides_count", "gaps", "length", "flip_before", "k", "gaps_left", "rest"] ["stack", "sides_count", "gaps", "length", "flip_before"] (defScope sWithin) := ⟨rfl, rfl, rfl, by decide +kernel, rfl, by decide +kernel, by decide +kernel⟩
/-- for lengths below m -/
def spWithin (m : Nat) : Sp := fun vs H Q _ => ∃ (a : Addr) (s : List Int) (b : Bool) (len prev : Nat), vs = [.ref a, .bl b, .int (Mu28.gaps b s : Nat), .int len, .int prev] ∧ H a = some (.lst (ivs s)) ∧ 1 ≤ s.length ∧ s.length ≤ 100 ∧ len < m ∧ m ≤ 100 ∧ Valid b s ∧ Far b len s ∧ Far b len (Mu28.flip b prev s) ∧
  (rw1 b len s = none → ∀ H', Same H H' → Q .non H') ∧ (∀ l, rw1 b len s = some l → ∀ H' p, Same H H' → H p = none → H' p = some (.lst (nvs l)) → Q (.ref p) H')
structure Rows (P : Program) (w : World) (K : PySem.W.Frag) (mg : Str → Option Value) (base : Heap) : Prop where
  least : Def P w K mg base 1 "least_flip" ["sides_count"] spLeast
  change : Def P w K mg base 2 "gap_change" ["stack", "k", "sides_count"] (spChange K)
  flipped : Def P w K mg base 2 "flipped" ["stack", "k", "sides_count"] spFlipped
theorem ok_within {f : Addr} {fd : FuncData} (F : Fun K "row_within" "row_within" sWithin f fd) (T : Own mg) (R : Rows P w K mg base) (mw : mg "row_within" = some (.ref f)) (bw : Binds K fd ["stack", "sides_count", "gaps", "length", "flip_before"] []) :
    ∀ m, FnOk P w K mg base CX0 (m + 2) f fd ["stack", "sides_count", "gaps", "length", "flip_before"] (spWithin m)
  | 0 => ⟨fun vs H Q E h => by obtain ⟨_, _, _, _, _, _, _, _, _, z, _⟩ := h; omega, fun A outer s H args us vs Q E _ _ _ _ h => by obtain ⟨_, _, _, _, _, _, _, _, _, z, _⟩ := h; omega⟩
  | m + 1 => by
    have G := ok_within F T R mw bw m
    obtain ⟨fl, fdl, ml, kl, bl, Gl⟩ := R.least
    obtain ⟨fc, fdc, mc, kc, bc, Gc⟩ := R.change
    obtain ⟨ff, fdf, mf, kf, bf, Gf⟩ := R.flipped
    refine F.ok scWi (fun vs H Q E h => ?_) (fun cdv A outer s H vs Q E hr h => ⟨_, pss_cons
      (ps_if (pt_cmpR op_eq (pv 2) pe_int (nomark _)) (pss_one (ps_ret (pe_lst pa_nil))) pss_nil)
      (pss_cons (ps_for PassesOwn.never rfl (pi_range2 (by rfl) T.range (pa_cons (pe_call Gl (hr.mono (by omega)) rfl ml kl bl .nil pass0 (pa_cons (pv 1) pa_nil)) (pa_cons (pe_op op_add (pe_callB call_len_seq (by rfl) T.len PySem.boot_len (pa_cons (pv 0) pa_nil)) pe_int) pa_nil)))
          (pg_name (i := 5) scWi.nd rfl (Or.inl rfl))
          (pss_cons (ps_set (i := 6) scWi.nd rfl (Or.inl rfl) (pe_op op_add (pv 2) (pe_call Gc (hr.mono (by omega)) rfl mc kc bc .nil pass0 (pa_cons (pv 0) (pa_cons (pv 5) (pa_cons (pv 1) pa_nil))))))
            (pss_one (ps_if (PW.pt (pw_and (pt_cmpR op_lt (pv 6) (pv 3) (nomark _)) (pw_and1 (pt_cmpR op_ne (pv 5) (pv 4) (nomark _)))))
              (pss_cons (ps_set (i := 7) scWi.nd rfl (Or.inl rfl) (pe_call G hr rfl mw F.kp bw .nil pass0 (pa_cons (pe_call Gf (hr.mono (by omega)) rfl mf kf bf .nil pass0 (pa_cons (pv 0) (pa_cons (pv 5) (pa_cons (pv 1) pa_nil)))) (pa_cons (pv 1) (pa_cons (pv 6) (pa_cons (pe_op op_sub (pv 3) pe_int) (pa_cons (pv 5) pa_nil)))))))
                (pss_one (ps_if (pt_cmpR op_notN (pv 7) pe_non (nomark _)) (pss_one (ps_ret (pe_op op_cat (pe_lst (pa_cons (pv 5) pa_nil)) (pv 7)))) pss_nil)))
              pss_nil))))
        (pss_one (ps_ret pe_non))), ?_⟩)
    · obtain ⟨a, s, b, len, prev, rfl, _⟩ := h; rfl
    · obtain ⟨a, s, b, len, prev, rfl, hs, s1, s2, hm, hm2, hV, hF, hP, q1, q2⟩ := h
      refine ⟨_, rfl, rfl, _, rfl, if_dec (fun c => ?_) fun c => ?_⟩
      · have c := int_eq c
        have g0 : Mu28.gaps b s = 0 := by omega
        refine ⟨by decide, fun p hp => q2 [] ?_ _ p (same_new hp) hp upd_same⟩
        rw [rw1_is, if_pos g0]
      · have c := int_ne c
        have g0 : Mu28.gaps b s ≠ 0 := by omega
        refine ⟨_, rfl, b, rfl, _, rfl, a, _, rfl, .inl (SqL.of hs), _, _, rfl, rfl, _, _, rfl, ?_, ?_⟩
        · rw [List.length_map]
          have := lo_pos b
          have : lo b ≤ 2 := by cases b <;> decide
          refine ⟨?_, ?_, ?_, ?_⟩ <;> omega
        · refine for_range (fun i σ H' => ∃ v4 v5 v6, σ = [some (.ref a), some (.bl b), some (.int (Mu28.gaps b s : Nat)), some (.int len), some (.int prev), v4, v5, v6] ∧ Same H H' ∧ ∀ j, j < i → behind b len s (lo b + j) = none) ?_ ?_ ?_
          · exact ⟨none, none, none, rfl, Same.refl H, fun j hj => by omega⟩
          · rintro i σ H' hi ⟨v4, v5, v6, rfl, h1, hn⟩
            rw [List.length_map] at hi
            have hk : (lo b : Int) + (i : Nat) = ((lo b + i : Nat) : Int) := by omega
            have k1 : 1 ≤ lo b + i := by have := lo_pos b; omega
            have k2 : lo b + i ≤ s.length := by omega
            rw [hk]
            have hn2 : behind b len s (lo b + i) = none → ∀ j, j < i + 1 → behind b len s (lo b + j) = none := fun e j hj => by
              by_cases z : j = i
              · rw [z]; exact e
              · exact hn j (by omega)
            have hf : ∀ r, behind b len s (lo b + i) = some r → rw1 b len s = some r := fun r e => by
              rw [rw1_is, if_neg g0, ways_range]
              exact findSome_range' (by omega) hn e
            have kw : lo b + i ∈ Mu28.ways b s.length := by
              rw [ways_mem]
              exact ⟨k2, Nat.le_add_right _ _⟩
            clear hn hk hi
            generalize lo b + i = k at hn2 hf k1 k2 kw ⊢
            refine ⟨_, rfl, _, rfl, _, rfl, _, rfl, a, s, k, b, rfl, h1.seq (SqL.of hs), k1, k2, ?_⟩
            refine ⟨_, _, rfl, rfl, ?_⟩
            have hg : ((Mu28.gaps b s : Nat) : Int) + (((Mu28.gaps b (Mu28.flip b k s) : Nat) : Int) - (Mu28.gaps b s : Nat)) = (Mu28.gaps b (Mu28.flip b k s) : Nat) := by omega
            dsimp only
            rw [hg]
            refine ⟨_, rfl, _, rfl, _, _, rfl, rfl, _, rfl, if_dec (fun c => ?_) fun c => ?_⟩
            · have c : Mu28.gaps b (Mu28.flip b k s) < len := by omega
              refine ⟨_, rfl, _, rfl, rfl, _, rfl, ?_⟩
              by_cases cp : k = prev
              · refine if_ndec_t (by rw [cp]) ⟨_, _, _, rfl, h1, hn2 ?_⟩
                unfold behind
                rw [if_pos c, cp, Far.rw1 (hV.flip prev) (by
                  have e : len - 1 + 1 = len := by omega
                  rw [e]
                  exact hP)]
                rfl
              refine if_ndec_f (fun z => cp (by have := int_eq z; omega)) ?_
              have e1 : ((len : Nat) : Int) - 1 = ((len - 1 : Nat) : Int) := by omega
              refine ⟨_, rfl, _, rfl, _, rfl, a, s, k, b, rfl, h1 _ _ hs, s2, fun H2 p2 sm2 np2 hp2 => ?_⟩
              refine ⟨_, rfl, _, rfl, _, rfl, _, _, rfl, rfl, _, rfl, p2, Mu28.flip b k s, b, len - 1, k, by rw [← e1]; rfl, hp2, by rw [flip_len]; exact s1, by rw [flip_len]; exact s2, by omega, by omega, hV.flip k, hF.flip kw, hF.back k2, fun e H3 sm3 => ?_, fun l e H3 p3 sm3 np3 hp3 => ?_⟩
              · refine ⟨_, rfl, rfl, _, rfl, if_ndec_t rfl ⟨_, _, _, rfl, (h1.trans sm2).trans sm3, hn2 ?_⟩⟩
                unfold behind
                rw [if_pos c, e]
                rfl
              · refine ⟨_, rfl, rfl, _, rfl, if_ndec_f (fun z => by cases z) ⟨_, rfl, (by show 1 ≤ sizeLine; decide), fun p4 hp4 => ?_⟩⟩
                have sm : Same H H3 := (h1.trans sm2).trans sm3
                have hp34 : p3 ≠ p4 := fun z => by rw [z, hp4] at hp3; cases hp3
                have hlen := rw1_short e
                refine ⟨_, rfl, p4, p3, _, _, rfl, rfl, upd_same, (upd_ne hp34).trans hp3, ?_, fun p5 hp5 => ?_⟩
                · refine Nat.le_of_lt (small1000 ?_)
                  rw [List.length_map]
                  show 1 + l.length ≤ 1000
                  omega
                · have sm4 : Same H (upd H3 p4 (.lst [V.int (k : Nat)])) := same_upd sm (Same.free sm hp4)
                  have np5 := Same.free sm4 hp5
                  refine q2 (k :: l) (hf _ ?_) _ p5 (same_upd sm4 np5) np5 upd_same
                  unfold behind
                  rw [if_pos c, e]
                  rfl
            · have c : ¬ Mu28.gaps b (Mu28.flip b k s) < len := by omega
              refine ⟨_, _, _, rfl, h1, hn2 ?_⟩
              unfold behind
              rw [if_neg c]
          · rintro σ H' ⟨v4, v5, v6, rfl, h1, hn⟩
            refine q1 ?_ H' h1
            rw [rw1_is, if_neg g0, ways_range]
            refine findSome_range'_none fun j hj => hn j ?_
            rw [List.length_map]
            omega
end
end Pan
namespace Pan
open PySem PySem.Spec PyProof.Rows L2
open PySem.W (Codec)
section
variable {P : Program} {w : World} {K : PySem.W.Frag} {mg : Str → Option Value} {base : Heap}
/-! ### fewest_row -/
theorem scFw : FnScope ["stack", "sides_count", "gaps", "length", "row"] ["stack", "sides_count"] (defScope sFewest) := ⟨rfl, rfl, rfl, by decide +kernel, rfl, by decide +kernel, by decide +kernel⟩
def spFewest : Sp := fun vs H Q _ => ∃ (a : Addr) (s : List Int) (b : Bool), vs = [.ref a, .bl b] ∧ H a = some (.lst (ivs s)) ∧ Valid b s ∧ 1 ≤ s.length ∧ s.length ≤ most b ∧
  ∀ m l, Least b s m l → ∀ H' p, Same H H' → H p = none → H' p = some (.lst (nvs l)) → Q (.ref p) H'
theorem ok_fewest {f : Addr} {fd : FuncData} (F : Fun K "fewest_row" "fewest_row" sFewest f fd) (DC : Def P w K mg base 2 "gap_count" ["stack", "sides_count"] (spCount K))
    (DW : Def P w K mg base 21 "row_within" ["stack", "sides_count", "gaps", "length", "flip_before"] (spWithin 19)) : FnOk P w K mg base CX0 22 f fd ["stack", "sides_count"] spFewest := by
  obtain ⟨fc, fdc, mc, kc, bc, Gc⟩ := DC
  obtain ⟨fw, fdw, mw, kw, bw, Gw⟩ := DW
  refine F.ok scFw (fun vs H Q E h => ?_) (fun cdv A outer s H vs Q E hr h => ⟨_, pss_cons (ps_set (i := 2) scFw.nd rfl (Or.inl rfl) (pe_call Gc (hr.mono (by decide)) rfl mc kc bc .nil pass0 (pa_cons (pv 0) (pa_cons (pv 1) pa_nil))))
    (pss_cons (ps_set (i := 3) scFw.nd rfl (Or.inl rfl) (pv 2))
    (pss_cons (ps_set (i := 4) scFw.nd rfl (Or.inl rfl) (pe_call Gw hr rfl mw kw bw .nil pass0 (pa_cons (pv 0) (pa_cons (pv 1) (pa_cons (pv 2) (pa_cons (pv 3) (pa_cons pe_int pa_nil)))))))
    (pss_cons (ps_while PassesOwn.never (pt_cmpR op_isN (pv 4) pe_non (nomark _))
      (pss_cons (ps_aug (i := 3) scFw.nd rfl (Or.inl rfl) pe_int ip_add)
        (pss_one (ps_set (i := 4) scFw.nd rfl (Or.inl rfl) (pe_call Gw hr rfl mw kw bw .nil pass0 (pa_cons (pv 0) (pa_cons (pv 1) (pa_cons (pv 2) (pa_cons (pv 3) (pa_cons pe_int pa_nil))))))))))
    (pss_one (ps_ret (pv 4)))))), ?_⟩)
  · obtain ⟨a, s, b, rfl, _⟩ := h; rfl
  · obtain ⟨a, s, b, rfl, hs, hV, s1, s2, q⟩ := h
    obtain ⟨mm, l, L⟩ := least hV s2
    have q := q mm l L
    have hg := L.gaps_le
    have h18 := L.small
    have h100 : s.length ≤ 100 := Nat.le_trans s2 (Nat.le_trans (most_le b) (by decide))
    refine ⟨_, rfl, _, rfl, a, s, b, rfl, SqL.of hs, fun H1 sm1 => ⟨_, rfl, ?_⟩⟩
    -- behind a search of j flips: nothing yet, or the row
    have W : ∃ W : Nat → L2.St → Hp → Prop, W = fun n σ H' => ∃ (j : Nat) (x : V), n = mm - j ∧ j ≤ mm ∧ σ = [some (.ref a), some (.bl b), some (.int (Mu28.gaps b s : Nat)), some (.int (j : Nat)), some x] ∧ Same H H' ∧
      ((x = .non ∧ j < mm) ∨ (∃ p, x = .ref p ∧ H p = none ∧ H' p = some (.lst (nvs l)))) := ⟨_, rfl⟩
    obtain ⟨W, hW⟩ := W
    have far : ∀ j : Nat, j ≤ mm → Far b j s ∧ Far b j (Mu28.flip b 0 s) := fun j hj => by
      rw [flip_zero]
      exact ⟨L.far.mono hj, L.far.mono hj⟩
    have out : ∀ (j : Nat) (l' : List Nat), j ≤ mm → rw1 b j s = some l' → l' = l := by
      intro j l' h1 h2
      by_cases c : j < mm
      · rw [L.rw1_none hV c] at h2; cases h2
      · have : j = mm := by omega
        rw [this, L.rw1_some hV] at h2
        exact (Option.some.inj h2).symm
    have not : ∀ j : Nat, j ≤ mm → rw1 b j s = none → j < mm := by
      intro j h1 h2
      by_cases c : j < mm
      · exact c
      · have : j = mm := by omega
        rw [this, L.rw1_some hV] at h2
        cases h2
    refine ⟨_, rfl, _, rfl, _, rfl, _, rfl, a, s, b, Mu28.gaps b s, 0, rfl, sm1 _ _ hs, s1, h100, by omega, by decide, hV, (far _ hg).1, (far _ hg).2, fun e H2 sm2 => ⟨W, ⟨mm - Mu28.gaps b s, ?_⟩, ?_⟩, fun l' e H2 p2 sm2 np2 hp2 => ⟨W, ⟨mm - Mu28.gaps b s, ?_⟩, ?_⟩⟩
    · rw [hW]
      exact ⟨Mu28.gaps b s, .non, rfl, hg, rfl, sm1.trans sm2, .inl ⟨rfl, not _ hg e⟩⟩
    rotate_left
    · rw [hW]
      rw [out _ _ hg e] at hp2
      exact ⟨Mu28.gaps b s, .ref p2, rfl, hg, rfl, sm1.trans sm2, .inr ⟨p2, rfl, Same.free sm1 np2, hp2⟩⟩
    all_goals
      subst hW
      rintro n σ H3 ⟨j, x, rfl, hj, rfl, sm3, hx⟩
      rcases hx with ⟨rfl, hjm⟩ | ⟨p, rfl, np, hp⟩
      · refine ⟨_, rfl, rfl, _, rfl, if_dec (fun _ => ⟨fun σ' H' => ∃ x : V, σ' = [some (.ref a), some (.bl b), some (.int (Mu28.gaps b s : Nat)), some (.int ((j + 1 : Nat) : Int)), some x] ∧ Same H H' ∧
            ((x = .non ∧ j + 1 < mm) ∨ (∃ p, x = .ref p ∧ H p = none ∧ H' p = some (.lst (nvs l)))), fun σ' H' ⟨x, h1, h2, h3⟩ => ⟨mm - (j + 1), by omega, j + 1, x, rfl, by omega, h1, h2, h3⟩, ?_⟩) fun c => absurd rfl c⟩
        refine ⟨_, rfl, _, _, rfl, rfl, ?_⟩
        refine ⟨_, rfl, _, rfl, _, rfl, _, rfl, a, s, b, j + 1, 0, rfl, sm3 _ _ hs, s1, h100, by omega, by decide, hV, (far _ (by omega)).1, (far _ (by omega)).2, fun e H4 sm4 => ?_, fun l' e H4 p4 sm4 np4 hp4 => ?_⟩
        · exact ⟨.non, rfl, sm3.trans sm4, .inl ⟨rfl, not _ (by omega) e⟩⟩
        · rw [out _ _ (by omega) e] at hp4
          exact ⟨.ref p4, rfl, sm3.trans sm4, .inr ⟨p4, rfl, Same.free sm3 np4, hp4⟩⟩
      · exact ⟨_, rfl, rfl, _, rfl, if_dec (fun c => by cases c) fun _ => ⟨_, rfl, q H3 p sm3 np hp⟩⟩
end
end Pan
namespace Pan
open PySem PySem.Spec PyProof.Rows L2
open PySem.W (Codec)
theorem abs_if (z : Int) : (if z < 0 then -z else z) = (z.natAbs : Int) := by split <;> omega
theorem nvs_snoc (u : List Nat) (v : Nat) : nvs u ++ [V.int (v : Nat)] = nvs (u ++ [v]) :=
  (List.map_append (l₁ := u) (l₂ := [v]) (f := fun n => V.int (n : Nat))).symm
abbrev avs (s : List Int) : List V := s.map fun z => V.int (z.natAbs : Nat)
theorem avs_get {s : List Int} {k : Nat} {y : V} (h : (avs s)[k]? = some y) : ∃ z, s[k]? = some z ∧ y = V.int (z.natAbs : Nat) := by
  rw [List.getElem?_map] at h
  cases e : s[k]? with
  | none => rw [e] at h; cases h
  | some z => rw [e] at h; exact ⟨z, rfl, (Option.some.inj h).symm⟩
section
variable {P : Program} {w : World} {K : PySem.W.Frag} {mg : Str → Option Value} {base : Heap}
/-! ### flips_to_its_place -/
theorem scPl : FnScope ["stack", "size", "sides_count", "flips", "place", "other"] ["stack", "size", "sides_count"] (defScope sPlace) := ⟨rfl, rfl, rfl, by decide +kernel, rfl, by decide +kernel, by decide +kernel⟩
def spPlace : Sp := fun vs H Q _ => ∃ (a : Addr) (s : List Int) (v : Nat) (b : Bool), vs = [.ref a, .int v, .bl b] ∧ H a = some (.lst (ivs s)) ∧ Valid b s ∧ 1 ≤ v ∧ v ≤ s.length ∧ s.length ≤ 100 ∧
  ∀ H' p, Same H H' → H p = none → H' p = some (.lst (nvs (toPlace b v s))) → Q (.ref p) H'
theorem ok_place {f : Addr} {fd : FuncData} (F : Fun K "flips_to_its_place" "flips_to_its_place" sPlace f fd) (T : Own mg) (DF : Def P w K mg base 2 "flipped" ["stack", "k", "sides_count"] spFlipped) :
    FnOk P w K mg base CX0 3 f fd ["stack", "size", "sides_count"] spPlace := by
  obtain ⟨ff, fdf, mf, kf, bf, Gf⟩ := DF
  refine F.ok scPl (fun vs H Q E h => ?_) (fun cdv A outer s H vs Q E hr h => ⟨_, pss_cons
    (ps_if (pt_cmpR op_eq (pe_ix ix_list (pv 0) (pe_op op_sub (pv 1) pe_int) (fun _ _ => rfl)) (pv 1) (nomark _)) (pss_one (ps_ret (pe_lst pa_nil))) pss_nil)
    (pss_cons (ps_set (i := 3) scPl.nd rfl (Or.inl rfl) (pe_lst pa_nil))
    (pss_cons (ps_set (i := 4) scPl.nd rfl (Or.inl rfl) (pe_op op_add (pe_bm PySem.F.plainAttrs_list PySem.F.slot_list_index PySem.F.type_list_index mt_index
        (pe_lc (own := [("other", 5)]) (g := gName 5) (tt := tYes) (by rfl) scPl.nd (pi_list (pv 0)) (blkOk_by (own := [("other", 5)]) (N := ["stack", "size", "sides_count", "flips", "place", "other"]) (sc := defScope sPlace) (by decide +kernel))
          (fun _ _ _ _ _ => pg_name (i := 5) scPl.nd rfl (Or.inl rfl)) (fun _ _ _ _ _ => pts_nil) (fun _ _ _ _ _ => pe_callB call_abs (by rfl) T.abs (by decide +kernel) (pa_cons (pv 5) pa_nil)))
        (pa_cons (pv 1) pa_nil)) pe_int))
    (C8.pss_cut (ps_if (pt_cmpR op_gt (pv 4) pe_int (nomark _))
      (pss_cons (ps_expr (pe_bm PySem.F.plainAttrs_list PySem.F.slot_list_append PySem.F.type_list_append mt_append (pv 3) (pa_cons (pv 4) pa_nil)))
        (pss_one (ps_set (i := 0) scPl.nd rfl (Or.inl rfl) (pe_call Gf hr rfl mf kf bf .nil pass0 (pa_cons (pv 0) (pa_cons (pv 4) (pa_cons (pv 2) pa_nil))))))) pss_nil)
    (C8.pss_cut (ps_if (PW.pt (pw_and (pt_truth (pv 2) (by intro _; rfl)) (pw_and1 (pt_cmpR op_gt (pe_ix ix_list (pv 0) pe_int (fun _ _ => rfl)) pe_int (nomark _)))))
      (pss_one (ps_expr (pe_bm PySem.F.plainAttrs_list PySem.F.slot_list_append PySem.F.type_list_append mt_append (pv 3) (pa_cons pe_int pa_nil)))) pss_nil)
    (pss_one (ps_ret (pe_op op_cat (pv 3) (pe_lst (pa_cons (pv 1) pa_nil))))))))), ?_⟩)
  · obtain ⟨a, s, v, b, rfl, _⟩ := h; rfl
  · obtain ⟨a, s, v, b, rfl, hs, hV, v1, v2, s2, q⟩ := h
    have ev : (v : Int) - 1 = ((v - 1 : Nat) : Int) := by omega
    have e1 : s[v - 1]? = some s[v - 1] := List.getElem?_eq_getElem (by omega)
    refine ⟨_, rfl, _, rfl, _, _, rfl, rfl, a, _, _, .int s[v - 1], rfl, rfl, SqL.of hs, (by rw [ev]; exact atI_ivs e1), _, rfl, rfl, _, rfl, if_dec (fun c => ?_) fun c => ?_⟩
    · have c := int_eq c
      refine ⟨by decide, fun p hp => q _ p (same_new hp) hp ?_⟩
      rw [upd_same]
      have : toPlace b v s = [] := by unfold toPlace; rw [if_pos (by rw [e1, c])]
      rw [this]
      rfl
    · have c := int_ne c
      refine ⟨by decide, fun fl hfl => ?_⟩
      have sm0 : Same H (upd H fl (.lst [])) := same_new hfl
      have haf : a ≠ fl := fun z => by rw [z, hfl] at hs; cases hs
      refine ⟨_, rfl, a, rfl, ⟨_, SqL.of ((upd_ne haf).trans hs)⟩, fun D hD => ?_⟩
      have hDf : fl ≠ D := fun z => by rw [← z, upd_same] at hD; cases hD
      have hHD : H D = none := by rw [upd_ne (Ne.symm hDf)] at hD; exact hD
      refine lc_it (w := walk_list (K := K) (a := a) (xs := ivs s)) (fun i H' => Same H H' ∧ H' fl = some (.lst (nvs [])) ∧ H' D = some (.lst (avs (s.take i)))) ?_ ?_ ?_ ?_
      · exact ⟨same_upd sm0 hHD, (upd_ne hDf).trans upd_same, upd_same⟩
      · exact fun i H' _ h => h.1.seq (SqL.of hs)
      · rintro i x H2 H3 hi ⟨h1, h2, h3⟩ ⟨rfl, hx⟩
        obtain ⟨z, hz, rfl⟩ := ivs_get hx
        refine ⟨rfl, ?_⟩
        refine ⟨_, rfl, _, rfl, _, h3, ?_, same_upd h1 hHD, (upd_ne hDf).trans h2, ?_⟩
        · refine small1000 ?_
          rw [List.length_map, List.length_take]
          omega
        · rw [upd_same, abs_if, List.take_add_one, hz]
          simp
      · rintro H2 ⟨h1, h2, h3⟩
        rw [List.length_map, List.take_length] at h3
        obtain ⟨j, z, p1, p2, p3, p4, p5⟩ := place_of hV v1 v2
        have flat : (avs s).all flatV = true := by
          rw [List.all_eq_true]
          intro x hx
          obtain ⟨y, _, rfl⟩ := List.mem_map.mp hx
          rfl
        refine ⟨.inl ⟨rfl, _, SqL.of h3⟩, _, rfl, D, avs s, .int v, j, .int (z.natAbs : Nat), rfl, rfl, SqL.of h3, rfl, flat, by rw [List.getElem?_map, p3]; rfl, by rw [p4]; exact beq_self_eq_true _, fun m z' hm hz' => ?_, ?_⟩
        · obtain ⟨y, hy, rfl⟩ := avs_get hz'
          have := p5 m y hm hy
          show (((y.natAbs : Nat) : Int) == (v : Int)) = false
          rw [beq_eq_false_iff_ne]
          omega
        have ej : ((j : Nat) : Int) + 1 = ((j + 1 : Nat) : Int) := by omega
        refine ⟨_, _, rfl, rfl, ?_⟩
        dsimp only
        rw [ej]
        have hn : ¬ s[v - 1]? = some (v : Int) := fun e => by rw [e1] at e; exact c (Option.some.inj e)
        obtain ⟨u, hu⟩ : ∃ u, u = (if Mu28.placeOf v s = 1 then [] else [Mu28.placeOf v s]) := ⟨_, rfl⟩
        refine ⟨fun σ' H' => ∃ a3, σ' = [some (.ref a3), some (.int v), some (.bl b), some (.ref fl), some (.int ((j + 1 : Nat) : Int)), none] ∧ Same H H' ∧ H' fl = some (.lst (nvs u)) ∧ H' a3 = some (.lst (ivs (Mu28.flips b u s))), ?_, ?_⟩
        · refine ⟨_, rfl, _, _, rfl, rfl, _, rfl, if_dec (fun c1 => ?_) fun c1 => ?_⟩
          · refine ⟨_, rfl, .inl ⟨rfl, _, SqL.of h2⟩, _, rfl, fl, _, _, rfl, rfl, h2, by decide, ?_⟩
            refine ⟨_, rfl, _, rfl, _, rfl, a, s, j + 1, b, rfl, (upd_ne haf).trans (h1 _ _ hs), s2, fun H3 a3 sm3 np3 ha3 => ?_⟩
            have hu1 : u = [j + 1] := by rw [hu, if_neg (by omega), p1]
            subst hu1
            exact ⟨a3, rfl, (same_upd h1 hfl).trans sm3, sm3 _ _ upd_same, ha3⟩
          · have hu1 : u = [] := by rw [hu, if_pos (by omega)]
            subst hu1
            exact ⟨a, rfl, h1, h2, h1 _ _ hs⟩
        · rintro σ' H3 ⟨a3, rfl, sm3, hf3, ha3⟩
          obtain ⟨x, hx⟩ : ∃ x, x = (if b = true ∧ 0 < (Mu28.flips b u s).getD 0 0 then [1] else []) := ⟨_, rfl⟩
          have hul : u.length ≤ 1 := by rw [hu]; split <;> simp
          have hxl : x.length ≤ 1 := by rw [hx]; split <;> simp
          refine ⟨fun σ' H' => σ' = [some (.ref a3), some (.int v), some (.bl b), some (.ref fl), some (.int ((j + 1 : Nat) : Int)), none] ∧ Same H H' ∧ H' fl = some (.lst (nvs (u ++ x))), ?_, ?_⟩
          · refine ⟨_, rfl, b, rfl, ?_⟩
            cases b with
            | false =>
              have hx1 : x = [] := by rw [hx, if_neg (by simp)]
              subst hx1
              rw [List.append_nil]
              exact ⟨rfl, sm3, hf3⟩
            | true =>
              have l0 : 0 < (Mu28.flips true u s).length := by rw [flips_len]; omega
              have g0 : (Mu28.flips true u s)[0]? = some (Mu28.flips true u s)[0] := List.getElem?_eq_getElem l0
              refine ⟨_, rfl, a3, _, _, _, rfl, rfl, SqL.of ha3, atI_ivs (k := 0) g0, _, _, rfl, rfl, _, rfl, if_dec (fun c2 => ?_) fun c2 => ?_⟩
              · have hx1 : x = [1] := by
                  rw [hx, if_pos ⟨rfl, by rw [List.getD_eq_getElem?_getD, g0]; exact c2⟩]
                subst hx1
                refine ⟨_, rfl, .inl ⟨rfl, _, SqL.of hf3⟩, fl, _, _, rfl, rfl, hf3, ?_, rfl, same_upd sm3 hfl, ?_⟩
                · refine small1000 ?_
                  rw [List.length_map]
                  omega
                · rw [upd_same]
                  exact congrArg (fun q => some (HO.lst q)) (nvs_snoc u 1)
              · have hx1 : x = [] := by
                  rw [hx, if_neg fun z => c2 (by have := z.2; rw [List.getD_eq_getElem?_getD, g0] at this; exact this)]
                subst hx1
                rw [List.append_nil]
                exact ⟨rfl, sm3, hf3⟩
          · rintro σ' H4 ⟨rfl, sm4, hf4⟩
            refine ⟨_, rfl, _, rfl, by show 1 ≤ sizeLine; decide, fun p5 np5 => ?_⟩
            have hfp : fl ≠ p5 := fun z => by rw [z, np5] at hf4; cases hf4
            refine ⟨fl, p5, _, _, rfl, rfl, (upd_ne hfp).trans hf4, upd_same, ?_, fun p6 np6 => ?_⟩
            · refine Nat.le_of_lt (small1000 ?_)
              rw [List.length_map, List.length_append]
              show u.length + x.length + 1 ≤ 1000
              omega
            · have sm5 : Same H (upd H4 p5 (.lst [V.int (v : Nat)])) := same_upd sm4 (Same.free sm4 np5)
              have np := Same.free sm5 np6
              refine q _ p6 (same_upd sm5 np) np ?_
              rw [upd_same]
              have e : toPlace b v s = (u ++ x) ++ [v] := by
                unfold toPlace
                rw [if_neg hn]
                show _ ++ _ = _
                rw [hx, hu, List.append_assoc]
              rw [e]
              exact congrArg (fun q => some (HO.lst q)) (nvs_snoc (u ++ x) v)
end
end Pan
namespace Pan
open PySem PySem.Spec PyProof.Rows L2
open PySem.W (Codec)
theorem nvs_get {s : List Nat} {k : Nat} {y : V} (h : (nvs s)[k]? = some y) : ∃ z : Nat, s[k]? = some z ∧ y = V.int (z : Nat) := by
  rw [List.getElem?_map] at h
  cases e : s[k]? with
  | none => rw [e] at h; cases h
  | some z => rw [e] at h; exact ⟨z, rfl, (Option.some.inj h).symm⟩
theorem flips_take (b : Bool) {F : List Nat} {t k : Nat} (s : List Int) (h : F[t]? = some k) : Mu28.flips b (F.take (t + 1)) s = Mu28.flip b k (Mu28.flips b (F.take t) s) := by
  rw [List.take_add_one, h, flips_append]
  rfl
section
variable {P : Program} {w : World} {K : PySem.W.Frag} {mg : Str → Option Value} {base : Heap}
/-! ### usual_row -/
theorem scUs : FnScope ["stack", "sides_count", "row", "size", "flips", "k"] ["stack", "sides_count"] (defScope sUsual) := ⟨rfl, rfl, rfl, by decide +kernel, rfl, by decide +kernel, by decide +kernel⟩
def spUsual : Sp := fun vs H Q _ => ∃ (a : Addr) (s : List Int) (b : Bool), vs = [.ref a, .bl b] ∧ H a = some (.lst (ivs s)) ∧ Valid b s ∧ s.length ≤ 100 ∧
  ∀ H' p, Same H H' → H p = none → H' p = some (.lst (nvs (Mu28.usual b s.length s))) → (Mu28.usual b s.length s).length ≤ 300 → Q (.ref p) H'
theorem ok_usual {f : Addr} {fd : FuncData} (F : Fun K "usual_row" "usual_row" sUsual f fd) (T : Own mg) (DF : Def P w K mg base 2 "flipped" ["stack", "k", "sides_count"] spFlipped)
    (DP : Def P w K mg base 3 "flips_to_its_place" ["stack", "size", "sides_count"] spPlace) : FnOk P w K mg base CX0 4 f fd ["stack", "sides_count"] spUsual := by
  obtain ⟨ff, fdf, mf, kf, bf, Gf⟩ := DF
  obtain ⟨fp, fdp, mp, kp, bp, Gp⟩ := DP
  refine F.ok scUs (fun vs H Q E h => ?_) (fun cdv A outer s H vs Q E hr h => ⟨_, pss_cons
    (ps_set (i := 2) scUs.nd rfl (Or.inl rfl) (pe_lst pa_nil))
    (pss_cons (ps_for PassesOwn.never rfl (pi_range3 (by rfl) T.range (pa_cons (pe_callB call_len_seq (by rfl) T.len PySem.boot_len (pa_cons (pv 0) pa_nil)) (pa_cons pe_int (pa_cons (pe_un un_neg pe_int) pa_nil))))
        (pg_name (i := 3) scUs.nd rfl (Or.inl rfl))
        (pss_cons (ps_set (i := 4) scUs.nd rfl (Or.inl rfl) (pe_call Gp hr rfl mp kp bp .nil pass0 (pa_cons (pv 0) (pa_cons (pv 3) (pa_cons (pv 1) pa_nil)))))
          (pss_one (ps_for PassesOwn.never rfl (pi_list (pv 4)) (pg_name (i := 5) scUs.nd rfl (Or.inl rfl))
            (pss_cons (ps_set (i := 0) scUs.nd rfl (Or.inl rfl) (pe_call Gf (hr.mono (by decide)) rfl mf kf bf .nil pass0 (pa_cons (pv 0) (pa_cons (pv 5) (pa_cons (pv 1) pa_nil)))))
              (pss_one (ps_expr (pe_bm PySem.F.plainAttrs_list PySem.F.slot_list_append PySem.F.type_list_append mt_append (pv 2) (pa_cons (pv 5) pa_nil)))))))))
    (pss_one (ps_ret (pv 2)))), ?_⟩)
  · obtain ⟨a, s, b, rfl, _⟩ := h; rfl
  · obtain ⟨a, s, b, rfl, hs, hV, s2, q⟩ := h
    refine ⟨by decide, fun r nr => ?_⟩
    have har : a ≠ r := fun z => by rw [z, nr] at hs; cases hs
    refine ⟨_, rfl, a, _, rfl, .inl (SqL.of ((upd_ne har).trans hs)), _, rfl, _, _, _, s.length, rfl, ?_, ?_⟩
    · rw [List.length_map]
      have e := RgC.neg (i := (s.length : Int)) (j := 0) (by omega) (by omega) (by omega) (by omega)
      have e2 : ((s.length : Int) - 0).toNat = s.length := by omega
      rw [e2] at e
      exact e
    · rw [List.length_map]
      refine for_rangeC (lo := (s.length : Int)) (c := -1) (n := s.length) (fun i σ H' => ∃ (a3 : Addr) (S : List Int) (R : List Nat) (v3 v4 v5 : Option V), σ = [some (.ref a3), some (.bl b), some (.ref r), v3, v4, v5] ∧ Same H H' ∧ H' r = some (.lst (nvs R)) ∧ H' a3 = some (.lst (ivs S)) ∧ a3 ≠ r ∧
          Valid b S ∧ S.length = s.length ∧ R ++ Mu28.usual b (s.length - i) S = Mu28.usual b s.length s ∧ R.length ≤ 3 * i) ?_ ?_ ?_
      · exact ⟨a, s, [], none, none, none, rfl, same_new nr, upd_same, (upd_ne har).trans hs, har, hV, rfl, rfl, Nat.le_refl _⟩
      · rintro i σ H1 hi ⟨a3, S, R, v3, v4, v5, rfl, sm1, hr1, ha1, n1, V1, l1, e1, b1⟩
        have ev : (s.length : Int) + (i : Nat) * (-1) = ((s.length - i : Nat) : Int) := by omega
        rw [ev]
        obtain ⟨v, hv⟩ : ∃ v, s.length - i = v + 1 := ⟨s.length - i - 1, by omega⟩
        rw [hv]
        rw [hv, usual_succ V1 (by omega)] at e1
        have pl := toPlace_len b (v + 1) S
        refine ⟨_, rfl, _, rfl, _, rfl, a3, S, v + 1, b, rfl, ha1, V1, by omega, by omega, by omega, fun H2 fl sm2 nf hf => ?_⟩
        generalize toPlace b (v + 1) S = G at hf e1 pl
        have hr2 := sm2 _ _ hr1
        have ha2 := sm2 _ _ ha1
        have nfr : fl ≠ r := fun z => by rw [z, hr1] at nf; cases nf
        refine ⟨_, rfl, fl, rfl, ⟨_, SqL.of hf⟩, for_it (w := walk_list (K := K) (a := fl) (xs := nvs G)) (fun t σ H' => ∃ (a4 : Addr) (v5 : Option V), σ = [some (.ref a4), some (.bl b), some (.ref r), some (.int ((v + 1 : Nat) : Int)), some (.ref fl), v5] ∧ Same H H' ∧ H' fl = some (.lst (nvs G)) ∧
            H' r = some (.lst (nvs (R ++ G.take t))) ∧ H' a4 = some (.lst (ivs (Mu28.flips b (G.take t) S))) ∧ a4 ≠ r) ?_ ?_ ?_ ?_⟩
        · exact ⟨a3, v5, rfl, sm1.trans sm2, hf, by rw [List.take_zero, List.append_nil]; exact hr2, ha2, n1⟩
        · rintro t σ H' _ ⟨a4, v5, _, _, h, _⟩
          exact SqL.of h
        · rintro t x σ H3 H4 ht ⟨a4, v5, rfl, sm3, hf3, hr3, ha3, n3⟩ ⟨rfl, hx⟩
          obtain ⟨k, hk, rfl⟩ := nvs_get hx
          refine ⟨_, rfl, _, rfl, _, rfl, a4, _, k, b, rfl, ha3, by rw [flips_len]; omega, fun H5 a5 sm5 np5 ha5 => ?_⟩
          have hr5 := sm5 _ _ hr3
          have n5 : a5 ≠ r := fun z => by rw [z, hr3] at np5; cases np5
          refine ⟨_, rfl, .inl ⟨rfl, _, SqL.of hr5⟩, _, rfl, r, _, _, rfl, rfl, hr5, ?_, a5, _, rfl, same_upd (sm3.trans sm5) nr, (upd_ne nfr).trans (sm5 _ _ hf3), ?_, ?_, n5⟩
          · refine small1000 ?_
            rw [List.length_map, List.length_append, List.length_take]
            omega
          · rw [upd_same, List.take_add_one, hk, ← List.append_assoc]
            exact congrArg (fun q => some (HO.lst q)) (nvs_snoc (R ++ G.take t) k)
          · rw [flips_take b S hk]
            exact (upd_ne n5).trans ha5
        · rintro σ H3 ⟨a4, v5', rfl, sm3, hf3, hr3, ha3, n3⟩
          rw [List.length_map, List.take_length] at hr3 ha3
          have hv' : s.length - (i + 1) = v := by omega
          refine ⟨a4, Mu28.flips b G S, R ++ G, _, _, _, rfl, sm3, hr3, ha3, n3, V1.flips G, by rw [flips_len]; exact l1, ?_, ?_⟩
          · rw [hv', List.append_assoc]
            exact e1
          · rw [List.length_append]
            omega
      · rintro σ H1 ⟨a3, S, R, v3, v4, v5, rfl, sm1, hr1, ha1, n1, V1, l1, e1, b1⟩
        rw [Nat.sub_self] at e1
        have e2 : R = Mu28.usual b s.length s := by
          rw [← e1]
          exact (List.append_nil R).symm
        rw [e2] at hr1 b1
        exact ⟨_, rfl, q H1 r sm1 nr hr1 (by omega)⟩
end
end Pan
namespace Pan
open PySem PySem.Spec PyProof.Rows L2
open PySem.W (Codec)
/-! ### lists of ints, compared -/
abbrev ids (s : List Int) : List PyData := s.map PyData.int
theorem eqvAll_ints : ∀ s t : List Int, PyData.eqvAll (ids s) (ids t) = decide (s = t)
  | [], [] => rfl
  | [], _ :: _ => rfl
  | _ :: _, [] => rfl
  | x :: s, y :: t => by
    show ((x == y) && PyData.eqvAll (ids s) (ids t)) = _
    rw [eqvAll_ints s t]
    by_cases h : x = y
    · subst h
      simp
    · simp [h]
theorem eqv_ints (s t : List Int) : PyData.eqv (.list (ids s)) (.list (ids t)) = decide (s = t) := eqvAll_ints s t
theorem canLay_ints : ∀ s : List Int, PyData.canLayAll0 (ids s) = true
  | [] => rfl
  | x :: s => by
    show (true && PyData.canLayAll0 (ids s)) = true
    rw [canLay_ints s]
    rfl
theorem depth_ints : ∀ s : List Int, PyData.depthAll (ids s) = 0
  | [] => rfl
  | x :: s => by
    show max 0 (PyData.depthAll (ids s)) = 0
    rw [depth_ints s]
    rfl
theorem shaped_ints (s : List Int) : SeqAt.shaped (.list (ids s)) = true := by
  have h1 : PyData.canLay0 (.list (ids s)) = true := canLay_ints s
  have h2 : PyData.depth (.list (ids s)) = 1 := by
    show PyData.depthAll (ids s) + 1 = 1
    rw [depth_ints]
  unfold SeqAt.shaped
  rw [h1, h2]
  rfl
theorem dp_ints {K : PySem.W.Frag} {H : Hp} : ∀ s : List Int, DpAll K H (ivs s) (ids s)
  | [] => .nil
  | x :: s => .cons (.int x) (dp_ints s)
/-! ### the mathematics of is_stack -/
def absl (s : List Int) : List Int := s.map fun x => ((x.natAbs : Nat) : Int)
theorem sorted_unique {l m : List Int} (p : l.Perm m) (hl : l.Pairwise (· ≤ ·)) (hm : m.Pairwise (· ≤ ·)) : l = m :=
  List.Perm.eq_of_pairwise (le := fun a b => a ≤ b) (by intro a b _ _ h1 h2; omega) hl hm p
theorem merge_is {s t : List Int} (p : t.Perm (absl s)) (h : t.Pairwise (· ≤ ·)) : (absl s).mergeSort (fun a b => decide (a ≤ b)) = t := by
  refine sorted_unique ((List.mergeSort_perm _ _).trans p.symm) ?_ h
  have q := List.pairwise_mergeSort (le := fun (a b : Int) => decide (a ≤ b)) (by intro a b c; simp; omega) (by intro a b; simp; omega) (absl s)
  exact q.imp (by intro a b; simp)
theorem isStack_is (b : Bool) {s t : List Int} (p : t.Perm (absl s)) (h : t.Pairwise (· ≤ ·)) :
    Mu28.isStack b s = (!s.isEmpty && (decide (s.length ≤ most b) && ((t == Mu28.sorted s.length) && (b || s.all fun x => decide (0 < x))))) := by
  unfold Mu28.isStack
  rw [show ((s.map fun (x : Int) => (x.natAbs : Int)).mergeSort fun a b => decide (a ≤ b)) = t from merge_is p h]
  rfl
theorem isStack_len {b : Bool} {s : List Int} (h : s.length < 1 ∨ most b < s.length) : Mu28.isStack b s = false := by
  unfold Mu28.isStack
  cases h with
  | inl h =>
    have : s = [] := List.length_eq_zero_iff.mp (by omega)
    subst this
    rfl
  | inr h =>
    have : decide (s.length ≤ (if b = true then 6 else 8)) = false := decide_eq_false (by show ¬ s.length ≤ most b; omega)
    rw [this]
    simp
theorem isStack_neg {s : List Int} {m : Int} (hm : m ∈ s) (h : m < 0) : Mu28.isStack false s = false := by
  unfold Mu28.isStack
  have : (s.all fun x => decide (0 < x)) = false := by
    rw [List.all_eq_false]
    exact ⟨m, hm, by simp; omega⟩
  rw [this]
  simp
theorem isStack_rest {b : Bool} {s t : List Int} (p : t.Perm (absl s)) (h : t.Pairwise (· ≤ ·)) (h1 : 1 ≤ s.length) (h2 : s.length ≤ most b) (hb : b = true ∨ ∀ x ∈ s, 0 ≤ x) :
    Mu28.isStack b s = decide (t = Mu28.sorted s.length) := by
  rw [isStack_is b p h]
  have e1 : s.isEmpty = false := by
    cases s with
    | nil => simp at h1
    | cons a l => rfl
  rw [e1, decide_eq_true h2]
  by_cases c : t = Mu28.sorted s.length
  · have e3 : (b || s.all fun x => decide (0 < x)) = true := by
      cases hb with
      | inl q => rw [q]; rfl
      | inr q =>
        rw [Bool.or_eq_true]
        refine .inr ?_
        rw [List.all_eq_true]
        intro x hx
        have a := q x hx
        have m : ((x.natAbs : Nat) : Int) ∈ t := p.mem_iff.mpr (List.mem_map_of_mem hx)
        rw [c] at m
        simp [Mu28.sorted] at m
        obtain ⟨i, _, e⟩ := m
        simp
        omega
    rw [e3, c]
    simp
  · simp [c]
theorem rg_sorted (n : Nat) : rgV 1 ((n : Int) + 1) = ivs (Mu28.sorted n) := by
  unfold rgV Mu28.sorted
  have e : ((n : Int) + 1 - 1).toNat = n := by omega
  rw [e]
  show _ = List.map V.int _
  rw [List.map_map]
  refine List.map_congr_left fun i _ => ?_
  show V.int _ = V.int _
  rw [Int.add_comm]
section
variable {P : Program} {w : World} {K : PySem.W.Frag} {mg : Str → Option Value} {base : Heap}
/-! ### is_stack -/
structure Limits (mg : Str → Option Value) : Prop where
  with_ : ∃ t, mg "MOST_WITH_SIDES" = some (.int 6 t)
  out : ∃ t, mg "MOST_WITHOUT_SIDES" = some (.int 8 t)
theorem scSt : FnScope ["sizes", "sides_count", "most", "size"] ["sizes", "sides_count"] (defScope sStack) := ⟨rfl, rfl, rfl, by decide +kernel, rfl, by decide +kernel, by decide +kernel⟩
def spStack : Sp := fun vs H Q _ => ∃ (a : Addr) (s : List Int) (b : Bool), vs = [.ref a, .bl b] ∧ H a = some (.lst (ivs s)) ∧ s.length ≤ 60 ∧ ∀ H', Same H H' → Q (.bl (Mu28.isStack b s)) H'
theorem ok_stack {f : Addr} {fd : FuncData} (F : Fun K "is_stack" "is_stack" sStack f fd) (T : Own mg) (L : Limits mg) : FnOk P w K mg base CX0 1 f fd ["sizes", "sides_count"] spStack := by
  obtain ⟨t6, m6⟩ := L.with_
  obtain ⟨t8, m8⟩ := L.out
  refine F.ok scSt (fun vs H Q E h => ?_) (fun cdv A outer s H vs Q E hr h => ⟨_, C8.pss_cut
    (ps_set (i := 2) scSt.nd rfl (Or.inl rfl) (pe_ifExp (pt_truth (pv 1) (by intro _; rfl)) (pe_glob (v := .int 6) (by rfl) m6 ⟨_, rfl⟩) (pe_glob (v := .int 8) (by rfl) m8 ⟨_, rfl⟩)))
    (C8.pss_cut (ps_if (PW.pt (pw_or (pt_cmpR op_lt (pe_callB call_len_seq (by rfl) T.len PySem.boot_len (pa_cons (pv 0) pa_nil)) pe_int (nomark _)) (pw_or1 (pt_cmpR op_gt (pe_callB call_len_seq (by rfl) T.len PySem.boot_len (pa_cons (pv 0) pa_nil)) (pv 2) (nomark _)))))
      (pss_one (ps_ret pe_bl)) pss_nil)
    (C8.pss_cut (ps_if (PW.pt (pw_and (pt_not (pt_truth (pv 1) (by intro _; rfl))) (pw_and1 (pt_cmpR op_lt (pe_callB (cr_min (by rfl)) (by rfl) T.min (by decide +kernel) (pa_cons (pv 0) pa_nil)) pe_int (nomark _)))))
      (pss_one (ps_ret pe_bl)) pss_nil)
    (pss_one (ps_ret (pe_cmpR (op_eqD hr.units) (pe_callB cr_sorted (by rfl) T.sorted (by decide +kernel)
        (pa_cons (pe_lc (own := [("size", 3)]) (g := gName 3) (tt := tYes) (by rfl) scSt.nd (pi_list (pv 0)) (blkOk_by (own := [("size", 3)]) (N := ["sizes", "sides_count", "most", "size"]) (sc := defScope sStack) (by decide +kernel))
          (fun _ _ _ _ _ => pg_name (i := 3) scSt.nd rfl (Or.inl rfl)) (fun _ _ _ _ _ => pts_nil) (fun _ _ _ _ _ => pe_callB call_abs (by rfl) T.abs (by decide +kernel) (pa_cons (pv 3) pa_nil))) pa_nil))
        (pe_listRg (by rfl) (by rfl) T.list (prg_2 (by rfl) T.range pe_int (pe_op op_add (pe_callB call_len_seq (by rfl) T.len PySem.boot_len (pa_cons (pv 0) pa_nil)) pe_int))) (nomark _)))))), ?_⟩)
  · obtain ⟨a, s, b, rfl, _⟩ := h; rfl
  · obtain ⟨a, s, b, rfl, hs, s2, q⟩ := h
    refine ⟨fun σ' H' => σ' = [some (.ref a), some (.bl b), some (.int (most b : Nat)), none] ∧ H = H', ?_, ?_⟩
    · refine ⟨_, rfl, b, rfl, ?_⟩
      cases b with
      | true => exact ⟨rfl, rfl⟩
      | false => exact ⟨rfl, rfl⟩
    · rintro σ' H' ⟨rfl, rfl⟩
      refine ⟨fun σ' H' => σ' = [some (.ref a), some (.bl b), some (.int (most b : Nat)), none] ∧ H = H' ∧ 1 ≤ s.length ∧ s.length ≤ most b, ?_, ?_⟩
      · refine ⟨_, rfl, a, _, rfl, .inl (SqL.of hs), _, _, rfl, rfl, _, rfl, if_dec (fun c => ?_) fun c => ?_⟩
        · rw [List.length_map] at c
          have e := isStack_len (b := b) (s := s) (.inl (by omega))
          have q := q H (Same.refl H)
          rw [e] at q
          exact q
        · rw [List.length_map] at c
          refine ⟨_, rfl, a, _, rfl, .inl (SqL.of hs), _, rfl, _, _, rfl, rfl, _, rfl, if_dec (fun c2 => ?_) fun c2 => ?_⟩
          · rw [List.length_map] at c2
            have e := isStack_len (b := b) (s := s) (.inr (by omega))
            have q := q H (Same.refl H)
            rw [e] at q
            exact q
          · rw [List.length_map] at c2
            exact ⟨rfl, rfl, by omega, by omega⟩
      · rintro σ' H' ⟨rfl, rfl, s1, sm⟩
        refine ⟨fun σ' H' => σ' = [some (.ref a), some (.bl b), some (.int (most b : Nat)), none] ∧ H = H' ∧ (b = true ∨ ∀ x ∈ s, 0 ≤ x), ?_, ?_⟩
        · refine ⟨_, rfl, b, rfl, ?_⟩
          cases b with
          | true => exact ⟨rfl, rfl, .inl rfl⟩
          | false =>
            refine ⟨_, rfl, a, s, rfl, SqL.of hs, by omega, fun m hm hmin => ⟨_, _, rfl, rfl, _, rfl, if_dec (fun c => ?_) fun c => ?_⟩⟩
            · have e := isStack_neg hm c
              have q := q H (Same.refl H)
              rw [e] at q
              exact q
            · exact ⟨rfl, rfl, .inr fun x hx => by have := hmin x hx; omega⟩
        · rintro σ' H' ⟨rfl, rfl, hb⟩
          refine ⟨_, rfl, a, rfl, ⟨_, SqL.of hs⟩, fun D hD => ?_⟩
          refine lc_it (w := walk_list (K := K) (a := a) (xs := ivs s)) (fun i H' => Same H H' ∧ H' D = some (.lst (ivs ((absl s).take i)))) ?_ ?_ ?_ ?_
          · exact ⟨same_new hD, upd_same⟩
          · exact fun i H' _ h => h.1.seq (SqL.of hs)
          · rintro i x H2 H3 hi ⟨h1, h3⟩ ⟨rfl, hx⟩
            obtain ⟨z, hz, rfl⟩ := ivs_get hx
            refine ⟨rfl, ?_⟩
            refine ⟨_, rfl, _, rfl, _, h3, ?_, same_upd h1 hD, ?_⟩
            · refine small1000 ?_
              rw [List.length_map, List.length_take]
              unfold absl
              rw [List.length_map]
              omega
            · have ez : (absl s)[i]? = some ((z.natAbs : Nat) : Int) := by
                unfold absl
                rw [List.getElem?_map, hz]
                rfl
              rw [upd_same, abs_if, List.take_add_one, ez]
              exact congrArg (fun q => some (HO.lst q)) (List.map_append (l₁ := (absl s).take i) (l₂ := [((z.natAbs : Nat) : Int)]) (f := V.int)).symm
          · rintro H2 ⟨h1, h3⟩
            have el : (absl s).take (ivs s).length = absl s := List.take_of_length_le (by unfold absl; simp)
            rw [el] at h3
            refine ⟨D, absl s, rfl, SqL.of h3, by unfold absl; rw [List.length_map]; omega, fun t p pt st np => ?_⟩
            have sm1 : Same H (upd H2 p (.lst (ivs t))) := same_upd h1 (Same.free h1 np)
            refine ⟨_, rfl, a, _, rfl, .inl (sm1.seq (SqL.of hs)), _, _, rfl, rfl, _, _, rfl, rfl, ?_⟩
            rw [List.length_map]
            refine ⟨RgOk.of_le (by decide) (by omega) (by decide) (by omega), fun p2 np2 => ?_⟩
            rw [rg_sorted]
            have hpp : p ≠ p2 := fun z => by rw [← z, upd_same] at np2; cases np2
            refine ⟨_, _, .lst (SqL.of ((upd_ne hpp).trans upd_same)) (dp_ints t), .lst (SqL.of upd_same) (dp_ints _), shaped_ints _, shaped_ints _, ?_⟩
            rw [eqv_ints]
            have e := isStack_rest pt st s1 sm hb
            rw [← e]
            exact q _ (same_upd sm1 (Same.free sm1 np2))
end
end Pan
namespace Pan
open PySem PySem.Spec PyProof.Rows L2
open PySem.W (Codec)
abbrev sReader : Stmt := top 30
abbrev sRInit : Stmt := inClass sReader 0
abbrev sMore : Stmt := inClass sReader 1
abbrev sNumber : Stmt := inClass sReader 2
abbrev sRow : Stmt := inClass sReader 3
abbrev sCall : Stmt := inClass sReader 4
theorem ivs_take (l : List Int) (n : Nat) : (ivs l).take n = ivs (l.take n) := List.map_take.symm
theorem ivs_drop (l : List Int) (n : Nat) : (ivs l).drop n = ivs (l.drop n) := List.map_drop.symm
/-! ### a reader: the numbers, the place -/
def rF (num : Addr) (p : Nat) : List (Str × V) := [("numbers", .ref num), ("place", .int (p : Nat))]
def RdAt (C : Addr) (H : Hp) (r num : Addr) (p : Nat) : Prop := ∃ dx, H r = some (.ins C dx (rF num p))
theorem look_here {k : Str} {v : V} {r : List (Str × V)} : List.lookup k ((k, v) :: r) = some v := by
  simp only [List.lookup, beq_self_eq_true k]
theorem look_past {k g : Str} {v : V} {r : List (Str × V)} (h : (k == g) = false) : List.lookup k ((g, v) :: r) = List.lookup k r := by
  simp only [List.lookup, h]
theorem putF_here {f : Str} {v x : V} {r : List (Str × V)} : putF f v ((f, x) :: r) = (f, v) :: r := if_pos rfl
theorem putF_past {f g : Str} {v x : V} {r : List (Str × V)} (h : ¬ g = f) : putF f v ((g, x) :: r) = (g, x) :: putF f v r := if_neg h
theorem rF_numbers (num : Addr) (p : Nat) : (rF num p).lookup ("numbers" : Str) = some (.ref num) := look_here
theorem rF_place (num : Addr) (p : Nat) : (rF num p).lookup ("place" : Str) = some (.int (p : Nat)) := (look_past (by decide +kernel)).trans look_here
theorem rF_put (num : Addr) (p q : Nat) : putF "place" (.int (q : Nat)) (rF num p) = rF num q := (putF_past (by decide +kernel)).trans (congrArg _ putF_here)
theorem rF_new (num : Addr) : putF "place" (.int 0) (putF "numbers" (.ref num) []) = rF num 0 := (putF_past (by decide +kernel)).trans rfl
theorem rF_none (num : Addr) (p : Nat) {m : Str} (h1 : (m == ("numbers" : Str)) = false) (h2 : (m == ("place" : Str)) = false) : (rF num p).lookup m = none := (look_past h1).trans ((look_past h2).trans rfl)
/-- all but r stands -/
def Keep (r : Addr) (H H' : Hp) : Prop := ∀ b o, H b = some o → b ≠ r → H' b = some o
theorem Keep.refl (r : Addr) (H : Hp) : Keep r H H := fun _ _ h _ => h
theorem Keep.trans {r : Addr} {H H1 H2 : Hp} (a : Keep r H H1) (b : Keep r H1 H2) : Keep r H H2 := fun c o h n => b c o (a c o h n) n
theorem Keep.upd {r : Addr} {H H1 : Hp} {o : HO} (a : Keep r H H1) : Keep r H (upd H1 r o) := fun c u h n => by
  rw [upd_ne n]
  exact a c u h n
theorem Keep.new {r p : Addr} {H H1 : Hp} {o : HO} (a : Keep r H H1) (hp : H p = none) : Keep r H (L2.upd H1 p o) := fun c u h n => by
  rw [upd_ne (fun z => by rw [z, hp] at h; cases h)]
  exact a c u h n
theorem Keep.of_same {r : Addr} {H H1 : Hp} (a : Same H H1) : Keep r H H1 := fun c u h _ => a c u h
theorem Keep.free {r p : Addr} {H H' : Hp} (a : Keep r H H') (n : p ≠ r) (h : H' p = none) : H p = none := by
  cases q : H p with
  | none => rfl
  | some o => rw [a p o q n] at h; cases h
theorem Keep.seq {K : PySem.W.Frag} {r a C dx : Addr} {fs : List (Str × V)} {H H' : Hp} {xs : List V} (k : Keep r H H') (hr : H r = some (.ins C dx fs)) (h : SqL K H a xs) : SqL K H' a xs := by
  rcases h with (h | ⟨o, h⟩) | h
  · exact .inl (.inl (k a _ h fun z => by rw [z, hr] at h; cases h))
  · exact .inl (.inr ⟨o, k a _ h fun z => by rw [z, hr] at h; cases h⟩)
  · exact .inr h
/-- what the top has written of the class -/
structure RTxt (K : PySem.W.Frag) (C : Addr) : Prop where
  cl : Cls K C
  nN : NoAttr K C "numbers"
  nP : NoAttr K C "place"
section
variable {P : Program} {w : World} {K : PySem.W.Frag} {mg : Str → Option Value} {base : Heap} {C : Addr}
/-! ### __init__, has_more, take_number, take_row -/
def spRInit (C : Addr) : Sp := fun vs H Q _ => ∃ (r dx num : Addr), vs = [.ref r, .ref num] ∧ H r = some (.ins C dx []) ∧ ∀ H' : Hp, RdAt C H' r num 0 → Keep r H H' → Q .non H'
theorem scRI : FnScope ["self", "numbers"] ["self", "numbers"] (defScope sRInit) := ⟨rfl, rfl, rfl, by decide +kernel, rfl, by decide +kernel, by decide +kernel⟩
theorem ok_rinit {f : Addr} {fd : FuncData} (F : Fun K "__init__" "Reader.__init__" sRInit f fd) (T : RTxt K C) : FnOk P w K mg base CX0 1 f fd ["self", "numbers"] (spRInit C) := by
  refine F.ok scRI (fun vs H Q E h => ?_) (fun cdv A outer s H vs Q E hr h => ⟨_, pss_cons (ps_fld (pv 0) (pv 1) rfl) (pss_one (ps_fld (pv 0) pe_int rfl)), ?_⟩)
  · obtain ⟨r, dx, num, rfl, _⟩ := h; rfl
  · obtain ⟨r, dx, num, rfl, hr, q⟩ := h
    refine ⟨_, rfl, _, rfl, r, C, dx, [], rfl, hr, T.cl, T.nN, (by show 0 < 1000; decide), ?_⟩
    refine ⟨_, rfl, r, C, dx, _, rfl, upd_same, T.cl, T.nP, (by show 1 < 1000; decide), ?_⟩
    exact q _ ⟨dx, upd_same.trans (congrArg (fun x => some (HO.ins C dx x)) (rF_new num))⟩ (Keep.refl r H).upd.upd
def spMore (K : PySem.W.Frag) (C : Addr) : Sp := fun vs H Q _ => ∃ (r num : Addr) (p : Nat) (l : List Int), vs = [.ref r] ∧ RdAt C H r num p ∧ SqL K H num (ivs l) ∧ Q (.bl (decide (p < l.length))) H
theorem scMo : FnScope ["self"] ["self"] (defScope sMore) := ⟨rfl, rfl, rfl, by decide +kernel, rfl, by decide +kernel, by decide +kernel⟩
theorem ok_more {f : Addr} {fd : FuncData} (F : Fun K "has_more" "Reader.has_more" sMore f fd) (O : Own mg) (T : RTxt K C) : FnOk P w K mg base CX0 1 f fd ["self"] (spMore K C) := by
  refine F.ok scMo (fun vs H Q E h => ?_) (fun cdv A outer s H vs Q E hr h => ⟨_, pss_one (ps_ret (pe_cmpR op_lt (pe_fld (pv 0) rfl) (pe_callB call_len_seq (by rfl) O.len PySem.boot_len (pa_cons (pe_fld (pv 0) rfl) pa_nil)) (nomark _))), ?_⟩)
  · obtain ⟨r, num, p, l, rfl, _⟩ := h; rfl
  · obtain ⟨r, num, p, l, rfl, ⟨dx, hr⟩, hs, q⟩ := h
    refine ⟨_, rfl, r, C, dx, _, _, rfl, hr, T.cl, T.nP, rF_place _ _, _, rfl, r, C, dx, _, _, rfl, hr, T.cl, T.nN, rF_numbers _ _, num, _, rfl, .inl hs, _, _, rfl, rfl, ?_⟩
    rw [List.length_map]
    have e : decide (((p : Nat) : Int) < (l.length : Nat)) = decide (p < l.length) := by
      by_cases c : p < l.length
      · rw [decide_eq_true c, decide_eq_true (by omega)]
      · rw [decide_eq_false c, decide_eq_false (by omega)]
    show Q (.bl (decide (((p : Nat) : Int) < (l.length : Nat)))) H
    rw [e]
    exact q
def spNumber (K : PySem.W.Frag) (C : Addr) : Sp := fun vs H Q _ => ∃ (r num : Addr) (p : Nat) (l : List Int) (z : Int), vs = [.ref r] ∧ RdAt C H r num p ∧ SqL K H num (ivs l) ∧ l[p]? = some z ∧
  ∀ H', RdAt C H' r num (p + 1) → Keep r H H' → Q (.int z) H'
theorem scNu : FnScope ["self", "number"] ["self"] (defScope sNumber) := ⟨rfl, rfl, rfl, by decide +kernel, rfl, by decide +kernel, by decide +kernel⟩
theorem ok_number {f : Addr} {fd : FuncData} (F : Fun K "take_number" "Reader.take_number" sNumber f fd) (T : RTxt K C) : FnOk P w K mg base CX0 1 f fd ["self"] (spNumber K C) := by
  refine F.ok scNu (fun vs H Q E h => ?_) (fun cdv A outer s H vs Q E hr h => ⟨_, pss_cons (ps_set (i := 1) scNu.nd rfl (Or.inl rfl) (pe_ix ix_list (pe_fld (pv 0) rfl) (pe_fld (pv 0) rfl) (fun _ _ => rfl)))
    (pss_cons (ps_fldaug (pv 0) pe_int in_add) (pss_one (ps_ret (pv 1)))), ?_⟩)
  · obtain ⟨r, num, p, l, z, rfl, _⟩ := h; rfl
  · obtain ⟨r, num, p, l, z, rfl, ⟨dx, hr⟩, hs, hz, q⟩ := h
    refine ⟨_, rfl, r, C, dx, _, _, rfl, hr, T.cl, T.nN, rF_numbers _ _, _, rfl, r, C, dx, _, _, rfl, hr, T.cl, T.nP, rF_place _ _, num, _, _, .int z, rfl, rfl, hs, atI_ivs hz, ?_⟩
    refine ⟨_, rfl, r, C, dx, _, _, rfl, hr, T.cl, T.nP, rF_place _ _, _, _, rfl, rfl, dx, _, hr, (by show 2 < 1000; decide), ?_⟩
    refine ⟨_, rfl, q _ ⟨dx, ?_⟩ (Keep.refl r H).upd⟩
    exact upd_same.trans (congrArg (fun x => some (HO.ins C dx x)) (rF_put num p (p + 1)))
def spRow (K : PySem.W.Frag) (C : Addr) : Sp := fun vs H Q _ => ∃ (r num : Addr) (p n : Nat) (l : List Int), vs = [.ref r] ∧ RdAt C H r num p ∧ SqL K H num (ivs l) ∧ l[p]? = some (n : Int) ∧
  ∀ H' a, RdAt C H' r num (p + 1 + n) → Keep r H H' → H a = none → H' a = some (.lst (ivs ((l.drop (p + 1)).take n))) → Q (.ref a) H'
theorem scRw : FnScope ["self", "length", "row"] ["self"] (defScope sRow) := ⟨rfl, rfl, rfl, by decide +kernel, rfl, by decide +kernel, by decide +kernel⟩
theorem cut_mid (xs : List V) (i n : Nat) : cutV xs (some (i : Int)) (some ((i + n : Nat) : Int)) = (xs.drop i).take n := by
  unfold cutV
  rw [HT.sIx_nat, HT.sIx_nat]
  by_cases h : i ≤ xs.length
  · rw [Nat.min_eq_left h]
    by_cases h2 : i + n ≤ xs.length
    · rw [Nat.min_eq_left h2, Nat.add_sub_cancel_left]
    · rw [Nat.min_eq_right (by omega), List.take_of_length_le (by simp), List.take_of_length_le (by simp; omega)]
  · rw [Nat.min_eq_right (by omega), Nat.min_eq_right (by omega), List.drop_of_length_le (Nat.le_refl _), List.drop_of_length_le (by omega)]
    simp
theorem ok_row {f fn : Addr} {fd fdn : FuncData} (F : Fun K "take_row" "Reader.take_row" sRow f fd) (T : RTxt K C) (G : FnOk P w K mg base CX0 1 fn fdn ["self"] (spNumber K C)) (bn : Binds K fdn ["self"] []) (mn : Meth K C "take_number" fn) :
    FnOk P w K mg base CX0 2 f fd ["self"] (spRow K C) := by
  refine F.ok scRw (fun vs H Q E h => ?_) (fun cdv A outer s H vs Q E hr h => ⟨_, pss_cons (ps_set (i := 1) scRw.nd rfl (Or.inl rfl) (pe_meth0 (pv 0) T.cl mn G hr bn .nil pass0))
    (pss_cons (ps_set (i := 2) scRw.nd rfl (Or.inl rfl) (pe_slice sl_list (pe_fld (pv 0) rfl) (po_some (pe_fld (pv 0) rfl)) (po_some (pe_op op_add (pe_fld (pv 0) rfl) (pv 1)))))
    (pss_cons (ps_fldaug (pv 0) (pv 1) in_add) (pss_one (ps_ret (pv 2))))), ?_⟩)
  · obtain ⟨r, num, p, n, l, rfl, _⟩ := h; rfl
  · obtain ⟨r, num, p, n, l, rfl, ⟨dx, hr⟩, hs, hz, q⟩ := h
    refine ⟨_, rfl, r, dx, _, rfl, hr, rF_none _ _ (by decide +kernel) (by decide +kernel), r, num, p, l, n, rfl, ⟨dx, hr⟩, hs, hz, fun H1 ⟨dx1, hr1⟩ k1 => ?_⟩
    have hs1 := k1.seq hr hs
    refine ⟨_, rfl, r, C, dx1, _, _, rfl, hr1, T.cl, T.nN, rF_numbers _ _, _, rfl, r, C, dx1, _, _, rfl, hr1, T.cl, T.nP, rF_place _ _, _, rfl,
      _, rfl, r, C, dx1, _, _, rfl, hr1, T.cl, T.nP, rF_place _ _, _, rfl, _, _, rfl, rfl, _, rfl, num, _, rfl, hs1, fun a na => ?_⟩
    have har : a ≠ r := fun z => by rw [z, hr1] at na; cases na
    have hr2 := (upd_ne (H := H1) (o := .lst (cutV (ivs l) (some ((p + 1 : Nat) : Int)) (some (((p + 1 : Nat) : Int) + (n : Int))))) (Ne.symm har)).trans hr1
    refine ⟨_, rfl, r, C, dx1, _, _, rfl, hr2, T.cl, T.nP, rF_place _ _, _, rfl, _, _, rfl, rfl, dx1, _, hr2, (by show 2 < 1000; decide), ?_⟩
    have e : ((p + 1 : Nat) : Int) + (n : Int) = ((p + 1 + n : Nat) : Int) := by omega
    have nH : H a = none := k1.free har na
    refine ⟨_, rfl, q _ a ⟨dx1, ?_⟩ (k1.new nH).upd nH ?_⟩
    · rw [e]
      exact upd_same.trans (congrArg (fun x => some (HO.ins C dx1 x)) (rF_put num _ _))
    · rw [upd_ne har, upd_same, e, cut_mid]
      exact congrArg (fun x => some (HO.lst x)) (by rw [ivs_drop, ivs_take])
end
end Pan
namespace Pan
open PySem PySem.Spec PyProof.Rows L2
open PySem.W (Codec)
theorem line_of {n : Nat} (h : n ≤ 100000) : n < sizeLine := Nat.lt_of_le_of_lt h (by decide)
abbrev rvs (l : List Addr) : List V := l.map V.ref
/-- for each call by its number: how many numbers, how many rows -/
structure Shapes (K : PySem.W.Frag) (mg : Str → Option Value) (sh : Int → Option (Nat × Nat)) : Prop where
  at_ : ∃ (S : Addr) (ks : List Addr), mg "SHAPES" = some (.ref S) ∧ (∀ H, SqT K H S (rvs ks)) ∧ ∀ P n k, sh P = some (n, k) → n ≤ 9 ∧ k ≤ 9 ∧ ∃ (j : Nat) (a : Addr), P = (j : Int) ∧ ks[j]? = some a ∧ ∀ H, SqT K H a [.int (n : Nat), .int (k : Nat)]
/-- rows, each at an address -/
def RowsAt (H : Hp) (as : List Addr) (rs : List (List Int)) : Prop := as.length = rs.length ∧ ∀ (i : Nat) (a : Addr) (x : List Int), as[i]? = some a → rs[i]? = some x → H a = some (.lst (ivs x))
/-- a call: its numbers, then its rows -/
def CallAt (H : Hp) (q : Addr) (ns : List Int) (rs : List (List Int)) : Prop := ∃ as, H q = some (.lst (ivs ns ++ rvs as)) ∧ RowsAt H as rs
theorem RowsAt.nil (H : Hp) : RowsAt H [] [] := ⟨rfl, fun i a x h => by simp at h⟩
theorem RowsAt.mono {H H' : Hp} {as : List Addr} {rs : List (List Int)} (h : RowsAt H as rs) (k : ∀ (a : Addr) (x : List Int), a ∈ as → H a = some (.lst (ivs x)) → H' a = some (.lst (ivs x))) : RowsAt H' as rs :=
  ⟨h.1, fun i a x h1 h2 => k a x (List.mem_of_getElem? h1) (h.2 i a x h1 h2)⟩
theorem RowsAt.snoc {H : Hp} {as : List Addr} {rs : List (List Int)} (h : RowsAt H as rs) {a : Addr} {x : List Int} (e : H a = some (.lst (ivs x))) : RowsAt H (as ++ [a]) (rs ++ [x]) := by
  refine ⟨by rw [List.length_append, List.length_append, h.1]; rfl, fun i b y h1 h2 => ?_⟩
  by_cases c : i < as.length
  · rw [List.getElem?_append_left c] at h1
    rw [List.getElem?_append_left (by rw [← h.1]; exact c)] at h2
    exact h.2 i b y h1 h2
  · rw [List.getElem?_append_right (by omega)] at h1
    rw [List.getElem?_append_right (by rw [← h.1]; omega)] at h2
    rw [h.1] at h1
    cases z : i - rs.length with
    | zero =>
      rw [z] at h1 h2
      have h1 : some a = some b := h1
      have h2 : some x = some y := h2
      cases h1; cases h2
      exact e
    | succ m =>
      rw [z] at h1
      have h1 : (none : Option Addr) = some b := h1
      cases h1
theorem RowsAt.get {H : Hp} {as : List Addr} {rs : List (List Int)} (h : RowsAt H as rs) {i : Nat} {a : Addr} (e : as[i]? = some a) : ∃ x, rs[i]? = some x ∧ H a = some (.lst (ivs x)) := by
  have il : i < rs.length := by
    rw [← h.1]
    exact (List.getElem?_eq_some_iff.mp e).1
  exact ⟨rs[i], List.getElem?_eq_getElem il, h.2 i a _ e (List.getElem?_eq_getElem il)⟩
theorem ivs_snoc (l : List Int) (z : Int) : ivs l ++ [V.int z] = ivs (l ++ [z]) := (List.map_append (l₁ := l) (l₂ := [z]) (f := V.int)).symm
theorem rvs_snoc (l : List Addr) (z : Addr) : rvs l ++ [V.ref z] = rvs (l ++ [z]) := (List.map_append (l₁ := l) (l₂ := [z]) (f := V.ref)).symm
theorem drop_get {l r : List Int} {p : Nat} {P : Int} (h : l.drop p = P :: r) : l[p]? = some P ∧ l.drop (p + 1) = r ∧ p < l.length := by
  have hp : p < l.length := by
    apply Nat.lt_of_not_le
    intro c
    rw [List.drop_eq_nil_of_le c] at h
    cases h
  rw [List.drop_eq_getElem_cons hp] at h
  injection h with h1 h2
  exact ⟨by rw [List.getElem?_eq_getElem hp, h1], h2, hp⟩
section
variable {P : Program} {w : World} {K : PySem.W.Frag} {mg : Str → Option Value} {base : Heap} {C : Addr} {sh : Int → Option (Nat × Nat)}
def spCallR (K : PySem.W.Frag) (C : Addr) (sh : Int → Option (Nat × Nat)) : Sp := fun vs H Q _ => ∃ (r num : Addr) (p : Nat) (l rest t : List Int) (z : Int) (ns : List Int) (rs : List (List Int)), vs = [.ref r] ∧ RdAt C H r num p ∧ SqL K H num (ivs l) ∧ l.drop p = z :: rest ∧
  PyFlat.call sh (z :: rest) = some (ns :: rs, t) ∧
  ∀ H' q p', RdAt C H' r num p' → l.drop p' = t → Keep r H H' → H q = none → CallAt H' q ns rs → Q (.ref q) H'
theorem scTc : FnScope ["self", "call", "shape", "step"] ["self"] (defScope sCall) := ⟨rfl, rfl, rfl, by decide +kernel, rfl, by decide +kernel, by decide +kernel⟩
theorem ok_callr {f fn fr : Addr} {fd fdn fdr : FuncData} (F : Fun K "take_call" "Reader.take_call" sCall f fd) (O : Own mg) (T : RTxt K C) (Z : Shapes K mg sh)
    (GN : FnOk P w K mg base CX0 1 fn fdn ["self"] (spNumber K C)) (bn : Binds K fdn ["self"] []) (mn : Meth K C "take_number" fn)
    (GR : FnOk P w K mg base CX0 2 fr fdr ["self"] (spRow K C)) (br : Binds K fdr ["self"] []) (mr : Meth K C "take_row" fr) :
    FnOk P w K mg base CX0 3 f fd ["self"] (spCallR K C sh) := by
  obtain ⟨S, ks, mS, tS, shp⟩ := Z.at_
  refine F.ok scTc (fun vs H Q E h => ?_) (fun cdv A outer s H vs Q E hr h => ⟨_, pss_cons
    (ps_set (i := 1) scTc.nd rfl (Or.inl rfl) (pe_lst (pa_cons (pe_meth0 (pv 0) T.cl mn GN (hr.mono (by decide)) bn .nil pass0) pa_nil)))
    (pss_cons (ps_set (i := 2) scTc.nd rfl (Or.inl rfl) (pe_ix ix_tup (pe_glob (v := .ref S) (by rfl) mS rfl) (pe_ix ix_list (pv 1) pe_int (fun _ _ => rfl)) (fun _ _ => rfl)))
    (pss_cons (ps_for PassesOwn.never rfl (pi_range1 (by rfl) O.range (pa_cons (pe_ix ix_tup (pv 2) pe_int (fun _ _ => rfl)) pa_nil)) (pg_name (i := 3) scTc.nd rfl (Or.inl rfl))
      (pss_one (ps_expr (pe_bm PySem.F.plainAttrs_list PySem.F.slot_list_append PySem.F.type_list_append mt_append (pv 1) (pa_cons (pe_meth0 (pv 0) T.cl mn GN (hr.mono (by decide)) bn .nil pass0) pa_nil)))))
    (pss_cons (ps_for PassesOwn.never rfl (pi_range1 (by rfl) O.range (pa_cons (pe_ix ix_tup (pv 2) pe_int (fun _ _ => rfl)) pa_nil)) (pg_name (i := 3) scTc.nd rfl (Or.inl rfl))
      (pss_one (ps_expr (pe_bm PySem.F.plainAttrs_list PySem.F.slot_list_append PySem.F.type_list_append mt_append (pv 1) (pa_cons (pe_meth0 (pv 0) T.cl mr GR hr br .nil pass0) pa_nil)))))
    (pss_one (ps_ret (pv 1)))))), ?_⟩)
  · obtain ⟨r, num, p, l, rest, t, z, ns, rs, rfl, _⟩ := h; rfl
  · obtain ⟨r, num, p, l, rest, t, z, ns, rs, rfl, hR, hs, hl, hc, q⟩ := h
    obtain ⟨n, k, xs, e1, e2, e3, e4⟩ := call_inv hc
    cases e4
    obtain ⟨n9, k9, j, a, rfl, ja, ta⟩ := shp z n k e1
    obtain ⟨gz, dz, pl⟩ := drop_get hl
    have hR0 := hR
    obtain ⟨dx, hr0⟩ := hR
    refine ⟨_, rfl, r, dx, _, rfl, hr0, rF_none _ _ (by decide +kernel) (by decide +kernel), r, num, p, l, _, rfl, hR0, hs, gz, fun H1 R1 k1 => ?_⟩
    refine ⟨by show 1 ≤ sizeLine; decide, fun cl ncl => ?_⟩
    obtain ⟨dx1, hr1⟩ := id R1
    have clr : cl ≠ r := fun z => by rw [z, hr1] at ncl; cases ncl
    have Hcl : H cl = none := k1.free clr ncl
    have eS : SqT K (upd H1 cl (.lst [V.int (j : Nat)])) S (rvs ks) := tS _
    refine ⟨_, rfl, cl, _, _, .int (j : Nat), rfl, rfl, SqL.of upd_same, atI_nat (j := 0) rfl, S, rvs ks, _, .ref a, rfl, rfl, eS, atI_nat (by rw [List.getElem?_map, ja]; rfl), ?_⟩
    refine ⟨_, rfl, a, _, _, .int (n : Nat), rfl, rfl, ta _, atI_nat (j := 0) rfl, _, rfl, by omega, by omega, ?_⟩
    refine for_range (fun i σ H' => ∃ v3, σ = [some (.ref r), some (.ref cl), some (.ref a), v3] ∧ RdAt C H' r num (p + 1 + i) ∧ Keep r H H' ∧ H' cl = some (.lst (ivs ((j : Int) :: rest.take i)))) ?_ ?_ ?_
    · refine ⟨none, rfl, ⟨dx1, (upd_ne (Ne.symm clr)).trans hr1⟩, k1.new Hcl, ?_⟩
      rw [upd_same, List.take_zero]
      rfl
    · rintro i σ H2 hi ⟨v3, rfl, R2, k2, hc2⟩
      rw [Int.toNat_natCast] at hi
      have il : i < rest.length := by omega
      have gi : l[p + 1 + i]? = some rest[i] := by
        rw [← List.getElem?_drop, dz, List.getElem?_eq_getElem il]
      obtain ⟨dx2, hr2⟩ := id R2
      refine ⟨_, rfl, .inl ⟨rfl, _, SqL.of hc2⟩, _, rfl, r, dx2, _, rfl, hr2, rF_none _ _ (by decide +kernel) (by decide +kernel), r, num, _, l, _, rfl, R2, k2.seq hr0 hs, gi, fun H3 R3 k3 => ?_⟩
      have hc3 := k3 _ _ hc2 clr
      obtain ⟨dx3, hr3⟩ := id R3
      refine ⟨cl, _, _, rfl, rfl, hc3, line_of ?_, _, rfl, ⟨dx3, (upd_ne (Ne.symm clr)).trans hr3⟩, (k2.trans k3).new Hcl, ?_⟩
      · rw [List.length_map, List.length_cons, List.length_take]
        omega
      · rw [upd_same, ivs_snoc, List.take_add_one, List.getElem?_eq_getElem il]
        rfl
    · rintro σ H2 ⟨v3, rfl, R2, k2, hc2⟩
      rw [Int.toNat_natCast] at R2 hc2
      refine ⟨_, rfl, a, _, _, .int (k : Nat), rfl, rfl, ta _, atI_nat (j := 1) rfl, _, rfl, by omega, by omega, ?_⟩
      refine for_range (fun i σ H' => ∃ (v3 : Option V) (as : List Addr) (p' : Nat), σ = [some (.ref r), some (.ref cl), some (.ref a), v3] ∧ RdAt C H' r num p' ∧ Keep r H H' ∧ H' cl = some (.lst (ivs ((j : Int) :: rest.take n) ++ rvs as)) ∧ (∀ b ∈ as, b ≠ r ∧ b ≠ cl) ∧
        RowsAt H' as (rs.take i) ∧ PyFlat.rows (k - i) (l.drop p') = some (rs.drop i, t)) ?_ ?_ ?_
      · refine ⟨v3, [], p + 1 + n, rfl, R2, k2, ?_, by simp, RowsAt.nil _, ?_⟩
        · rw [hc2]
          exact congrArg (fun x => some (HO.lst x)) (List.append_nil _).symm
        · rw [← List.drop_drop, dz]
          exact e3
      · rintro i σ H3 hi ⟨v3, as, p', rfl, R3, k3, hc3, ne3, ra3, e3'⟩
        rw [Int.toNat_natCast] at hi
        obtain ⟨m, hm⟩ : ∃ m, k - i = m + 1 := ⟨k - i - 1, by omega⟩
        rw [hm] at e3'
        obtain ⟨x, s', ys, y1, y2, y3⟩ := rows_succ_inv e3'
        obtain ⟨c, u, u1, u2, u3, u4⟩ := row_inv y1
        obtain ⟨gc, dc, pc⟩ := drop_get u1
        obtain ⟨dx3, hr3⟩ := id R3
        have xl : rs[i]? = some x := by
          have := List.getElem?_drop (xs := rs) (i := i) (j := 0)
          rw [y3] at this
          exact this.symm
        have yd : rs.drop (i + 1) = ys := by
          rw [← List.drop_drop, y3]
          rfl
        refine ⟨_, rfl, .inl ⟨rfl, _, SqL.of hc3⟩, _, rfl, r, dx3, _, rfl, hr3, rF_none _ _ (by decide +kernel) (by decide +kernel), r, num, p', c, l, rfl, R3, k3.seq hr0 hs, gc, fun H4 b R4 k4 nb hb => ?_⟩
        have hc4 := k4 _ _ hc3 clr
        obtain ⟨dx4, hr4⟩ := id R4
        have br' : b ≠ r := fun z => by rw [z, hr3] at nb; cases nb
        have bcl : b ≠ cl := fun z => by rw [z, hc3] at nb; cases nb
        rw [dc, ← u3] at hb
        refine ⟨cl, _, _, rfl, rfl, hc4, line_of ?_, _, as ++ [b], p' + 1 + c, rfl, ⟨dx4, (upd_ne (Ne.symm clr)).trans hr4⟩, (k3.trans k4).new Hcl, ?_, ?_, ?_, ?_⟩
        · rw [List.length_append, List.length_map, List.length_cons, List.length_take, List.length_map, ra3.1, List.length_take]
          omega
        · rw [upd_same, List.append_assoc, rvs_snoc]
        · intro b' hb'
          cases List.mem_append.mp hb' with
          | inl h => exact ne3 b' h
          | inr h => rw [List.mem_singleton.mp h]; exact ⟨br', bcl⟩
        · rw [List.take_add_one, xl]
          refine RowsAt.snoc (ra3.mono fun b' x' h1 h2 => ?_) ((upd_ne bcl).trans hb)
          have := ne3 b' h1
          exact (upd_ne this.2).trans (k4 _ _ h2 this.1)
        · have em : k - (i + 1) = m := by omega
          rw [em, yd, ← List.drop_drop, dc, ← u4]
          exact y2
      · rintro σ H3 ⟨v3, as, p', rfl, R3, k3, hc3, ne3, ra3, e3'⟩
        rw [Int.toNat_natCast] at ra3 e3'
        rw [Nat.sub_self] at e3'
        obtain ⟨z1, z2⟩ := rows_zero_inv e3'
        have xk : rs.take k = rs := List.take_of_length_le (by
          have := congrArg List.length z1
          rw [List.length_drop, List.length_nil] at this
          omega)
        rw [xk] at ra3
        exact ⟨_, rfl, q H3 cl p' R3 z2.symm k3 Hcl ⟨as, hc3, ra3⟩⟩
end
end Pan
namespace Pan
open PySem PySem.Spec PyProof.Rows L2
open PySem.W (Codec)
abbrev sTurner : Stmt := top 44
abbrev sTInit : Stmt := inClass sTurner 0
abbrev sBegin : Stmt := inClass sTurner 1
abbrev sFlip : Stmt := inClass sTurner 2
abbrev sLook : Stmt := inClass sTurner 3
abbrev sGaps : Stmt := inClass sTurner 4
abbrev sFew : Stmt := inClass sTurner 5
abbrev sUsu : Stmt := inClass sTurner 6
abbrev sTold : Stmt := top 45
/-! ### a turner: the stack, whether sides count, how often it was flipped -/
def tF (v : V) (b : Bool) (n : Nat) : List (Str × V) := [("stack", v), ("sides_count", .bl b), ("turns", .int (n : Nat))]
def StackIs (z : Addr) (H : Hp) (v : V) (b : Bool) (n : Nat) : Mu28.Abs → Prop
  | none => v = .non
  | some t => ∃ A, v = .ref A ∧ A ≠ z ∧ H A = some (.lst (ivs t.stack)) ∧ b = t.burnt ∧ n = t.done_
/-- z is a list that is another than the stack's -/
def TuAt (C z : Addr) (H : Hp) (a : Addr) (S : Mu28.Abs) : Prop := (∃ xs, H z = some (.lst xs)) ∧ ∃ dx v b n, H a = some (.ins C dx (tF v b n)) ∧ StackIs z H v b n S
theorem tF_stack (v : V) (b : Bool) (n : Nat) : (tF v b n).lookup ("stack" : Str) = some v := look_here
theorem tF_sides (v : V) (b : Bool) (n : Nat) : (tF v b n).lookup ("sides_count" : Str) = some (.bl b) := (look_past (by decide +kernel)).trans look_here
theorem tF_turns (v : V) (b : Bool) (n : Nat) : (tF v b n).lookup ("turns" : Str) = some (.int (n : Nat)) := (look_past (by decide +kernel)).trans ((look_past (by decide +kernel)).trans look_here)
theorem tF_put1 (v u : V) (b : Bool) (n : Nat) : putF "stack" u (tF v b n) = tF u b n := putF_here
theorem tF_put2 (v : V) (b c : Bool) (n : Nat) : putF "sides_count" (.bl c) (tF v b n) = tF v c n := (putF_past (by decide +kernel)).trans (congrArg _ putF_here)
theorem tF_put3 (v : V) (b : Bool) (n m : Nat) : putF "turns" (.int (m : Nat)) (tF v b n) = tF v b m := (putF_past (by decide +kernel)).trans (congrArg _ ((putF_past (by decide +kernel)).trans (congrArg _ putF_here)))
theorem tF_new : putF "turns" (.int 0) (putF "sides_count" (.bl false) (putF "stack" .non [])) = tF .non false 0 := by
  rw [show putF "sides_count" (.bl false) (putF "stack" .non []) = ([("stack", .non), ("sides_count", .bl false)] : List (Str × V)) from (putF_past (by decide +kernel)).trans rfl]
  exact (putF_past (by decide +kernel)).trans (congrArg _ ((putF_past (by decide +kernel)).trans rfl))
theorem tF_none (v : V) (b : Bool) (n : Nat) {m : Str} (h1 : (m == ("stack" : Str)) = false) (h2 : (m == ("sides_count" : Str)) = false) (h3 : (m == ("turns" : Str)) = false) : (tF v b n).lookup m = none :=
  (look_past h1).trans ((look_past h2).trans ((look_past h3).trans rfl))
/-- what the top has written of the class -/
structure TTxt (K : PySem.W.Frag) (C : Addr) : Prop where
  cl : Cls K C
  n1 : NoAttr K C "stack"
  n2 : NoAttr K C "sides_count"
  n3 : NoAttr K C "turns"
theorem StackIs.keep {z : Addr} {H H' : Hp} {v : V} {b : Bool} {n : Nat} {S : Mu28.Abs} {a C dx : Addr} {fs : List (Str × V)} (h : StackIs z H v b n S) (ha : H a = some (.ins C dx fs)) (k : Keep a H H') : StackIs z H' v b n S := by
  cases S with
  | none => exact h
  | some t =>
    obtain ⟨A, rfl, nA, hA, e⟩ := h
    exact ⟨A, rfl, nA, k A _ hA (fun z => by rw [z, ha] at hA; cases hA), e⟩
theorem TuAt.same {C z a : Addr} {H H' : Hp} {S : Mu28.Abs} (h : TuAt C z H a S) (k : Same H H') : TuAt C z H' a S := by
  obtain ⟨⟨xs, hz⟩, dx, v, b, n, ha, hs⟩ := h
  exact ⟨⟨xs, k _ _ hz⟩, dx, v, b, n, k _ _ ha, hs.keep ha (Keep.of_same k)⟩
theorem lst_not_ins {H : Hp} {a z C dx : Addr} {fs : List (Str × V)} {xs : List V} (hz : H z = some (.lst xs)) (ha : H a = some (.ins C dx fs)) : z ≠ a := fun e => by rw [e, ha] at hz; cases hz
/-- what a call on the turner does: the step -/
def Does (C z a : Addr) (S : Mu28.Abs) (x : Mu28.Call) (H : Hp) (Q : VK) : Prop := ∀ H' p, TuAt C z H' a (Mu28.step S x).1 → Keep a H H' → H p = none → H' p = some (.lst (ivs (Mu28.step S x).2)) → Q (.ref p) H'
/-- a refusal, or what else changes nothing -/
theorem Does.still {C z a : Addr} {S : Mu28.Abs} {x : Mu28.Call} {H H' : Hp} {Q : VK} (d : Does C z a S x H Q) {ans : List Int} (e : Mu28.step S x = (S, ans)) (t : TuAt C z H a S) (k : Same H H') {p : Addr} (np : H p = none) (hp : H' p = some (.lst (ivs ans))) : Q (.ref p) H' := by
  unfold Does at d
  rw [e] at d
  exact d H' p (t.same k) (Keep.of_same k) np hp
theorem dec_int (x y : Int) : decide (V.int x = V.int y) = (x == y) := by
  by_cases h : x = y
  · subst h; simp
  · rw [decide_eq_false fun z => h (int_eq z), beq_eq_false_iff_ne.mpr h]
section
variable {P : Program} {w : World} {K : PySem.W.Frag} {mg : Str → Option Value} {base : Heap} {C : Addr}
/-! ### __init__ -/
def spTInit (C : Addr) : Sp := fun vs H Q _ => ∃ (a dx : Addr), vs = [.ref a] ∧ H a = some (.ins C dx []) ∧ ∀ (H' : Hp) (dx : Addr), H' a = some (.ins C dx (tF .non false 0)) → Keep a H H' → Q .non H'
theorem scTI : FnScope ["self"] ["self"] (defScope sTInit) := ⟨rfl, rfl, rfl, by decide +kernel, rfl, by decide +kernel, by decide +kernel⟩
theorem ok_tinit {f : Addr} {fd : FuncData} (F : Fun K "__init__" "Turner.__init__" sTInit f fd) (T : TTxt K C) : FnOk P w K mg base CX0 1 f fd ["self"] (spTInit C) := by
  refine F.ok scTI (fun vs H Q E h => ?_) (fun cdv A outer s H vs Q E hr h => ⟨_, pss_cons (ps_fld (pv 0) pe_non rfl) (pss_cons (ps_fld (pv 0) pe_bl rfl) (pss_one (ps_fld (pv 0) pe_int rfl))), ?_⟩)
  · obtain ⟨a, dx, rfl, _⟩ := h; rfl
  · obtain ⟨a, dx, rfl, ha, q⟩ := h
    refine ⟨_, rfl, a, C, dx, [], rfl, ha, T.cl, T.n1, (by show 0 < 1000; decide), ?_⟩
    refine ⟨_, rfl, a, C, dx, _, rfl, upd_same, T.cl, T.n2, (by show 1 < 1000; decide), ?_⟩
    refine ⟨_, rfl, a, C, dx, _, rfl, upd_same, T.cl, T.n3, (by show 2 < 1000; decide), ?_⟩
    exact q _ dx (upd_same.trans (congrArg (fun x => some (HO.ins C dx x)) tF_new)) (Keep.refl a H).upd.upd.upd
/-! ### begin -/
def spBegin (C : Addr) : Sp := fun vs H Q _ => ∃ (z a L : Addr) (b : Nat) (l : List Int) (S : Mu28.Abs), vs = [.ref a, .int (b : Nat), .ref L] ∧ TuAt C z H a S ∧ H L = some (.lst (ivs l)) ∧ l.length ≤ 60 ∧ Does C z a S (.begin_ b l) H Q
theorem scBg : FnScope ["self", "b", "stack"] ["self", "b", "stack"] (defScope sBegin) := ⟨rfl, rfl, rfl, by decide +kernel, rfl, by decide +kernel, by decide +kernel⟩
theorem ok_begin {f : Addr} {fd : FuncData} (F : Fun K "begin" "Turner.begin" sBegin f fd) (T : TTxt K C) (O : Own mg) (DS : Def P w K mg base 1 "is_stack" ["sizes", "sides_count"] spStack) : FnOk P w K mg base CX0 2 f fd ["self", "b", "stack"] (spBegin C) := by
  obtain ⟨fs, fds, ms, ks, bs, Gs⟩ := DS
  refine F.ok scBg (fun vs H Q E h => ?_) (fun cdv A outer s H vs Q E hr h => ⟨_, pss_cons
    (ps_if (PW.pt (pw_or (pt_cmpR op_gt (pv 1) pe_int (nomark _)) (pw_or1 (pt_not (pt_truth (pe_call Gs hr rfl ms ks bs .nil pass0 (pa_cons (pv 2) (pa_cons (pe_cmpR op_eq (pv 1) pe_int (nomark _)) pa_nil))) (by intro _; rfl))))))
      (pss_one (ps_ret (pe_lst (pa_cons (pe_un un_neg pe_int) pa_nil)))) pss_nil)
    (pss_cons (ps_fld (pv 0) (pe_callTy call_list_of (by rfl) O.list (by decide +kernel) (pa_cons (pv 2) pa_nil)) rfl)
    (pss_cons (ps_fld (pv 0) (pe_cmpR op_eq (pv 1) pe_int (nomark _)) rfl)
    (pss_cons (ps_fld (pv 0) pe_int rfl)
    (pss_one (ps_ret (pe_lst (pa_cons pe_int pa_nil))))))), ?_⟩)
  · obtain ⟨z, a, L, b, l, S, rfl, _⟩ := h; rfl
  · obtain ⟨z, a, L, b, l, S, rfl, ht, hL, hl, q⟩ := h
    have est : Mu28.step S (.begin_ b l) = if 1 < b ∨ Mu28.isStack (b == 1) l = false then (S, [-1]) else (some ⟨b == 1, l, 0⟩, [0]) := by cases S <;> rfl
    refine ⟨_, rfl, _, _, rfl, rfl, _, rfl, if_dec (fun c => ?_) fun c => ?_⟩
    · refine ⟨_, rfl, by show 1 ≤ sizeLine; decide, fun p np => ?_⟩
      refine q.still (ans := [-1]) ?_ ht (same_new np) np upd_same
      rw [est, if_pos (.inl (by omega))]
    · have c1 : ¬ 1 < b := by omega
      refine ⟨_, rfl, _, rfl, rfl, L, l, (b == 1), ?_, hL, hl, fun H1 sm1 => ?_⟩
      · rw [dec_int]
        have : ((b : Int) == 1) = (b == 1) := by
          by_cases z : b = 1
          · subst z; rfl
          · rw [beq_eq_false_iff_ne.mpr z, beq_eq_false_iff_ne]
            omega
        rw [this]
        rfl
      refine ⟨_, rfl, ?_⟩
      cases e : Mu28.isStack (b == 1) l with
      | false =>
        refine ⟨_, rfl, by show 1 ≤ sizeLine; decide, fun p np => ?_⟩
        have np0 := Same.free sm1 np
        refine q.still (ans := [-1]) ?_ ht (same_upd sm1 np0) np0 upd_same
        rw [est, if_pos (.inr e)]
      | true =>
        obtain ⟨⟨xs, hz⟩, dx, v, b0, n0, ha, hs⟩ := ht
        have za := lst_not_ins hz ha
        have hz1 := sm1 _ _ hz
        have ha1 := sm1 _ _ ha
        have hL1 := sm1 _ _ hL
        refine ⟨_, rfl, L, _, rfl, .inl (SqL.of hL1), fun A nA => ?_⟩
        have aA : a ≠ A := fun z => by rw [z, nA] at ha1; cases ha1
        refine ⟨_, rfl, a, C, dx, _, rfl, (upd_ne aA).trans ha1, T.cl, T.n1, (by show 3 < 1000; decide), ?_⟩
        refine ⟨_, rfl, rfl, _, rfl, a, C, dx, _, rfl, upd_same, T.cl, T.n2, (by show 3 < 1000; decide), ?_⟩
        refine ⟨_, rfl, a, C, dx, _, rfl, upd_same, T.cl, T.n3, (by show 3 < 1000; decide), ?_⟩
        refine ⟨by show 1 ≤ sizeLine; decide, fun p np => ?_⟩
        have nA0 := Same.free sm1 nA
        have k := ((((Keep.of_same (r := a) sm1).new (o := .lst (ivs l)) nA0).upd (o := .ins C dx (putF "stack" (.ref A) (tF v b0 n0)))).upd
          (o := .ins C dx (putF "sides_count" (.bl (decide (V.int (b : Nat) = V.int 1))) (putF "stack" (.ref A) (tF v b0 n0))))).upd (o := .ins C dx (putF "turns" (.int 0) (putF "sides_count" (.bl (decide (V.int (b : Nat) = V.int 1))) (putF "stack" (.ref A) (tF v b0 n0)))))
        have pa : p ≠ a := fun z => by rw [z, upd_same] at np; cases np
        have np0 := k.free pa np
        have d := q
        unfold Does at d
        rw [est, if_neg (by simp [c1, e])] at d
        have eb : decide (V.int (b : Nat) = V.int 1) = (b == 1) := by
          rw [dec_int]
          by_cases z : b = 1
          · subst z; rfl
          · rw [beq_eq_false_iff_ne.mpr z, beq_eq_false_iff_ne]
            omega
        have ap : a ≠ p := Ne.symm pa
        have Ap : A ≠ p := fun z => by rw [← z, upd_ne (Ne.symm aA), upd_ne (Ne.symm aA), upd_ne (Ne.symm aA), upd_same] at np; cases np
        have zp := (k.new (o := .lst [V.int 0]) np0) _ _ hz za
        refine d _ p ⟨⟨xs, zp⟩, dx, .ref A, b == 1, 0, ?_, A, rfl, (fun e => by rw [e, hz1] at nA; cases nA), ?_, rfl, rfl⟩ (k.new np0) np0 upd_same
        · rw [upd_ne ap, upd_same, tF_put1, tF_put2, eb]
          exact congrArg (fun x => some (HO.ins C dx x)) (tF_put3 _ _ _ 0)
        · rw [upd_ne Ap, upd_ne (Ne.symm aA), upd_ne (Ne.symm aA), upd_ne (Ne.symm aA), upd_same]
end
end Pan
namespace Pan
open PySem PySem.Spec PyProof.Rows L2
open PySem.W (Codec)
theorem ivs_nums (l : List Nat) : ivs (Mu28.nums l) = nvs l := by
  unfold Mu28.nums
  exact List.map_map
theorem ivs_counted (l : List Nat) : ivs (Mu28.counted l) = nvs (l.length :: l) := ivs_nums _
section
variable {P : Program} {w : World} {K : PySem.W.Frag} {mg : Str → Option Value} {base : Heap} {C : Addr}
/-! ### flips_told -/
def spTold : Sp := fun vs H Q _ => ∃ (r : Addr) (l : List Nat), vs = [.ref r] ∧ H r = some (.lst (nvs l)) ∧ l.length ≤ 300 ∧ ∀ H' p, Same H H' → H p = none → H' p = some (.lst (ivs (Mu28.counted l))) → Q (.ref p) H'
theorem scTo : FnScope ["row"] ["row"] (defScope sTold) := ⟨rfl, rfl, rfl, by decide +kernel, rfl, by decide +kernel, by decide +kernel⟩
theorem ok_told {f : Addr} {fd : FuncData} (F : Fun K "flips_told" "flips_told" sTold f fd) (O : Own mg) : FnOk P w K mg base CX0 1 f fd ["row"] spTold := by
  refine F.ok scTo (fun vs H Q E h => ?_) (fun cdv A outer s H vs Q E hr h => ⟨_, pss_one (ps_ret (pe_op op_cat (pe_lst (pa_cons (pe_callB call_len_seq (by rfl) O.len PySem.boot_len (pa_cons (pv 0) pa_nil)) pa_nil)) (pv 0))), ?_⟩)
  · obtain ⟨r, l, rfl, _⟩ := h; rfl
  · obtain ⟨r, l, rfl, hr, hl, q⟩ := h
    refine ⟨_, rfl, r, _, rfl, .inl (SqL.of hr), by show 1 ≤ sizeLine; decide, fun p np => ?_⟩
    have rp : r ≠ p := fun z => by rw [z, np] at hr; cases hr
    refine ⟨_, rfl, p, r, _, _, rfl, rfl, upd_same, (upd_ne rp).trans hr, ?_, fun u nu => ?_⟩
    · refine Nat.le_of_lt (line_of ?_)
      rw [List.length_map]
      show 1 + l.length ≤ _
      omega
    · have sm : Same H (upd H p (.lst [V.int ((nvs l).length : Nat)])) := same_new np
      have nu0 := Same.free sm nu
      refine q _ u (same_upd sm nu0) nu0 ?_
      rw [upd_same, ivs_counted, List.length_map]
      rfl
/-! ### gaps -/
def spM (C : Addr) (x : Mu28.Call) : Sp := fun vs H Q _ => ∃ (z a : Addr) (t : Mu28.State), vs = [.ref a] ∧ TuAt C z H a (some t) ∧ Fit t ∧ Does C z a (some t) x H Q
theorem scGa : FnScope ["self"] ["self"] (defScope sGaps) := ⟨rfl, rfl, rfl, by decide +kernel, rfl, by decide +kernel, by decide +kernel⟩
theorem ok_gaps {f : Addr} {fd : FuncData} (F : Fun K "gaps" "Turner.gaps" sGaps f fd) (T : TTxt K C) (DC : Def P w K mg base 2 "gap_count" ["stack", "sides_count"] (spCount K)) : FnOk P w K mg base CX0 3 f fd ["self"] (spM C .gaps) := by
  obtain ⟨fc, fdc, mc, kc, bc, Gc⟩ := DC
  refine F.ok scGa (fun vs H Q E h => ?_) (fun cdv A outer s H vs Q E hr h => ⟨_, pss_one (ps_ret (pe_lst (pa_cons (pe_call Gc hr rfl mc kc bc .nil pass0 (pa_cons (pe_fld (pv 0) rfl) (pa_cons (pe_fld (pv 0) rfl) pa_nil))) pa_nil))), ?_⟩)
  · obtain ⟨z, a, t, rfl, _⟩ := h; rfl
  · obtain ⟨z, a, t, rfl, ht, g, q⟩ := h
    have ht0 := ht
    obtain ⟨⟨zs, hz⟩, dx, v, b, n, ha, A, rfl, nA, hA, rfl, rfl⟩ := ht
    refine ⟨_, rfl, a, C, dx, _, _, rfl, ha, T.cl, T.n1, tF_stack _ _ _, _, rfl, a, C, dx, _, _, rfl, ha, T.cl, T.n2, tF_sides _ _ _, A, t.stack, t.burnt, rfl, SqL.of hA, fun H1 sm1 => ?_⟩
    refine ⟨by show 1 ≤ sizeLine; decide, fun p np => ?_⟩
    have np0 := Same.free sm1 np
    exact q.still (ans := [(Mu28.gaps t.burnt t.stack : Int)]) rfl ht0 (same_upd sm1 np0) np0 upd_same
/-! ### look -/
theorem scLo : FnScope ["self"] ["self"] (defScope sLook) := ⟨rfl, rfl, rfl, by decide +kernel, rfl, by decide +kernel, by decide +kernel⟩
theorem ok_look {f : Addr} {fd : FuncData} (F : Fun K "look" "Turner.look" sLook f fd) (T : TTxt K C) : FnOk P w K mg base CX0 1 f fd ["self"] (spM C .look) := by
  refine F.ok scLo (fun vs H Q E h => ?_) (fun cdv A outer s H vs Q E hr h => ⟨_, pss_one (ps_ret (pe_op op_cat (pe_lst (pa_cons (pe_fld (pv 0) rfl) (pa_cons (pe_ifExp (pt_truth (pe_fld (pv 0) rfl) (by intro _; rfl)) pe_int pe_int) pa_nil))) (pe_fld (pv 0) rfl))), ?_⟩)
  · obtain ⟨z, a, t, rfl, _⟩ := h; rfl
  · obtain ⟨z, a, t, rfl, ht, g, q⟩ := h
    have ht0 := ht
    obtain ⟨⟨zs, hz⟩, dx, v, b, n, ha, A, rfl, nA, hA, rfl, rfl⟩ := ht
    refine ⟨_, rfl, a, C, dx, _, _, rfl, ha, T.cl, T.n3, tF_turns _ _ _, _, rfl, a, C, dx, _, _, rfl, ha, T.cl, T.n2, tF_sides _ _ _, t.burnt, rfl, ?_⟩
    have key : ∀ x : Int, x = (if t.burnt = true then 1 else 0) → 2 ≤ sizeLine ∧ ∀ p, H p = none → (tOp rCat (tC (.ref p)) (tFld K (tVar 0) "stack")) [some (.ref a)] (upd H p (.lst [.int (t.done_ : Nat), .int x])) Q := by
      rintro x rfl
      refine ⟨by decide, fun p np => ?_⟩
      have ap : a ≠ p := fun z => by rw [z, np] at ha; cases ha
      have Ap : A ≠ p := fun z => by rw [z, np] at hA; cases hA
      refine ⟨_, rfl, a, C, dx, _, _, rfl, (upd_ne ap).trans ha, T.cl, T.n1, tF_stack _ _ _, p, A, _, _, rfl, rfl, upd_same, (upd_ne Ap).trans hA, ?_, fun u nu => ?_⟩
      · refine Nat.le_of_lt (line_of ?_)
        rw [List.length_map]
        have := g.le8
        show 2 + t.stack.length ≤ _
        omega
      · have sm : Same H (upd H p (.lst [.int (t.done_ : Nat), .int (if t.burnt = true then 1 else 0)])) := same_new np
        have nu0 := Same.free sm nu
        exact q.still (ans := (t.done_ : Int) :: (if t.burnt = true then 1 else 0) :: t.stack) rfl ht0 (same_upd sm nu0) nu0 upd_same
    cases e : t.burnt with
    | true => exact key 1 (by rw [e]; rfl)
    | false => exact key 0 (by rw [e]; rfl)
/-! ### fewest, usual -/
theorem scFe : FnScope ["self"] ["self"] (defScope sFew) := ⟨rfl, rfl, rfl, by decide +kernel, rfl, by decide +kernel, by decide +kernel⟩
theorem ok_few {f : Addr} {fd : FuncData} (F : Fun K "fewest" "Turner.fewest" sFew f fd) (T : TTxt K C) (DF : Def P w K mg base 22 "fewest_row" ["stack", "sides_count"] spFewest) (DT : Def P w K mg base 1 "flips_told" ["row"] spTold) : FnOk P w K mg base CX0 23 f fd ["self"] (spM C .fewest) := by
  obtain ⟨ff, fdf, mf, kf, bf, Gf⟩ := DF
  obtain ⟨ft, fdt, mt, kt, bt, Gt⟩ := DT
  refine F.ok scFe (fun vs H Q E h => ?_) (fun cdv A outer s H vs Q E hr h => ⟨_, pss_one (ps_ret (pe_call Gt (hr.mono (by decide)) rfl mt kt bt .nil pass0 (pa_cons (pe_call Gf hr rfl mf kf bf .nil pass0 (pa_cons (pe_fld (pv 0) rfl) (pa_cons (pe_fld (pv 0) rfl) pa_nil))) pa_nil))), ?_⟩)
  · obtain ⟨z, a, t, rfl, _⟩ := h; rfl
  · obtain ⟨z, a, t, rfl, ht, g, q⟩ := h
    have ht0 := ht
    obtain ⟨⟨zs, hz⟩, dx, v, b, n, ha, A, rfl, nA, hA, rfl, rfl⟩ := ht
    refine ⟨_, rfl, a, C, dx, _, _, rfl, ha, T.cl, T.n1, tF_stack _ _ _, _, rfl, a, C, dx, _, _, rfl, ha, T.cl, T.n2, tF_sides _ _ _, A, t.stack, t.burnt, rfl, hA, g.valid, g.least, g.most, fun m l L H1 p sm1 np1 hp1 => ?_⟩
    have hl : l.length ≤ 300 := by rw [L.len]; exact Nat.le_trans L.small (by decide)
    refine ⟨p, l, rfl, hp1, hl, fun H2 u sm2 nu hu => ?_⟩
    have e : Mu28.step (some t) .fewest = (some t, Mu28.counted l) := by
      show (some t, _) = _
      rw [L.fewest]
    exact q.still e ht0 (sm1.trans sm2) (Same.free sm1 nu) hu
theorem scUu : FnScope ["self"] ["self"] (defScope sUsu) := ⟨rfl, rfl, rfl, by decide +kernel, rfl, by decide +kernel, by decide +kernel⟩
theorem ok_usu {f : Addr} {fd : FuncData} (F : Fun K "usual" "Turner.usual" sUsu f fd) (T : TTxt K C) (DF : Def P w K mg base 4 "usual_row" ["stack", "sides_count"] spUsual) (DT : Def P w K mg base 1 "flips_told" ["row"] spTold) : FnOk P w K mg base CX0 5 f fd ["self"] (spM C .usual) := by
  obtain ⟨ff, fdf, mf, kf, bf, Gf⟩ := DF
  obtain ⟨ft, fdt, mt, kt, bt, Gt⟩ := DT
  refine F.ok scUu (fun vs H Q E h => ?_) (fun cdv A outer s H vs Q E hr h => ⟨_, pss_one (ps_ret (pe_call Gt (hr.mono (by decide)) rfl mt kt bt .nil pass0 (pa_cons (pe_call Gf hr rfl mf kf bf .nil pass0 (pa_cons (pe_fld (pv 0) rfl) (pa_cons (pe_fld (pv 0) rfl) pa_nil))) pa_nil))), ?_⟩)
  · obtain ⟨z, a, t, rfl, _⟩ := h; rfl
  · obtain ⟨z, a, t, rfl, ht, g, q⟩ := h
    have ht0 := ht
    obtain ⟨⟨zs, hz⟩, dx, v, b, n, ha, A, rfl, nA, hA, rfl, rfl⟩ := ht
    have := g.le8
    refine ⟨_, rfl, a, C, dx, _, _, rfl, ha, T.cl, T.n1, tF_stack _ _ _, _, rfl, a, C, dx, _, _, rfl, ha, T.cl, T.n2, tF_sides _ _ _, A, t.stack, t.burnt, rfl, hA, g.valid, by omega, fun H1 p sm1 np1 hp1 hl => ?_⟩
    refine ⟨p, _, rfl, hp1, hl, fun H2 u sm2 nu hu => ?_⟩
    exact q.still rfl ht0 (sm1.trans sm2) (Same.free sm1 nu) hu
/-! ### flip -/
def spFlip (C : Addr) : Sp := fun vs H Q _ => ∃ (z a : Addr) (t : Mu28.State) (k : Nat), vs = [.ref a, .int (k : Nat)] ∧ TuAt C z H a (some t) ∧ Fit t ∧ Does C z a (some t) (.flip k) H Q
theorem scFp : FnScope ["self", "k"] ["self", "k"] (defScope sFlip) := ⟨rfl, rfl, rfl, by decide +kernel, rfl, by decide +kernel, by decide +kernel⟩
theorem ok_flip {f fg : Addr} {fd fdg : FuncData} (F : Fun K "flip" "Turner.flip" sFlip f fd) (T : TTxt K C) (O : Own mg) (DF : Def P w K mg base 2 "flipped" ["stack", "k", "sides_count"] spFlipped)
    (GG : FnOk P w K mg base CX0 3 fg fdg ["self"] (spM C .gaps)) (bg : Binds K fdg ["self"] []) (mgp : Meth K C "gaps" fg) : FnOk P w K mg base CX0 4 f fd ["self", "k"] (spFlip C) := by
  obtain ⟨ff, fdf, mf, kf, bf, Gf⟩ := DF
  refine F.ok scFp (fun vs H Q E h => ?_) (fun cdv A outer s H vs Q E hr h => ⟨_, pss_cons
    (ps_if (pt_cmpR op_gt (pv 1) (pe_callB call_len_seq (by rfl) O.len PySem.boot_len (pa_cons (pe_fld (pv 0) rfl) pa_nil)) (nomark _)) (pss_one (ps_ret (pe_lst (pa_cons (pe_un un_neg pe_int) pa_nil)))) pss_nil)
    (pss_cons (ps_fld (pv 0) (pe_call Gf (hr.mono (by decide)) rfl mf kf bf .nil pass0 (pa_cons (pe_fld (pv 0) rfl) (pa_cons (pv 1) (pa_cons (pe_fld (pv 0) rfl) pa_nil)))) rfl)
    (pss_cons (ps_fldaug (pv 0) pe_int in_add)
    (pss_one (ps_ret (pe_meth0 (pv 0) T.cl mgp GG hr bg .nil pass0))))), ?_⟩)
  · obtain ⟨z, a, t, k, rfl, _⟩ := h; rfl
  · obtain ⟨z, a, t, k, rfl, ht, g, q⟩ := h
    have ht0 := ht
    obtain ⟨⟨zs, hz⟩, dx, v, b, n, ha, A, rfl, nA, hA, rfl, rfl⟩ := ht
    have est : Mu28.step (some t) (.flip k) = if t.stack.length < k then (some t, [-1]) else
      (some { t with stack := Mu28.flip t.burnt k t.stack, done_ := t.done_ + 1 }, [(Mu28.gaps t.burnt (Mu28.flip t.burnt k t.stack) : Int)]) := rfl
    refine ⟨_, rfl, _, rfl, a, C, dx, _, _, rfl, ha, T.cl, T.n1, tF_stack _ _ _, A, _, rfl, .inl (SqL.of hA), _, _, rfl, rfl, _, rfl, ?_⟩
    rw [List.length_map]
    refine if_dec (fun c => ?_) fun c => ?_
    · refine ⟨_, rfl, by show 1 ≤ sizeLine; decide, fun p np => ?_⟩
      refine q.still (ans := [-1]) ?_ ht0 (same_new np) np upd_same
      rw [est, if_pos (by omega)]
    · have g8 := g.le8
      refine ⟨_, rfl, a, C, dx, _, _, rfl, ha, T.cl, T.n1, tF_stack _ _ _, _, rfl, _, rfl, a, C, dx, _, _, rfl, ha, T.cl, T.n2, tF_sides _ _ _, A, t.stack, k, t.burnt, rfl, hA, by omega, fun H1 p sm1 np1 hp1 => ?_⟩
      have ha1 := sm1 _ _ ha
      have ap : p ≠ a := fun z => by rw [z, ha] at np1; cases np1
      refine ⟨_, rfl, a, C, dx, _, rfl, ha1, T.cl, T.n1, (by show 3 < 1000; decide), ?_⟩
      refine ⟨_, rfl, a, C, dx, _, _, rfl, upd_same, T.cl, T.n3, (congrArg (List.lookup _) (tF_put1 _ _ _ _)).trans (tF_turns _ _ _), _, _, rfl, rfl, dx, _, upd_same, (by show 3 < 1000; decide), ?_⟩
      have k1 := ((Keep.of_same (r := a) sm1).upd (o := .ins C dx (putF "stack" (.ref p) (tF (.ref A) t.burnt t.done_)))).upd (o := .ins C dx (putF "turns" (.int ((t.done_ : Nat) + 1)) (putF "stack" (.ref p) (tF (.ref A) t.burnt t.done_))))
      refine ⟨_, rfl, a, dx, _, rfl, upd_same, (congrArg (List.lookup _) ((congrArg _ (tF_put1 _ _ _ _)).trans (tF_put3 _ _ _ (t.done_ + 1)))).trans (tF_none _ _ _ (by decide +kernel) (by decide +kernel) (by decide +kernel)),
        z, a, { t with stack := Mu28.flip t.burnt k t.stack, done_ := t.done_ + 1 }, rfl, ⟨⟨zs, k1 _ _ hz (lst_not_ins hz ha)⟩, dx, .ref p, t.burnt, t.done_ + 1, ?_, p, rfl, (fun e => by rw [e, hz] at np1; cases np1), ?_, rfl, rfl⟩, ?_, fun H2 u tu k2 nu hu => ?_⟩
      · rw [upd_same, tF_put1]
        exact congrArg (fun x => some (HO.ins C dx x)) (tF_put3 _ _ _ (t.done_ + 1))
      · exact (upd_ne ap).trans ((upd_ne ap).trans hp1)
      · exact ⟨Pan.Valid.flip g.valid k, by rw [flip_len]; exact g.least, by rw [flip_len]; exact g.most⟩
      · have ua : u ≠ a := fun z => by rw [z, upd_same] at nu; cases nu
        have d := q
        unfold Does at d
        rw [est, if_neg (by omega)] at d
        exact d H2 u tu (k1.trans k2) (k1.free ua nu) hu
end
end Pan
namespace Pan
open PySem PySem.Spec PyProof.Rows L2
open PySem.W (Codec)
abbrev sAnswer : Stmt := top 48
abbrev sAnswers : Stmt := top 50
theorem same_made {H : Hp} {x dx C : Addr} (nx : H x = none) (nd : H dx = none) : Same H (upd (upd H dx (.own x)) x (.ins C dx [])) := fun b o e => by
  rw [upd_ne (fun z => by rw [z, nx] at e; cases e), upd_ne (fun z => by rw [z, nd] at e; cases e)]
  exact e
theorem Keep.same {r : Addr} {H0 H H' : Hp} (s : Same H0 H) (k : Keep r H H') (n : H0 r = none) : Same H0 H' := fun b o e => k b o (s b o e) (fun z => by rw [z, n] at e; cases e)
theorem RdAt.keep {C r a num : Addr} {H H' : Hp} {p : Nat} (h : RdAt C H r num p) (k : Keep a H H') (n : r ≠ a) : RdAt C H' r num p := by
  obtain ⟨dx, e⟩ := h
  exact ⟨dx, k _ _ e n⟩
theorem TuAt.keep {C z a r : Addr} {H H' : Hp} {S : Mu28.Abs} (h : TuAt C z H a S) (k : Keep r H H') (n : a ≠ r) {D dx : Addr} {fs : List (Str × V)} (hr : H r = some (.ins D dx fs)) : TuAt C z H' a S := by
  obtain ⟨⟨xs, hz⟩, dx, v, b, n', ha, hs⟩ := h
  exact ⟨⟨xs, k _ _ hz (lst_not_ins hz hr)⟩, dx, v, b, n', k _ _ ha n, hs.keep hr k⟩
section
variable {P : Program} {w : World} {K : PySem.W.Frag} {mg : Str → Option Value} {base : Heap} {CR CT : Addr} {sh : Int → Option (Nat × Nat)} {kA : Nat}
/-- answer_call -/
def spAnswer (C : Addr) : Sp := fun vs H Q _ => ∃ (z a q : Addr) (S : Mu28.Abs) (ns : List Int) (rs : List (List Int)) (x : Mu28.Call), vs = [.ref a, .ref q] ∧ TuAt C z H a S ∧ Good S ∧ CallAt H q ns rs ∧ Form (ns :: rs) x ∧ Does C z a S x H Q
/-- answers -/
def spAnswers (K : PySem.W.Frag) : Sp := fun vs H Q _ => ∃ (a : Addr) (l : List Int), vs = [.ref a] ∧ SqL K H a (ivs l) ∧ PyMu28.answers_asked l = true ∧ ∀ H' p, H' p = some (.lst (ivs (PyMu28.answers l))) → Q (.ref p) H'
theorem scAn : FnScope ["calls", "reader", "turner", "told", "answer"] ["calls"] (defScope sAnswers) := ⟨rfl, rfl, rfl, by decide +kernel, rfl, by decide +kernel, by decide +kernel⟩
theorem ok_answers {f fRI fMo fTc fTI : Addr} {fd fdRI fdMo fdTc fdTI : FuncData} (F : Fun K "answers" "answers" sAnswers f fd) (O : Own mg)
    (TR : RTxt K CR) (MR : Mk K CR fRI) (gR : mg "Reader" = some (.ref CR)) (GRI : FnOk P w K mg base CX0 1 fRI fdRI ["self", "numbers"] (spRInit CR)) (bRI : Binds K fdRI ["self", "numbers"] [])
    (GMo : FnOk P w K mg base CX0 1 fMo fdMo ["self"] (spMore K CR)) (bMo : Binds K fdMo ["self"] []) (mMo : Meth K CR "has_more" fMo)
    (GTc : FnOk P w K mg base CX0 3 fTc fdTc ["self"] (spCallR K CR PyMu28.shape)) (bTc : Binds K fdTc ["self"] []) (mTc : Meth K CR "take_call" fTc)
    (TT : TTxt K CT) (MT : Mk K CT fTI) (gT : mg "Turner" = some (.ref CT)) (GTI : FnOk P w K mg base CX0 1 fTI fdTI ["self"] (spTInit CT)) (bTI : Binds K fdTI ["self"] [])
    (DA : Def P w K mg base kA "answer_call" ["turner", "call"] (spAnswer CT)) (h3 : 3 ≤ kA) : FnOk P w K mg base CX0 (kA + 1) f fd ["calls"] (spAnswers K) := by
  obtain ⟨fa, fda, ma, ka, ba, Ga⟩ := DA
  refine F.ok scAn (fun vs H Q E h => ?_) (fun cdv A outer s H vs Q E hr h => ⟨_, pss_cons
    (ps_set (i := 1) scAn.nd rfl (Or.inl rfl) (pe_make MR GRI (hr.mono (by omega)) rfl gR bRI .nil pass0 (pa_cons (pv 0) pa_nil)))
    (pss_cons (ps_set (i := 2) scAn.nd rfl (Or.inl rfl) (pe_make0 MT GTI (hr.mono (by omega)) rfl gT bTI .nil pass0))
    (pss_cons (ps_set (i := 3) scAn.nd rfl (Or.inl rfl) (pe_lst pa_nil))
    (pss_cons (ps_while PassesOwn.never (pt_truth (pe_meth0 (pv 1) TR.cl mMo GMo (hr.mono (by omega)) bMo .nil pass0) (by intro _; rfl))
      (pss_cons (ps_set (i := 4) scAn.nd rfl (Or.inl rfl) (pe_call Ga hr rfl ma ka ba .nil pass0 (pa_cons (pv 2) (pa_cons (pe_meth0 (pv 1) TR.cl mTc GTc (hr.mono h3) bTc .nil pass0) pa_nil))))
      (pss_cons (ps_expr (pe_bm PySem.F.plainAttrs_list PySem.F.slot_list_append PySem.F.type_list_append mt_append (pv 3) (pa_cons (pe_callB call_len_seq (by rfl) O.len PySem.boot_len (pa_cons (pv 4) pa_nil)) pa_nil)))
      (pss_one (ps_expr (pe_bm PySem.F.plainAttrs_list PySem.F.slot_list_extend PySem.F.type_list_extend mt_extend (pv 3) (pa_cons (pv 4) pa_nil)))))))
    (pss_one (ps_ret (pv 3)))))), ?_⟩)
  · obtain ⟨a, l, rfl, _⟩ := h; rfl
  · obtain ⟨a, l, rfl, hs, hk, q⟩ := h
    obtain ⟨cs0, c1, c2, c3, c4⟩ := asked_inv hk
    refine ⟨_, rfl, fun r dr nr ndr ner => ⟨r, dr, a, rfl, upd_same, fun H1 R1 k1 => ⟨rfl, ?_⟩⟩⟩
    have sm1 : Same H H1 := k1.same (same_made nr ndr) nr
    refine fun tu dt nt ndt net => ⟨tu, dt, rfl, upd_same, fun H2 dt2 T2 k2 => ⟨rfl, ?_⟩⟩
    have sm12 : Same H1 H2 := k2.same (same_made nt ndt) nt
    have R2 : RdAt CR H2 r a 0 := by
      obtain ⟨dx, e⟩ := R1
      exact ⟨dx, sm12 _ _ e⟩
    have hrt : r ≠ tu := fun z => by
      obtain ⟨dx, e⟩ := R1
      rw [← z, e] at nt
      cases nt
    have sm2 := sm1.trans sm12
    refine ⟨by decide, fun tl ntl => ?_⟩
    have tlr : tl ≠ r := fun z => by
      obtain ⟨dx, e⟩ := R2
      rw [z, e] at ntl
      cases ntl
    have tlt : tl ≠ tu := fun z => by
      rw [z, T2] at ntl
      cases ntl
    have nt0 := Same.free sm1 nt
    have ntl0 := Same.free sm2 ntl
    refine ⟨fun n σ H' => ∃ (cs : List (List (List Int))) (S : Mu28.Abs) (p m : Nat) (ts : List Int) (v4 : Option V), n = cs.length ∧ σ = [some (.ref a), some (.ref r), some (.ref tu), some (.ref tl), v4] ∧ RdAt CR H' r a p ∧ Same H H' ∧
      PyFlat.calls PyMu28.shape m (l.drop p) = some cs ∧ (∀ c ∈ cs, Mu28Neutral.asked1 c = true) ∧ TuAt CT tl H' tu S ∧ Good S ∧ H' tl = some (.lst (ivs ts)) ∧ ts ++ PyFlat.told (PyFlat.played Mu28Neutral.step S cs) = PyMu28.answers l ∧ ts.length + 31 * cs.length ≤ 1240,
      ⟨cs0.length, cs0, none, 0, l.length, [], none, rfl, rfl, ?_, ?_, c1, c3, ?_, trivial, upd_same, c4.symm, ?_⟩, ?_⟩
    · obtain ⟨dx, e⟩ := R2
      exact ⟨dx, (upd_ne (Ne.symm tlr)).trans e⟩
    · exact same_upd sm2 ntl0
    · exact ⟨⟨_, upd_same⟩, dt2, .non, false, 0, (upd_ne (Ne.symm tlt)).trans T2, rfl⟩
    · show 0 + 31 * cs0.length ≤ 1240
      omega
    · rintro n σ H3 ⟨cs, S, p, m, ts, v4, rfl, rfl, R3, sm3, e1, e2, T3, g3, ht3, e3, e4⟩
      have hs3 : SqL K H3 a (ivs l) := sm3.seq hs
      obtain ⟨dx3, hr3⟩ := id R3
      refine ⟨_, rfl, r, dx3, _, rfl, hr3, rF_none _ _ (by decide +kernel) (by decide +kernel), r, a, p, l, rfl, R3, hs3, _, rfl, if_dec (fun c => ?_) fun c => ?_⟩
      · obtain ⟨z, rest, hd⟩ : ∃ z rest, l.drop p = z :: rest := ⟨_, _, List.drop_eq_getElem_cons c⟩
        have e1' := e1
        rw [hd] at e1
        obtain ⟨m', c, t, ds, rfl, y1, y2, rfl⟩ := calls_inv e1
        obtain ⟨n', k', xs, y3, y4, y5, rfl⟩ := call_inv y1
        obtain ⟨x, fx, cx⟩ := form_of (e2 _ List.mem_cons_self)
        have est := step_of cx S
        obtain ⟨gx, l1, l2, _⟩ := step_ok g3 x
        rw [played_cons, told_cons, est] at e3
        refine ⟨fun σ' H' => ∃ (p : Nat) (ts : List Int) (v4 : Option V), σ' = [some (.ref a), some (.ref r), some (.ref tu), some (.ref tl), v4] ∧ RdAt CR H' r a p ∧ Same H H' ∧ PyFlat.calls PyMu28.shape m' (l.drop p) = some ds ∧
          TuAt CT tl H' tu (Mu28.step S x).1 ∧ H' tl = some (.lst (ivs ts)) ∧ ts ++ PyFlat.told (PyFlat.played Mu28Neutral.step (Mu28.step S x).1 ds) = PyMu28.answers l ∧ ts.length + 31 * ds.length ≤ 1240,
          fun σ' H' ⟨p, ts, v4, z1, z2, z3, z4, z5, z6, z7, z8⟩ => ⟨ds.length, Nat.lt_succ_self _, ds, _, p, m', ts, v4, rfl, z1, z2, z3, z4, fun c hc => e2 c (List.mem_cons_of_mem _ hc), z5, gx, z6, z7, z8⟩, ?_⟩
        refine ⟨_, rfl, _, rfl, r, dx3, _, rfl, hr3, rF_none _ _ (by decide +kernel) (by decide +kernel), r, a, p, l, rest, t, z, _, xs, rfl, R3, hs3, hd, y1, fun H4 q4 p4 R4 d4 k4 nq4 C4 => ?_⟩
        have T4 := T3.keep k4 (Ne.symm hrt) hr3
        have ht4 := k4 _ _ ht3 tlr
        have sm4 := k4.same sm3 nr
        refine ⟨tl, tu, q4, S, _, xs, x, rfl, T4, g3, C4, fx, fun H5 u T5 k5 nu hu => ?_⟩
        have R5 := R4.keep k5 hrt
        have hu5 := hu
        have ht5 := k5 _ _ ht4 tlt
        have sm5 := k5.same sm4 nt0
        have utl : u ≠ tl := fun z => by rw [z, ht4] at nu; cases nu
        refine ⟨_, rfl, .inl ⟨rfl, _, SqL.of ht5⟩, _, rfl, u, _, rfl, .inl (SqL.of hu), tl, _, _, rfl, rfl, ht5, line_of ?_, ?_⟩
        · rw [List.length_map]
          omega
        · refine ⟨_, rfl, .inl ⟨rfl, _, SqL.of upd_same⟩, _, rfl, tl, u, _, _, rfl, rfl, upd_same, (upd_ne utl).trans hu, Nat.le_of_lt (line_of ?_), ?_⟩
          · rw [List.length_append, List.length_map, List.length_map]
            rw [List.length_cons] at e4
            show ts.length + 1 + _ ≤ _
            omega
          · obtain ⟨dx5, e5⟩ := R5
            refine ⟨p4, ts ++ ((((Mu28.step S x).2.length : Nat) : Int) :: (Mu28.step S x).2), _, rfl, ⟨dx5, (upd_ne (Ne.symm tlr)).trans ((upd_ne (Ne.symm tlr)).trans e5)⟩, ?_, by rw [d4]; exact y2, ?_, ?_, ?_, ?_⟩
            · exact same_upd (same_upd sm5 ntl0) ntl0
            · obtain ⟨_, dx, v, b, n, e, hS⟩ := T5
              refine ⟨⟨_, upd_same⟩, dx, v, b, n, (upd_ne (Ne.symm tlt)).trans ((upd_ne (Ne.symm tlt)).trans e), ?_⟩
              cases hq : (Mu28.step S x).1 with
              | none =>
                rw [hq] at hS
                exact hS
              | some t =>
                rw [hq] at hS
                obtain ⟨A, rfl, nA, hA, e⟩ := hS
                exact ⟨A, rfl, nA, (upd_ne nA).trans ((upd_ne nA).trans hA), e⟩
            · rw [upd_same]
              refine congrArg (fun x => some (HO.lst x)) ?_
              rw [List.length_map, ivs_snoc, ← List.map_append, List.append_assoc]
              rfl
            · rw [← e3, List.append_assoc]
              rfl
            · rw [List.length_append, List.length_cons]
              rw [List.length_cons] at e4
              omega
      · have hd : l.drop p = [] := List.drop_eq_nil_of_le (by omega)
        rw [hd, calls_nil] at e1
        cases e1
        have e3 : ts ++ [] = PyMu28.answers l := e3
        rw [List.append_nil] at e3
        rw [e3] at ht3
        exact ⟨_, rfl, q H3 tl ht3⟩
end
end Pan
namespace Pan
open PySem PySem.Spec PyProof.Rows L2
open PySem.W (Codec)
/-! ### max(list, default = k) -/
theorem int_foldl_max : ∀ (l : List Int) (a : Int), a ≤ l.foldl max a ∧ (∀ x ∈ l, x ≤ l.foldl max a) ∧ (l.foldl max a = a ∨ l.foldl max a ∈ l)
  | [], a => by simp
  | x :: l, a => by
    obtain ⟨h1, h2, h3⟩ := int_foldl_max l (max a x)
    rw [List.foldl_cons]
    refine ⟨by omega, fun y hy => ?_, ?_⟩
    · cases List.mem_cons.mp hy with
      | inl z => rw [z]; omega
      | inr z => exact h2 y z
    · rcases h3 with z | z
      · rw [z]
        by_cases c : x ≤ a
        · exact .inl (by omega)
        · refine .inr ?_
          have e : max a x = x := by omega
          rw [e]; exact List.mem_cons_self
      · exact .inr (List.mem_cons_of_mem _ z)
theorem reads_ids {h : Heap} : ∀ {ns : List Int} {its : List Value}, Vals (ivs ns) its → ReadsAll h its (ids ns) []
  | [], _, r => by cases r; exact .nil
  | n :: ns, _, r => by
    cases r with
    | cons a b =>
      obtain ⟨t, rfl⟩ := (show ∃ t, _ = Value.int n t from a)
      exact .cons (.int n t) (reads_ids b)
theorem alike_ids (ns : List Int) : PySem.W.AlikeAll (ids ns) := by
  refine ⟨fun x hx y hy => ?_, fun x hx z => ?_⟩
  · obtain ⟨i, _, rfl⟩ := List.mem_map.mp hx
    obtain ⟨j, _, rfl⟩ := List.mem_map.mp hy
    rfl
  · obtain ⟨i, _, rfl⟩ := List.mem_map.mp hx
    cases z
/-- the greatest of a list of ints; of none the default -/
def rMaxOr (K : PySem.W.Frag) : List V → List V → Hp → VK → Prop := fun vs zs H Q => ∃ (a : Addr) (ns : List Int) (d : Int), vs = [.ref a] ∧ zs = [.int d] ∧ SqL K H a (ivs ns) ∧
  ∀ m : Int, (ns = [] → m = d) → (ns ≠ [] → m ∈ ns ∧ ∀ y ∈ ns, y ≤ m) → Q (.int m) H
theorem cr_maxOr {X : Cx} (hc : X.calm = true) (hu : X.A.units + 64 < cLine) : CallRK X (.builtin "max") ["default"] (rMaxOr X.K) := by
  intro pins s σ H vs zs us ws Q I r rz h
  obtain ⟨a, ns, d, rfl, rfl, hs, q⟩ := h
  obtain ⟨its, rv, hl, _⟩ := I.list hs
  rw [Vals.ref1 r]
  cases rz with
  | cons z0 z1 =>
    cases z1
    obtain ⟨td, rfl⟩ := (show ∃ t, _ = Value.int d t from z0)
    refine PySem.W.max_list_default (vs := its.toArray) (xs := ids ns) (as := []) (I.ok.hd hc) hl.isList (by rw [List.toList_toArray]; exact reads_ids rv) (alike_ids ns) ?_ (fun e h' tk k => ?_) fun y ys i v h' tk bs e hv hr k => ?_
    · rw [depth_ints]
      omega
    · have e : ns = [] := by cases ns with
        | nil => rfl
        | cons _ _ => cases e
      exact ⟨.int d, H, I.kept k, ⟨td, rfl⟩, q d (fun _ => rfl) fun z => absurd e z⟩
    · cases ns with
      | nil => cases e
      | cons n ns =>
        have e1 : PyData.int n :: ids ns = y :: ys := e
        injection e1 with e1 e2
        rw [← e1, ← e2] at hr
        have hm : PySem.W.maxD (.int n) (ids ns) = .int (ns.foldl max n) := PySem.W.maxD_ints n ns
        rw [hm] at hr
        cases hr with
        | int i t =>
          obtain ⟨p1, p2, p3⟩ := int_foldl_max ns n
          refine ⟨.int _, H, I.kept k, ⟨t, rfl⟩, q _ (fun z => by cases z) fun _ => ⟨?_, fun y hy => ?_⟩⟩
          · rcases p3 with z | z
            · rw [z]; exact List.mem_cons_self
            · exact List.mem_cons_of_mem _ z
          · cases List.mem_cons.mp hy with
            | inl z => rw [z]; exact p1
            | inr z => exact p2 y z
/-! ### {t: v}, t a tuple -/
def tOneT (tk tv : TE) : TE := fun σ H Q => ∀ p, H p = none → tk σ (upd H p (.dT [])) fun x H1 => tv σ H1 fun y H2 => H2 p = some (.dT []) ∧ ∃ (a : Addr) (ks : List L2.Key), x = .ref a ∧ H2 a = some (.tup (ks.map kV)) ∧
  Q (.ref p) (upd H2 p (.dT [(ks, y)]))
theorem pe_oneT {X : Cx} {k v : Expr} {tk tv : TE} {pos : Pos} (hu : X.A.units + 64 < cLine) (hk : PE X k tk) (hv : PE X v tv) : PE X (.Dict [some k] [v] pos) (tOneT tk tv) := by
  refine ⟨fun pins s σ H Q I q => ?_⟩
  have hn := I.hok.fresh (Nat.le_refl s.heap.objs.size)
  have I1 := I.laid (a := s.heap.objs.size) (o := .dT []) (h' := s.heap.push { cls := .type "dict", data := .dict #[] }) (t' := s.toks) (fun _ _ z => Heap.get?_push_of_some _ z) (Nat.le_refl _) (dt_empty s.heap I.big)
  refine wpAny_Dict_any rfl rfl (by simp) (by simp) (pairTrees_cons_walk (thn (hk.run pins _ σ _ _ I1 (q _ hn)) fun u s1 ⟨x, H1, I2, rx, q1⟩ => thn (hv.run pins s1 σ H1 _ I2 q1) fun w2 s2 ⟨y, H2, I3, ry, q2⟩ => pairTrees_nil_walk ?_))
  obtain ⟨e, a, ks, rfl, ea, q3⟩ := q2
  cases (show u = Value.ref a from rx)
  obtain ⟨z, hd, xs, rel, dd⟩ := dt_of I3.hok e
  have hx : xs = [] := by cases rel; rfl
  subst hx
  unfold storeAll
  rw [List.forIn_cons]
  refine wpAny_bind (wpAny_bind (wpAny_dictSet_heap (hsz := Nat.zero_le _) (knd := tupleKind (mixKind X.prog X.w)) (show X.A.units < cLine by omega) (key_of I3.hok ea) dd fun h' dd' hs => wpAny_pure ?_))
  refine wpAny_pure ⟨.ref s.heap.objs.size, _, ?_, rfl, q3⟩
  obtain ⟨o, es, ep, ho, h2, h3, h4, _, h5⟩ := dd'
  have nm : ∀ c ys, H2 c = some (.tup ys) → upd H2 s.heap.objs.size (.dT [(ks, y)]) c = some (.tup ys) := fun c ys ec => by
    rw [upd_ne (ne_of ec e (fun z => nomatch z))]
    exact ec
  refine d_write I3 (by rw [e]; exact True.intro) hs ⟨o, ho⟩ ⟨by show 1 ≤ sizeLine; decide, hd, _, ?_, o, es, ep, ho, h2, h3, h4, h5⟩
  exact .cons ⟨rfl, nm _ _ ea, ry⟩ .nil
end Pan
namespace Pan
open PySem PySem.Spec PyProof.Rows L2
open PySem.W (Codec)
/-! ### the order of the keys -/
abbrev kd (s : List Int) : PyData := .list (s.map fun x => .tuple [.int (x.natAbs : Nat), .int x])
theorem kd_cons (x : Int) (s : List Int) : PySem.W.keyToks (kd (x :: s)) = .inl 1 :: .inl 1 :: .inl ((x.natAbs : Nat) : Int) :: .inl 1 :: .inl x :: .inl 0 :: PySem.W.keyToks (kd s) := by
  simp [kd, PySem.W.keyToks, PySem.W.keyToksAll]
theorem kd_nil : PySem.W.keyToks (kd []) = [.inl 0] := by simp [kd, PySem.W.keyToks, PySem.W.keyToksAll]
theorem inl_lt (x y : Int) (r t : List itemOrd.α) (h : x ≠ y) : PyProof.Rows.lexLt itemOrd (Sum.inl x :: r) (Sum.inl y :: t) = decide (x < y) :=
  lex_diff (O := itemOrd) fun z => h (by injection z)
theorem inl_eq (x : Int) (r t : List itemOrd.α) : PyProof.Rows.lexLt itemOrd (Sum.inl x :: r) (Sum.inl x :: t) = PyProof.Rows.lexLt itemOrd r t := lex_self (O := itemOrd) (Sum.inl x) r t
theorem kd_lt : ∀ s t : List Int, PySem.W.dataLt (kd s) (kd t) = true ↔ sLt s t
  | [], [] => by
    unfold PySem.W.dataLt
    rw [kd_nil, inl_eq]
    exact ⟨fun h => absurd (show false = true from h) Bool.false_ne_true, fun h => False.elim h⟩
  | [], y :: t => by
    unfold PySem.W.dataLt
    rw [kd_nil, kd_cons, inl_lt 0 1 _ _ (by decide)]
    exact ⟨fun _ => True.intro, fun _ => rfl⟩
  | x :: s, [] => by
    unfold PySem.W.dataLt
    rw [kd_nil, kd_cons, inl_lt 1 0 _ _ (by decide)]
    exact ⟨fun h => absurd (show false = true from h) Bool.false_ne_true, fun h => False.elim h⟩
  | x :: s, y :: t => by
    have ih := kd_lt s t
    unfold PySem.W.dataLt at ih ⊢
    rw [kd_cons, kd_cons, inl_eq, inl_eq]
    show _ ↔ (lt1 x y ∨ (x = y ∧ sLt s t))
    by_cases c : x.natAbs = y.natAbs
    · rw [c, inl_eq, inl_eq]
      by_cases d : x = y
      · subst d
        rw [inl_eq, inl_eq, ih]
        exact ⟨fun h => .inr ⟨rfl, h⟩, fun h => h.elim (fun z => absurd z (lt1_irrefl x)) fun z => z.2⟩
      · rw [inl_lt _ _ _ _ d, decide_eq_true_iff]
        unfold lt1
        exact ⟨fun h => .inl (.inr ⟨c, h⟩), fun h => h.elim (fun z => z.elim (fun z => absurd c (Nat.ne_of_lt z)) fun z => z.2) fun z => absurd z.1 d⟩
    · rw [inl_lt _ _ _ _ (fun z => c (by omega)), decide_eq_true_iff]
      unfold lt1
      exact ⟨fun h => .inl (.inl (by omega)), fun h => h.elim (fun z => z.elim (fun z => by omega) fun z => absurd z.1 c) fun z => absurd (by rw [z.1]) c⟩
theorem kd_alike : ∀ s t : List Int, PySem.W.alike (kd s) (kd t) = true
  | [], _ => by simp [kd, PySem.W.alike, PySem.W.alikeAll]
  | _ :: _, [] => by simp [kd, PySem.W.alike, PySem.W.alikeAll]
  | x :: s, y :: t => by
    have ih := kd_alike s t
    simp [kd, PySem.W.alike, PySem.W.alikeAll] at ih ⊢
    exact ih
theorem kd_depth (s : List Int) : (kd s).depth ≤ 2 := by
  have : ∀ s : List Int, PyData.depthAll (s.map fun x => PyData.tuple [.int (x.natAbs : Nat), .int x]) ≤ 1 := by
    intro s
    induction s with
    | nil => exact Nat.zero_le _
    | cons x s ih =>
      show max 1 (PyData.depthAll (s.map fun x => PyData.tuple [.int (x.natAbs : Nat), .int x])) ≤ 1
      omega
  have := this s
  show PyData.depthAll _ + 1 ≤ 2
  omega
/-- the first place whose key is the least -/
theorem argBest_is {bt : Nat → Nat → Bool} (irr : ∀ i, bt i i = false) (tr : ∀ i j k, bt i j = true → bt j k = true → bt i k = true) : ∀ n, argBest bt n ≤ n ∧ ∀ j, j ≤ n → bt j (argBest bt n) = false
  | 0 => ⟨Nat.le_refl _, fun j hj => by
    have : j = 0 := by omega
    rw [this]
    exact irr 0⟩
  | n + 1 => by
    obtain ⟨h1, h2⟩ := argBest_is irr tr n
    cases e : bt (n + 1) (argBest bt n) with
    | true =>
      have z : argBest bt (n + 1) = n + 1 := by rw [argBest, e]; rfl
      rw [z]
      refine ⟨Nat.le_refl _, fun j hj => ?_⟩
      by_cases c : j = n + 1
      · rw [c]; exact irr _
      · cases q : bt j (n + 1) with
        | false => rfl
        | true =>
          have a := tr _ _ _ q e
          rw [h2 j (by omega)] at a
          cases a
    | false =>
      have z : argBest bt (n + 1) = argBest bt n := by rw [argBest, e]; rfl
      rw [z]
      refine ⟨by omega, fun j hj => ?_⟩
      by_cases c : j = n + 1
      · rw [c]; exact e
      · exact h2 j (by omega)
/-! ### heaps that have grown by lists and tuples alone -/
def IsSeq (o : HO) : Prop := (∃ xs, o = .lst xs) ∨ ∃ xs, o = .tup xs
structure Ext (H H' : Hp) : Prop where
  same : Same H H'
  new : ∀ b o, H' b = some o → H b = some o ∨ IsSeq o
theorem Ext.refl (H : Hp) : Ext H H := ⟨Same.refl H, fun _ _ h => .inl h⟩
theorem Ext.trans {H H1 H2 : Hp} (a : Ext H H1) (b : Ext H1 H2) : Ext H H2 := ⟨a.same.trans b.same, fun c o h => (b.new c o h).elim (a.new c o) .inr⟩
theorem Ext.upd {H H' : Hp} {p : Addr} {o : HO} (a : Ext H H') (hp : H p = none) (q : IsSeq o) : Ext H (upd H' p o) := by
  refine ⟨same_upd a.same hp, fun c u h => ?_⟩
  by_cases e : c = p
  · rw [e, upd_same] at h
    cases h
    exact .inr q
  · rw [upd_ne e] at h
    exact a.new c u h
/-- a key as it is tracked: p a list of tuples -/
def KeyIn (H : Hp) (p : Addr) (ts : List Addr) (s : List Int) : Prop := H p = some (.lst (rvs ts)) ∧ ts.length = s.length ∧ ∀ (i : Nat) (t : Addr) (x : Int), ts[i]? = some t → s[i]? = some x → H t = some (.tup [.int (x.natAbs : Nat), .int x])
/-- a key as it lies in the model's heap, at places of z -/
def Cells (z : Addr → Prop) (h : Heap) : List Value → List Int → Prop
  | [], [] => True
  | v :: vs, x :: s => (∃ t : Addr, v = .ref t ∧ z t ∧ ∃ t1 t2, IsTup h t #[.int ((x.natAbs : Nat) : Int) t1, .int x t2]) ∧ Cells z h vs s
  | _, _ => False
def KeyRaw (z : Addr → Prop) (h : Heap) (p : Addr) (s : List Int) : Prop := z p ∧ ∃ its : List Value, PlainL h p its.toArray ∧ Cells z h its s
theorem Cells.keep {z : Addr → Prop} {h h' : Heap} (k : ∀ t x, z t → (∃ t1 t2, IsTup h t #[.int ((x.natAbs : Nat) : Int) t1, .int x t2]) → ∃ t1 t2, IsTup h' t #[.int ((x.natAbs : Nat) : Int) t1, .int x t2]) : ∀ {vs : List Value} {s : List Int}, Cells z h vs s → Cells z h' vs s
  | [], [], _ => True.intro
  | [], _ :: _, c => c
  | _ :: _, [], c => c
  | v :: vs, x :: s, ⟨⟨t, e, hz, q⟩, c⟩ => ⟨⟨t, e, hz, k t x hz q⟩, c.keep k⟩
theorem Cells.reads {z : Addr → Prop} {h : Heap} : ∀ {vs : List Value} {s : List Int}, Cells z h vs s → ReadsAll h vs (s.map fun x => .tuple [.int (x.natAbs : Nat), .int x]) []
  | [], [], _ => .nil
  | [], _ :: _, c => False.elim c
  | _ :: _, [], c => False.elim c
  | v :: vs, x :: s, ⟨⟨t, e, hz, t1, t2, o, ho, hc, n, hd⟩, c⟩ => by
    subst e
    have a : Reads h (.ref t) (.tuple [.int (x.natAbs : Nat), .int x]) ([] ++ ([] ++ [])) := .tuple ho hc hd (.cons (.int _ t1) (.cons (.int _ t2) .nil))
    exact .cons a c.reads
theorem KeyRaw.reads {z : Addr → Prop} {h : Heap} {p : Addr} {s : List Int} (k : KeyRaw z h p s) : ∃ as, Reads h (.ref p) (kd s) as := by
  obtain ⟨_, its, ⟨o, n, ho, hc, _, hd⟩, c⟩ := k
  exact ⟨_, .list ho hc hd (by rw [List.toList_toArray]; exact c.reads)⟩
theorem refs_raw : ∀ {as : List Addr} {us : List Value}, Vals (rvs as) us → us = as.map Value.ref
  | [], _, r => by cases r; rfl
  | a :: as, _, r => by
    cases r with
    | cons h t =>
      rw [refs_raw t, show _ = Value.ref a from h]
      rfl
end Pan
namespace Pan
open PySem PySem.Spec PyProof.Rows L2
open PySem.W (Codec)
theorem rel_ref {x : V} {t : Addr} (r : RelV x (.ref t)) : x = .ref t := by
  cases x with
  | ref a => cases (show Value.ref t = Value.ref a from r); rfl
  | non => cases (show Value.ref t = Value.none from r)
  | bl b => cases (show Value.ref t = Value.bool b from r)
  | ty b => cases (show Value.ref t = Value.type b from r)
  | int i => obtain ⟨_, e⟩ := (show ∃ u, Value.ref t = Value.int i u from r); cases e
  | str i => obtain ⟨_, e⟩ := (show ∃ u, Value.ref t = Value.str i u from r); cases e
  | byt i => obtain ⟨_, e⟩ := (show ∃ u, Value.ref t = Value.bytes i u from r); cases e
  | flt i => obtain ⟨_, e⟩ := (show ∃ u, Value.ref t = Value.float i u from r); cases e
theorem rel_int {x : V} {i : Int} {t : Tok} (r : RelV x (.int i t)) : x = .int i := by
  cases x with
  | int j => obtain ⟨_, e⟩ := (show ∃ u, Value.int i t = Value.int j u from r); cases e; rfl
  | ref a => cases (show Value.int i t = Value.ref a from r)
  | non => cases (show Value.int i t = Value.none from r)
  | bl b => cases (show Value.int i t = Value.bool b from r)
  | ty b => cases (show Value.int i t = Value.type b from r)
  | str j => obtain ⟨_, e⟩ := (show ∃ u, Value.int i t = Value.str j u from r); cases e
  | byt j => obtain ⟨_, e⟩ := (show ∃ u, Value.int i t = Value.bytes j u from r); cases e
  | flt j => obtain ⟨_, e⟩ := (show ∃ u, Value.int i t = Value.float j u from r); cases e
theorem Cells.twin {z : Addr → Prop} {h : Heap} : ∀ {xs : List V} {us ws : List Value} {s : List Int}, Vals xs us → Vals xs ws → Cells z h us s → Cells z h ws s
  | [], _, _, _, a, b, c => by cases a; cases b; exact c
  | x :: xs, _, _, s, a, b, c => by
    cases a with
    | cons a1 a2 =>
      cases b with
      | cons b1 b2 =>
        cases s with
        | nil => exact False.elim c
        | cons n s =>
          obtain ⟨⟨t, e, q⟩, c⟩ := c
          subst e
          cases rel_ref a1
          cases (show _ = Value.ref t from b1)
          exact ⟨⟨t, rfl, q⟩, c.twin a2 b2⟩
section
variable {P : Program} {w : World} {fs : List Addr} {H1 H2 : Hp} {h1 h2 : Heap} {z : Addr → Prop}
theorem pair_after (un : Un fs [] H1 H2 h1 h2) (ok1 : HOk P w H1 h1) (ok2 : HOk P w H2 h2) (e : Same H1 H2) (new : ∀ b, z b → H1 b = none ∨ ∃ o, H1 b = some o ∧ IsSeq o) (hfs : ∀ b ∈ fs, ¬ z b)
    (t : Addr) (x : Int) (hz : z t) (k : ∃ t1 t2, IsTup h1 t #[.int ((x.natAbs : Nat) : Int) t1, .int x t2]) : ∃ t1 t2, IsTup h2 t #[.int ((x.natAbs : Nat) : Int) t1, .int x t2] := by
  obtain ⟨t1, t2, o, ho, hc, n, hd⟩ := k
  rcases new t hz with q | ⟨u, q, ⟨xs, rfl⟩ | ⟨xs, rfl⟩⟩
  · exact ⟨t1, t2, o, un.keep t o ho q (fun y => hfs t y hz) (by simp), hc, n, hd⟩
  · obtain ⟨_, its, m, _, g⟩ := ok1 t _ q
    rw [ho] at g
    cases g
    injection hc with hc
    exact absurd hc (by decide)
  · obtain ⟨_, its, r, o', ho', _, n', hd'⟩ := ok1 t _ q
    rw [ho] at ho'
    cases ho'
    rw [hd] at hd'
    injection hd' with y1 y2
    have y : its = [.int ((x.natAbs : Nat) : Int) t1, .int x t2] := by
      have := congrArg Array.toList y1
      simpa using this.symm
    subst y
    cases r with
    | cons r1 r2 =>
      cases r2 with
      | cons r2 r3 =>
        cases r3
        cases rel_int r1
        cases rel_int r2
        obtain ⟨_, its2, s2, o2, ho2⟩ := ok2 t _ (e _ _ q)
        cases s2 with
        | cons s1 s2 =>
          cases s2 with
          | cons s2 s3 =>
            cases s3
            obtain ⟨u1, rfl⟩ := (show ∃ u, _ = Value.int ((x.natAbs : Nat) : Int) u from s1)
            obtain ⟨u2, rfl⟩ := (show ∃ u, _ = Value.int x u from s2)
            exact ⟨u1, u2, o2, ho2⟩
theorem KeyRaw.after (un : Un fs [] H1 H2 h1 h2) (ok1 : HOk P w H1 h1) (ok2 : HOk P w H2 h2) (e : Same H1 H2) (new : ∀ b, z b → H1 b = none ∨ ∃ o, H1 b = some o ∧ IsSeq o) (hfs : ∀ b ∈ fs, ¬ z b)
    {p : Addr} {s : List Int} (k : KeyRaw z h1 p s) : KeyRaw z h2 p s := by
  obtain ⟨hz, its, ⟨o, n, ho, hc, hdi, hd⟩, c⟩ := k
  have c2 : Cells z h2 its s := c.keep (pair_after un ok1 ok2 e new hfs)
  rcases new p hz with q | ⟨u, q, ⟨xs, rfl⟩ | ⟨xs, rfl⟩⟩
  · exact ⟨hz, its, ⟨o, n, un.keep p o ho q (fun y => hfs p y hz) (by simp), hc, hdi, hd⟩, c2⟩
  · obtain ⟨_, its1, m, r1, g⟩ := ok1 p _ q
    rw [ho] at g
    cases g
    injection hd with y1 y2
    have y : its1 = its := by
      have := congrArg Array.toList y1
      simpa using this
    subst y
    obtain ⟨_, its2, m2, r2, g2⟩ := ok2 p _ (e _ _ q)
    exact ⟨hz, its2, ⟨_, m2, g2, rfl, rfl, rfl⟩, c2.twin r1 r2⟩
  · obtain ⟨_, its1, r, o', ho', hc', _⟩ := ok1 p _ q
    rw [ho] at ho'
    cases ho'
    rw [hc] at hc'
    injection hc' with hc'
    exact absurd hc' (by decide)
theorem KeyIn.raw (ok : HOk P w H2 h2) {p : Addr} (hp : z p) : ∀ {ts : List Addr} {s : List Int}, (∀ t ∈ ts, z t) → KeyIn H2 p ts s → KeyRaw z h2 p s := by
  intro ts s ht ⟨k1, k2, k3⟩
  obtain ⟨w0, its, n, r, g⟩ := ok p _ k1
  refine ⟨hp, its, ⟨_, n, g, rfl, rfl, rfl⟩, ?_⟩
  rw [refs_raw r]
  clear k1 r g w0
  induction ts generalizing s with
  | nil =>
    cases s with
    | nil => exact True.intro
    | cons _ _ => cases k2
  | cons t ts ih =>
    cases s with
    | nil => cases k2
    | cons x s =>
      refine ⟨⟨t, rfl, ht t List.mem_cons_self, ?_⟩, ih (fun u hu => ht u (List.mem_cons_of_mem _ hu)) (by simpa using k2) fun i u y h1 h2 => k3 (i + 1) u y (by simpa using h1) (by simpa using h2)⟩
      obtain ⟨_, its2, r2, q⟩ := ok t _ (k3 0 t x rfl rfl)
      cases r2 with
      | cons s1 s2 =>
        cases s2 with
        | cons s2 s3 =>
          cases s3
          obtain ⟨u1, rfl⟩ := (show ∃ u, _ = Value.int ((x.natAbs : Nat) : Int) u from s1)
          obtain ⟨u2, rfl⟩ := (show ∃ u, _ = Value.int x u from s2)
          exact ⟨u1, u2, q⟩
end
end Pan
namespace Pan
open PySem PySem.Spec PyProof.Rows L2
open PySem.W (Codec)
/-! ### min(list of lists, key = a def of ours) -/
/-- a new list of new tuples, size by size -/
def spStanding : Sp := fun vs H Q _ => ∃ (a : Addr) (s : List Int), vs = [.ref a] ∧ H a = some (.lst (ivs s)) ∧ s.length ≤ 100 ∧
  ∀ H' p ts, Ext H H' → H p = none → (∀ t ∈ ts, H t = none) → KeyIn H' p ts s → Q (.ref p) H'
/-- the first of them: none is ahead of it -/
def rFirst (K : PySem.W.Frag) (f : Addr) : List V → List V → Hp → VK → Prop := fun vs zs H Q => ∃ (l : Addr) (as : List Addr) (ss : List (List Int)), vs = [.ref l] ∧ zs = [.ref f] ∧ SqL K H l (rvs as) ∧ RowsAt H as ss ∧ 0 < ss.length ∧ (∀ s ∈ ss, s.length ≤ 100) ∧
  ∀ H' (i : Nat) (a : Addr) (s : List Int), Ext H H' → as[i]? = some a → ss[i]? = some s → (∀ t ∈ ss, ¬ sLt t s) → Q (.ref a) H'
theorem cr_first {X : Cx} {k : Nat} {f : Addr} {fd : FuncData} (hc : X.calm = true) (hr : Room (k + 1) X.A) (F : FnOk X.prog X.w X.K X.mg X.base CX0 k f fd ["stack"] spStanding) (hb : Binds X.K fd ["stack"] []) :
    CallRK X (.builtin "min") ["key"] (rFirst X.K f) := by
  intro pins s σ H vs zs us ws Q I r rz h
  obtain ⟨l, as, ss, rfl, rfl, hs, hra, hn, hl, q⟩ := h
  obtain ⟨its, rv, pl, _⟩ := I.list hs
  rw [Vals.ref1 r]
  cases rz with
  | cons z0 z1 =>
    cases z1
    cases (show _ = Value.ref f from z0)
    have hu := hr.units0
    have eit := refs_raw rv
    have hlen : its.toArray.size = ss.length := by
      rw [eit, ← hra.1]
      simp
    refine call_min_walkK (PySem.W.iter_listW (vs := its.toArray) (A := X.A.in1) (I.ok.hd hc) pl.isList fun s₂ e W st hfp hw hk => ?_)
    have hsz : s₂.heap.objs.size = s.heap.objs.size + 1 := by rw [e]; exact size_push' ..
    generalize hit : s.heap.objs.size = it at W st hfp hw hsz ⊢
    generalize hS : s₂.heap.objs.size = S at hfp hsz ⊢
    -- an extension of the heap that knows nothing of the walk
    let J : Shared → Prop := fun s' => ∃ H', Inv X pins σ H' s' ∧ Ext H H' ∧ H' it = none ∧ H' S = none
    let Z : Addr → Prop := fun p => p ≠ S ∧ p ≠ it ∧ p ∉ frs X.stack ∧ H p = none
    let Vv : Nat → Value → Shared → Prop := fun i k s' => ∃ p, k = .ref p ∧ KeyRaw Z s'.heap p (ss.getD i [])
    have fIt : ∀ H1 : Hp, H1 it = none → FpOk X pins H1 it := fun H1 n => I.fpOk (by omega) n
    have fS : ∀ H1 : Hp, H1 S = none → FpOk X pins H1 S := fun H1 n => I.fpOk (by omega) n
    have nstk : ∀ b, b = it ∨ b = S → b ∉ frs X.stack := fun b hb z => by
      have g : FpOk X pins (fun _ => none) b := by
        rcases hb with y | y
        · rw [y]; exact fIt _ rfl
        · rw [y]; exact fS _ rfl
      rcases List.mem_cons.mp (I.stkSub b z) with y | y
      · exact g.2.1 y
      · exact g.2.2.1 y
    have keepJ : ∀ s1 s2, J s1 → Moved (S :: [it]) (fun a b => b = a) s1 s2 → J s2 := by
      rintro s1 s2 ⟨H1, I1, e1, n1, n2⟩ m
      obtain ⟨h2, g2, d2, t2, o2⟩ := s2
      have eg : g2 = s1.gens := m.gens
      have ed : d2 = s1.drawn := m.drawn
      have eo : o2 = s1.os := m.os
      subst eg ed eo
      have off : ∀ b u, H1 b = some u → b ∉ S :: [it] := fun b u hb z => by
        simp only [List.mem_cons, List.not_mem_nil, or_false] at z
        rcases z with y | y
        · rw [y, n2] at hb; cases hb
        · rw [y, n1] at hb; cases hb
      refine ⟨H1, I1.step (g' := s1.gens) (d' := s1.drawn) (ch := S :: [it]) (fun b hb => ?_) (fun b o _ _ hb g _ => m.heap b o hb g) (fun b o _ _ hb g _ => ⟨o.slots, m.heap b o hb g⟩) (fun _ _ _ _ n => n) (fun b o hb g => ⟨o, m.heap b o hb g⟩)
        (fun _ _ g => g) (fun _ _ _ g => g) (fun b ps g => ⟨#[], by rw [g]; simp⟩) (fun mm hm => ?_) (fun b u hb => ?_) I1.bare, e1, n1, n2⟩
      · simp only [List.mem_cons, List.not_mem_nil, or_false] at hb
        rcases hb with y | y
        · have g := fS H1 n2
          rw [y]
          exact ⟨g.2.2.2.1, g.2.1, g.2.2.2.2.1, g.2.2.2.2.2⟩
        · have g := fIt H1 n1
          rw [y]
          exact ⟨g.2.2.2.1, g.2.1, g.2.2.2.2.1, g.2.2.2.2.2⟩
      · obtain ⟨o, es, ep, ho, w0⟩ := hm
        refine ⟨o, es, ep, m.heap _ o (fun z => ?_) ho, w0⟩
        simp only [List.mem_cons, List.not_mem_nil, or_false] at z
        rcases z with y | y
        · exact (fS H1 n2).2.1 y.symm
        · exact (fIt H1 n1).2.1 y.symm
      · refine (I1.hok b u hb).stay (fun c v hc g => m.heap c v ?_ g) (fun _ g => g) fun _ _ g => g
        rcases hc with y | y
        · rw [y]; exact off b u hb
        · exact off c _ y
    have keepV : ∀ i k s1 s2, Vv i k s1 → Moved (S :: [it]) (fun a b => b = a) s1 s2 → Vv i k s2 := by
      rintro i k s1 s2 ⟨p, rfl, zp, its2, pl2, c⟩ m
      have kp : ∀ b, Z b → ∀ o, s1.heap.get? b = some o → s2.heap.get? b = some o := fun b zb o ho => m.heap b o (by
        simp only [List.mem_cons, List.not_mem_nil, or_false, not_or]
        exact ⟨zb.1, zb.2.1⟩) ho
      exact ⟨p, rfl, zp, its2, pl2.at (kp p zp), c.keep fun t x zt ⟨t1, t2, o, ho, w0⟩ => ⟨t1, t2, o, kp t zt o ho, w0⟩⟩
    have J0 : J s₂ := by
      refine ⟨H, ?_, Ext.refl H, I.hok.fresh (by omega), I.hok.fresh (by omega)⟩
      rw [e]
      exact I.kept (t' := s.toks) fun b u g => Heap.get?_push_of_some _ g
    have item : ∀ (i : Nat) (v : Value), its.toArray[i]? = some v → ∃ a x, as[i]? = some a ∧ ss[i]? = some x ∧ v = .ref a ∧ H a = some (.lst (ivs x)) ∧ ss.getD i [] = x := by
      intro i v hv
      rw [eit] at hv
      have hv' : (as.map Value.ref)[i]? = some v := by simpa using hv
      rw [List.getElem?_map] at hv'
      cases ea : as[i]? with
      | none => rw [ea] at hv'; cases hv'
      | some a =>
        rw [ea] at hv'
        obtain ⟨x, hx, ha⟩ := hra.get ea
        exact ⟨a, x, rfl, hx, (Option.some.inj hv').symm, ha, by rw [List.getD_eq_getElem?_getD, hx]; rfl⟩
    refine ⟨_, _, _, _, _, _, _, J, Vv, fun i j => PySem.W.dataLt (kd (ss.getD i [])) (kd (ss.getD j [])), rfl, W, st, hfp, by rw [hlen]; exact hn, ⟨keepJ, keepV, ?turn, ?cmp⟩, J0, ?fin⟩
    case turn =>
      rintro i v s1 o Q1 E1 hi hv ⟨H1, I1, e1, n1, n2⟩ hst hSo hQ
      obtain ⟨a, x, ea, ex, rfl, ha, eD⟩ := item i v hv
      have hx : x ∈ ss := List.mem_of_getElem? ex
      refine wpAny_call (codeAny_mono (F.run X.A.in1 X.stack s1 H1 ⟨[.ref a], []⟩ [.ref a] [.ref a] (fun u H2 => Ext H1 H2 ∧ ∃ p ts, u = .ref p ∧ H1 p = none ∧ (∀ t ∈ ts, H1 t = none) ∧ KeyIn H2 p ts x) (fun _ _ _ => True) hr.in1 I1.env0.in1 (hb s1 [.ref a] I1.kIn rfl) (.cons rfl .nil)
        ⟨a, x, rfl, e1.same _ _ ha, hl x hx, fun H' p ts e n nt ky => ⟨e, p, ts, rfl, n, nt, ky⟩⟩) fun r s2 hq => ?_)
      cases r with
      | error e => exact False.elim hq
      | ok fl =>
        cases fl with
        | next => exact False.elim hq
        | brk => exact False.elim hq
        | cont => exact False.elim hq
        | ret u =>
          obtain ⟨uv, H2, os, bare, un, hok, ru, e2, p, ts, rfl, np, nt, ky⟩ := hq
          cases (show u = Value.ref p from ru)
          have I2 := I1.call' (ch := []) os un hok bare (fun b z => absurd z (by simp))
          obtain ⟨⟨oi, hoi, ci⟩, hli⟩ := hst
          have m1 : H2 it = none := un.free it oi hoi n1 (by simp)
          have m2 : H2 S = none := un.free S o hSo n2 (by simp)
          have off : ∀ b u, H2 b = some u → H1 b = none → Z b := fun b u hb hn1 => ⟨fun z => (by rw [z, m2] at hb; cases hb), fun z => (by rw [z, m1] at hb; cases hb), fun z => (by rw [I2.stkFree b z] at hb; cases hb), Same.free e1.same hn1⟩
          have ki := un.keep it oi hoi n1 (nstk it (.inl rfl)) (by simp)
          have kS := un.keep S o hSo n2 (nstk S (.inr rfl)) (by simp)
          refine hQ (.ref p) s2 ⟨H2, I2, e1.trans e2, m1, m2⟩ ⟨⟨oi, ki, ci⟩, ?_⟩ kS ⟨p, rfl, ?_⟩ fun j k' ⟨p', ep', kr⟩ => ⟨p', ep', kr.after un I1.hok hok e2.same (fun b zb => ?_) fun b hb zb => zb.2.2.1 hb⟩
          · obtain ⟨its3, rv3, pl3, _⟩ := I2.list ((e1.same.trans e2.same).seq hs)
            rw [eit, ← refs_raw rv3]
            exact pl3.isList
          · rw [eD]
            refine KeyIn.raw hok (off p _ ky.1 np) (fun t ht => ?_) ky
            obtain ⟨j, hj⟩ := List.getElem?_of_mem ht
            have hjl := (List.getElem?_eq_some_iff.mp hj).1
            have hjs : x[j]? = some (x[j]'(by rw [← ky.2.1]; exact hjl)) := List.getElem?_eq_getElem _
            exact off t _ (ky.2.2 j t _ hj hjs) (nt t ht)
          · cases hb1 : H1 b with
            | none => exact .inl rfl
            | some u =>
              rcases e1.new b u hb1 with y | y
              · rw [zb.2.2.2] at y; cases y
              · exact .inr ⟨u, rfl, y⟩
    case cmp =>
      rintro i j ki kj s1 Q1 E1 _ ⟨p1, rfl, k1⟩ ⟨p2, rfl, k2⟩ hq
      obtain ⟨as1, r1⟩ := k1.reads
      obtain ⟨as2, r2⟩ := k2.reads
      refine PySem.W.rcLt_alike _ _ X.A.in1 s1 _ _ _ _ r1 r2 (kd_alike _ _) (fun z => by cases z) ?_ X.prog X.w E1 Q1 hq
      have d1 := kd_depth (ss.getD i [])
      have d2 := Nat.min_le_left (kd (ss.getD i [])).depth (kd (ss.getD j [])).depth
      have u := hr.un
      show X.A.units + 1 + _ < _
      omega
    case fin =>
      rintro v s1 hv ⟨H1, I1, e1, _, _⟩
      obtain ⟨a, x, ea, ex, rfl, ha, eD⟩ := item _ v hv
      have B := argBest_is (bt := fun i j => PySem.W.dataLt (kd (ss.getD i [])) (kd (ss.getD j []))) (fun i => ?_) (fun i j k h1 h2 => ?_) (its.toArray.size - 1)
      · refine ⟨.ref a, H1, I1, rfl, q H1 _ a x e1 ea ex fun t ht z => ?_⟩
        obtain ⟨j, hj⟩ := List.getElem?_of_mem ht
        have hjl := (List.getElem?_eq_some_iff.mp hj).1
        have b := B.2 j (by rw [hlen]; omega)
        have et : ss.getD j [] = t := by rw [List.getD_eq_getElem?_getD, hj]; rfl
        rw [et, eD] at b
        rw [(kd_lt t x).mpr z] at b
        cases b
      · cases z : PySem.W.dataLt (kd (ss.getD i [])) (kd (ss.getD i [])) with
        | false => rfl
        | true => exact absurd ((kd_lt _ _).mp z) (sLt_irrefl _)
      · exact (kd_lt _ _).mpr (sLt_trans ((kd_lt _ _).mp h1) ((kd_lt _ _).mp h2))
end Pan
namespace Pan
open PySem PySem.Spec PyProof.Rows L2
open PySem.W (Codec)
abbrev sCan : Stmt := top 25
abbrev sAfter : Stmt := top 26
abbrev sTimes : Stmt := top 27
theorem nvs_ivs (l : List Nat) : nvs l = ivs (Mu28.nums l) := by
  show _ = (Mu28.nums l).map V.int
  unfold Mu28.nums
  rw [List.map_map]
  rfl
section
variable {P : Program} {w : World} {K : PySem.W.Frag} {mg : Str → Option Value} {base : Heap}
/-! ### can_be_done -/
theorem scCa : FnScope ["stack", "row"] ["stack", "row"] (defScope sCan) := ⟨rfl, rfl, rfl, by decide +kernel, rfl, by decide +kernel, by decide +kernel⟩
def spCan (K : PySem.W.Frag) : Sp := fun vs H Q _ => ∃ (a r : Addr) (s : List Int) (l : List Nat), vs = [.ref a, .ref r] ∧ SqL K H a (ivs s) ∧ SqL K H r (nvs l) ∧ Q (.bl (Mu28.fine s.length l)) H
theorem ok_can {f : Addr} {fd : FuncData} (F : Fun K "can_be_done" "can_be_done" sCan f fd) (T : Own mg) (Tm : mg "max" = none) : FnOk P w K mg base CX0 1 f fd ["stack", "row"] (spCan K) := by
  refine F.ok scCa (fun vs H Q E h => ?_) (fun cdv A outer s H vs Q E hr h => ⟨_, pss_one (ps_ret (pe_cmpR op_le (pe_callBK (cr_maxOr rfl hr.units) (by rfl) Tm (by decide +kernel) (pa_cons (pv 1) pa_nil) (pk_cons pe_int pk_nil))
    (pe_callB call_len_seq (by rfl) T.len PySem.boot_len (pa_cons (pv 0) pa_nil)) (nomark _))), ?_⟩)
  · obtain ⟨a, r, s, l, rfl, _⟩ := h; rfl
  · obtain ⟨a, r, s, l, rfl, hs, hl, q⟩ := h
    rw [nvs_ivs] at hl
    refine ⟨_, rfl, r, _, _, rfl, rfl, hl, fun m h0 h1 => ⟨_, rfl, a, _, rfl, .inl hs, _, _, rfl, rfl, ?_⟩⟩
    rw [List.length_map]
    have e : decide (m ≤ ((s.length : Nat) : Int)) = Mu28.fine s.length l := by
      cases l with
      | nil =>
        rw [h0 rfl]
        exact decide_eq_true (by omega)
      | cons k l =>
        obtain ⟨hm, hle⟩ := h1 (fun z => by cases z)
        cases c : Mu28.fine s.length (k :: l) with
        | true =>
          rw [fine_iff] at c
          refine decide_eq_true ?_
          obtain ⟨j, hj, rfl⟩ := List.mem_map.mp hm
          have := c j hj
          omega
        | false =>
          refine decide_eq_false fun z => ?_
          have t : Mu28.fine s.length (k :: l) = true := fine_iff.mpr fun j hj => by
            have := hle _ (List.mem_map_of_mem (f := fun (n : Nat) => (n : Int)) hj)
            omega
          rw [c] at t
          cases t
    rw [← e] at q
    exact q
/-! ### after_row -/
theorem scAf : FnScope ["stack", "row", "sides_count", "k"] ["stack", "row", "sides_count"] (defScope sAfter) := ⟨rfl, rfl, rfl, by decide +kernel, rfl, by decide +kernel, by decide +kernel⟩
def spAfter (K : PySem.W.Frag) : Sp := fun vs H Q _ => ∃ (a r : Addr) (s : List Int) (l : List Nat) (b : Bool), vs = [.ref a, .ref r, .bl b] ∧ H a = some (.lst (ivs s)) ∧ SqL K H r (nvs l) ∧ s.length ≤ 100 ∧
  ∀ H' p, Same H H' → H' p = some (.lst (ivs (Mu28.flips b l s))) → Q (.ref p) H'
theorem ok_after {f : Addr} {fd : FuncData} (F : Fun K "after_row" "after_row" sAfter f fd) (DF : Def P w K mg base 2 "flipped" ["stack", "k", "sides_count"] spFlipped) : FnOk P w K mg base CX0 3 f fd ["stack", "row", "sides_count"] (spAfter K) := by
  obtain ⟨ff, fdf, mf, kf, bf, Gf⟩ := DF
  refine F.ok scAf (fun vs H Q E h => ?_) (fun cdv A outer s H vs Q E hr h => ⟨_, pss_cons (ps_for PassesOwn.never rfl (pi_list (pv 1)) (pg_name (i := 3) scAf.nd rfl (Or.inl rfl))
      (pss_one (ps_set (i := 0) scAf.nd rfl (Or.inl rfl) (pe_call Gf hr rfl mf kf bf .nil pass0 (pa_cons (pv 0) (pa_cons (pv 3) (pa_cons (pv 2) pa_nil)))))))
    (pss_one (ps_ret (pv 0))), ?_⟩)
  · obtain ⟨a, r, s, l, b, rfl, _⟩ := h; rfl
  · obtain ⟨a, r, s, l, b, rfl, hs, hl, s2, q⟩ := h
    refine ⟨_, rfl, r, rfl, ⟨_, hl⟩, for_it (w := walk_list (K := K) (a := r) (xs := nvs l)) (fun t σ H' => ∃ (p : Addr) (v3 : Option V), σ = [some (.ref p), some (.ref r), some (.bl b), v3] ∧ Same H H' ∧ H' p = some (.lst (ivs (Mu28.flips b (l.take t) s)))) ?_ ?_ ?_ ?_⟩
    · exact ⟨a, none, rfl, Same.refl H, hs⟩
    · rintro t σ H' _ ⟨p, v3, _, h1, _⟩
      exact h1.seq hl
    · rintro t x σ H3 H4 ht ⟨p, v3, rfl, sm3, hp3⟩ ⟨rfl, hx⟩
      obtain ⟨k, hk, rfl⟩ := nvs_get hx
      refine ⟨_, rfl, _, rfl, _, rfl, p, _, k, b, rfl, hp3, by rw [flips_len]; omega, fun H5 p5 sm5 np5 hp5 => ?_⟩
      refine ⟨p5, _, rfl, sm3.trans sm5, ?_⟩
      rw [flips_take b s hk]
      exact hp5
    · rintro σ H3 ⟨p, v3, rfl, sm3, hp3⟩
      rw [List.length_map, List.take_length] at hp3
      exact ⟨_, rfl, q H3 p sm3 hp3⟩
/-! ### times_until_again -/
theorem scTi : FnScope ["stack", "row", "sides_count", "most_times", "lying", "times"] ["stack", "row", "sides_count", "most_times"] (defScope sTimes) := ⟨rfl, rfl, rfl, by decide +kernel, rfl, by decide +kernel, by decide +kernel⟩
def spTimes (K : PySem.W.Frag) : Sp := fun vs H Q _ => ∃ (a r : Addr) (s : List Int) (l : List Nat) (b : Bool), vs = [.ref a, .ref r, .bl b, .int 100] ∧ H a = some (.lst (ivs s)) ∧ SqL K H r (nvs l) ∧ s.length ≤ 100 ∧
  ∀ H', Same H H' → (∀ n, Mu28.rounds b l s 100 0 s = some n → Q (.int (n : Nat)) H') ∧ (Mu28.rounds b l s 100 0 s = none → Q .non H')
theorem ok_times {f : Addr} {fd : FuncData} (F : Fun K "times_until_again" "times_until_again" sTimes f fd) (T : Own mg) (DA : Def P w K mg base 3 "after_row" ["stack", "row", "sides_count"] (spAfter K)) :
    FnOk P w K mg base CX0 4 f fd ["stack", "row", "sides_count", "most_times"] (spTimes K) := by
  obtain ⟨ff, fdf, mf, kf, bf, Gf⟩ := DA
  refine F.ok scTi (fun vs H Q E h => ?_) (fun cdv A outer s H vs Q E hr h => ⟨_, pss_cons (ps_set (i := 4) scTi.nd rfl (Or.inl rfl) (pv 0))
    (pss_cons (ps_for PassesOwn.never rfl (pi_range2 (by rfl) T.range (pa_cons pe_int (pa_cons (pe_op op_add (pv 3) pe_int) pa_nil))) (pg_name (i := 5) scTi.nd rfl (Or.inl rfl))
      (pss_cons (ps_set (i := 4) scTi.nd rfl (Or.inl rfl) (pe_call Gf hr rfl mf kf bf .nil pass0 (pa_cons (pv 4) (pa_cons (pv 1) (pa_cons (pv 2) pa_nil)))))
        (pss_one (ps_if (pt_cmpR (op_eqD hr.units) (pv 4) (pv 0) (nomark _)) (pss_one (ps_ret (pv 5))) pss_nil))))
    (pss_one (ps_ret pe_non))), ?_⟩)
  · obtain ⟨a, r, s, l, b, rfl, _⟩ := h; rfl
  · obtain ⟨a, r, s, l, b, rfl, hs, hl, s2, q⟩ := h
    refine ⟨_, rfl, _, rfl, _, _, rfl, rfl, _, _, rfl, ?_, ?_⟩
    · refine ⟨?_, ?_, ?_, ?_⟩ <;> decide
    · refine for_range (fun i σ H' => ∃ (p : Addr) (v5 : Option V), σ = [some (.ref a), some (.ref r), some (.bl b), some (.int 100), some (.ref p), v5] ∧ Same H H' ∧ H' p = some (.lst (ivs (often b l s i))) ∧ ∀ j, 1 ≤ j → j ≤ i → often b l s j ≠ s) ?_ ?_ ?_
      · exact ⟨a, none, rfl, Same.refl H, hs, fun j h1 h2 => by omega⟩
      · rintro i σ H1 hi ⟨p, v5, rfl, sm1, hp1, hn⟩
        have hi : i < 100 := hi
        refine ⟨_, rfl, _, rfl, _, rfl, p, r, often b l s i, l, b, rfl, hp1, sm1.seq hl, by rw [often_len]; exact s2, fun H2 p2 sm2 hp2 => ?_⟩
        have hp2 : H2 p2 = some (.lst (ivs (often b l s (i + 1)))) := hp2
        have sm : Same H H2 := sm1.trans sm2
        refine ⟨_, rfl, _, rfl, _, _, .lst (SqL.of hp2) (dp_ints _), .lst (SqL.of (sm _ _ hs)) (dp_ints s), shaped_ints _, shaped_ints _, ?_⟩
        rw [eqv_ints]
        refine ⟨_, rfl, if_dec (fun c => ?_) fun c => ?_⟩
        · have e : (1 : Int) + (i : Nat) = ((i + 1 : Nat) : Int) := by omega
          rw [e]
          exact ⟨_, rfl, (q H2 sm).1 (i + 1) (rounds_some (by omega) (by omega) (fun j h1 h2 => hn j h1 (by omega)) c)⟩
        · refine ⟨p2, _, rfl, sm, hp2, fun j h1 h2 => ?_⟩
          by_cases z : j = i + 1
          · rw [z]; exact c
          · exact hn j h1 (by omega)
      · rintro σ H1 ⟨p, v5, rfl, sm1, hp1, hn⟩
        exact (q H1 sm1).2 (rounds_none fun j h1 h2 => hn j h1 h2)
end
end Pan
namespace Pan
open PySem PySem.Spec PyProof.Rows L2
open PySem.W (Codec)
abbrev sCounted : Stmt := top 19
abbrev sLayers : Stmt := top 20
abbrev sUnseen : Stmt := top 21
abbrev sFirst : Stmt := top 22
abbrev sStanding : Stmt := top 23
section
variable {P : Program} {w : World} {K : PySem.W.Frag} {mg : Str → Option Value} {base : Heap}
/-! ### is_counted -/
structure FewIs (mg : Str → Option Value) : Prop where
  with_ : ∃ t, mg "MOST_COUNTED_WITH_SIDES" = some (.int 3 t)
  out : ∃ t, mg "MOST_COUNTED_WITHOUT_SIDES" = some (.int 5 t)
theorem scCn : FnScope ["b", "n", "most"] ["b", "n"] (defScope sCounted) := ⟨rfl, rfl, rfl, by decide +kernel, rfl, by decide +kernel, by decide +kernel⟩
def spCounted : Sp := fun vs H Q _ => ∃ (b n : Nat), vs = [.int b, .int n] ∧ Q (.bl (Mu28.small b n)) H
theorem ok_counted {f : Addr} {fd : FuncData} (F : Fun K "is_counted" "is_counted" sCounted f fd) (L : FewIs mg) : FnOk P w K mg base CX0 1 f fd ["b", "n"] spCounted := by
  obtain ⟨t3, m3⟩ := L.with_
  obtain ⟨t5, m5⟩ := L.out
  refine F.ok scCn (fun vs H Q E h => ?_) (fun cdv A outer s H vs Q E hr h => ⟨_, pss_cons
    (ps_set (i := 2) scCn.nd rfl (Or.inl rfl) (pe_ifExp (pt_cmpR op_eq (pv 0) pe_int (nomark _)) (pe_glob (v := .int 3) (by rfl) m3 ⟨_, rfl⟩) (pe_glob (v := .int 5) (by rfl) m5 ⟨_, rfl⟩)))
    (pss_one (ps_ret (pe_and (pe_cmpR op_le (pv 0) pe_int (nomark _)) (pe_and (pe_cmpR op_ge (pv 1) pe_int (nomark _)) (pe_one (pe_cmpR op_le (pv 1) (pv 2) (nomark _))))))), ?_⟩)
  · obtain ⟨b, n, rfl, _⟩ := h; rfl
  · obtain ⟨b, n, rfl, q⟩ := h
    have key : ∀ m : Nat, (m = if b = 1 then 3 else 5) → Mu28.small b n = (decide (b ≤ 1) && (decide (1 ≤ n) && decide (n ≤ m))) := fun m e => by rw [e]; rfl
    have i1 : ∀ x y : Nat, decide (((x : Nat) : Int) ≤ ((y : Nat) : Int)) = decide (x ≤ y) := fun x y => by
      by_cases c : x ≤ y
      · rw [decide_eq_true c, decide_eq_true (by omega)]
      · rw [decide_eq_false c, decide_eq_false (by omega)]
    refine ⟨_, rfl, rfl, _, rfl, ?_⟩
    refine if_dec (fun c => ?_) fun c => ?_
    · have c := int_eq c
      have k := key 3 (by rw [if_pos (by omega)])
      rw [k] at q
      refine ⟨_, rfl, _, _, rfl, rfl, _, rfl, if_dec (fun d => ?_) fun d => ?_⟩
      · rw [decide_eq_true (show b ≤ 1 by omega)] at q
        refine ⟨_, rfl, _, _, rfl, rfl, _, rfl, if_dec (fun d => ?_) fun d => ?_⟩
        · rw [decide_eq_true (show 1 ≤ n by omega)] at q
          refine ⟨_, rfl, _, rfl, _, _, rfl, rfl, ?_⟩
          have e := i1 n 3
          rw [← e] at q
          exact q
        · rw [decide_eq_false (show ¬ 1 ≤ n by omega)] at q
          exact q
      · rw [decide_eq_false (show ¬ b ≤ 1 by omega)] at q
        exact q
    · have c := int_ne c
      have k := key 5 (by rw [if_neg (by omega)])
      rw [k] at q
      refine ⟨_, rfl, _, _, rfl, rfl, _, rfl, if_dec (fun d => ?_) fun d => ?_⟩
      · rw [decide_eq_true (show b ≤ 1 by omega)] at q
        refine ⟨_, rfl, _, _, rfl, rfl, _, rfl, if_dec (fun d => ?_) fun d => ?_⟩
        · rw [decide_eq_true (show 1 ≤ n by omega)] at q
          refine ⟨_, rfl, _, rfl, _, _, rfl, rfl, ?_⟩
          have e := i1 n 5
          rw [← e] at q
          exact q
        · rw [decide_eq_false (show ¬ 1 ≤ n by omega)] at q
          exact q
      · rw [decide_eq_false (show ¬ b ≤ 1 by omega)] at q
        exact q
/-! ### standing -/
theorem scSd : FnScope ["stack", "size"] ["stack"] (defScope sStanding) := ⟨rfl, rfl, rfl, by decide +kernel, rfl, by decide +kernel, by decide +kernel⟩
theorem ok_standing {f : Addr} {fd : FuncData} (F : Fun K "standing" "standing" sStanding f fd) (T : Own mg) : FnOk P w K mg base CX0 1 f fd ["stack"] spStanding := by
  refine F.ok scSd (fun vs H Q E h => ?_) (fun cdv A outer s H vs Q E hr h => ⟨_, pss_one (ps_ret (pe_lc (own := [("size", 1)]) (g := gName 1) (tt := tYes) (by rfl) scSd.nd (pi_list (pv 0)) (blkOk_by (own := [("size", 1)]) (N := ["stack", "size"]) (sc := defScope sStanding) (by decide +kernel))
      (fun _ _ _ _ _ => pg_name (i := 1) scSd.nd rfl (Or.inl rfl)) (fun _ _ _ _ _ => pts_nil) (fun _ _ _ _ _ => pe_tup (pa_cons (pe_callB call_abs (by rfl) T.abs (by decide +kernel) (pa_cons (pv 1) pa_nil)) (pa_cons (pv 1) pa_nil))))), ?_⟩)
  · obtain ⟨a, s, rfl, _⟩ := h; rfl
  · obtain ⟨a, s, rfl, hs, s2, q⟩ := h
    refine ⟨_, rfl, a, rfl, ⟨_, SqL.of hs⟩, fun D hD => ?_⟩
    refine lc_it (w := walk_list (K := K) (a := a) (xs := ivs s)) (fun i H' => Ext H H' ∧ ∃ ts : List Addr, H' D = some (.lst (rvs ts)) ∧ ts.length = i ∧ (∀ t ∈ ts, H t = none) ∧
      ∀ (j : Nat) (t : Addr) (x : Int), ts[j]? = some t → s[j]? = some x → H' t = some (.tup [.int (x.natAbs : Nat), .int x])) ?_ ?_ ?_ ?_
    · exact ⟨(Ext.refl H).upd hD (.inl ⟨_, rfl⟩), [], upd_same, rfl, by simp, fun j t x h => by simp at h⟩
    · exact fun i H' _ h => h.1.same.seq (SqL.of hs)
    · rintro i x H2 H3 hi ⟨h1, ts, h3, hl, hn, ht⟩ ⟨rfl, hx⟩
      obtain ⟨z, hz, rfl⟩ := ivs_get hx
      rw [List.length_map] at hi
      refine ⟨rfl, ?_⟩
      refine ⟨_, rfl, _, rfl, _, rfl, (by show 2 ≤ sizeLine; decide), fun p hp => ?_⟩
      have np : H p = none := Same.free h1.same hp
      have hDp : D ≠ p := fun y => by rw [y, hp] at h3; cases h3
      refine ⟨_, (upd_ne hDp).trans h3, ?_, (h1.upd np (.inr ⟨_, rfl⟩)).upd hD (.inl ⟨_, rfl⟩), ts ++ [p], ?_, ?_, ?_, ?_⟩
      · refine small1000 ?_
        rw [List.length_map]
        omega
      · rw [upd_same, rvs_snoc]
      · rw [List.length_append, hl]; rfl
      · intro t hh
        rcases List.mem_append.mp hh with y | y
        · exact hn t y
        · rw [List.mem_singleton.mp y]; exact np
      · intro j t x e1 e2
        have off : ∀ u : Addr, u ≠ D → upd (upd H3 p (HO.tup [V.int (if z < 0 then -z else z), V.int z])) D (.lst (rvs ts ++ [V.ref p])) u = upd H3 p (HO.tup [V.int (if z < 0 then -z else z), V.int z]) u := fun u nu => upd_ne nu
        by_cases c : j < ts.length
        · rw [List.getElem?_append_left c] at e1
          have g := ht j t x e1 e2
          have n1 : t ≠ D := fun y => by rw [y, h3] at g; cases g
          have n2 : t ≠ p := fun y => by rw [y, hp] at g; cases g
          exact (off t n1).trans ((upd_ne n2).trans g)
        · have cj : j = i := by
            have := (List.getElem?_eq_some_iff.mp e1).1
            rw [List.length_append] at this
            simp at this
            omega
          rw [cj] at e1 e2
          rw [← hl, List.getElem?_append_right (Nat.le_refl _), Nat.sub_self] at e1
          have e1 : some p = some t := e1
          cases e1
          rw [hz] at e2
          cases e2
          refine (off p (Ne.symm hDp)).trans ?_
          rw [upd_same, abs_if]
    · rintro H2 ⟨h1, ts, h3, hl, hn, ht⟩
      rw [List.length_map] at hl
      exact q H2 D ts h1 hD hn ⟨h3, hl, ht⟩
/-! ### first_of -/
theorem scFi : FnScope ["stacks"] ["stacks"] (defScope sFirst) := ⟨rfl, rfl, rfl, by decide +kernel, rfl, by decide +kernel, by decide +kernel⟩
def spFirst : Sp := fun vs H Q _ => ∃ (l : Addr) (as : List Addr) (ss : List (List Int)), vs = [.ref l] ∧ H l = some (.lst (rvs as)) ∧ RowsAt H as ss ∧ 0 < ss.length ∧ (∀ s ∈ ss, s.length ≤ 100) ∧
  ∀ H' (i : Nat) (a : Addr) (s : List Int), Ext H H' → as[i]? = some a → ss[i]? = some s → (∀ t ∈ ss, ¬ sLt t s) → Q (.ref a) H'
theorem ok_first {f : Addr} {fd : FuncData} (F : Fun K "first_of" "first_of" sFirst f fd) (Tm : mg "min" = none) (DS : Def P w K mg base 1 "standing" ["stack"] spStanding) : FnOk P w K mg base CX0 3 f fd ["stacks"] spFirst := by
  obtain ⟨fg, fdg, mm, kg, bg, Gg⟩ := DS
  refine F.ok scFi (fun vs H Q E h => ?_) (fun cdv A outer s H vs Q E hr h => ⟨_, pss_one (ps_ret (pe_callBK (cr_first rfl hr Gg bg) (by rfl) Tm (by decide +kernel) (pa_cons (pv 0) pa_nil) (pk_cons (pe_glob (v := .ref fg) (by rfl) mm rfl) pk_nil))), ?_⟩)
  · obtain ⟨l, as, ss, rfl, _⟩ := h; rfl
  · obtain ⟨l, as, ss, rfl, hl, hr', hn, hz, q⟩ := h
    exact ⟨_, rfl, l, as, ss, rfl, rfl, SqL.of hl, hr', hn, hz, q⟩
end
end Pan
namespace Pan
open PySem PySem.Spec PyProof.Rows L2
open PySem.W (Codec)
/-! ### what is seen -/
abbrev skey (s : List Int) : List L2.Key := s.map Sum.inl
theorem skey_inj {s t : List Int} (h : skey s = skey t) : s = t := by
  induction s generalizing t with
  | nil => cases t with
    | nil => rfl
    | cons _ _ => cases h
  | cons x s ih => cases t with
    | nil => cases h
    | cons y t =>
      have h : (Sum.inl x : L2.Key) :: skey s = Sum.inl y :: skey t := h
      injection h with h1 h2
      injection h1 with h1
      rw [h1, ih h2]
theorem skey_kV (s : List Int) : (skey s).map kV = ivs s := by
  show (s.map Sum.inl).map kV = s.map V.int
  rw [List.map_map]
  rfl
abbrev seenKV (S : List (List Int)) : List (List L2.Key × V) := S.map fun s => (skey s, V.bl true)
theorem seen_val (x : List Int) : ∀ S : List (List Int), (valV (seenKV S) (skey x)).isSome = decide (x ∈ S)
  | [] => by
    rw [show seenKV [] = [] from rfl, valV_nil]
    simp
  | s :: S => by
    rw [show seenKV (s :: S) = (skey s, V.bl true) :: seenKV S from rfl]
    by_cases e : x = s
    · subst e
      rw [valV_pos rfl]
      simp
    · rw [valV_neg (fun z => e (skey_inj z).symm), seen_val x S]
      simp [e]
theorem seen_put {S : List (List Int)} {x : List Int} (h : x ∉ S) : putK (seenKV S) (skey x) (V.bl true) = seenKV (S ++ [x]) := by
  unfold putK
  rw [valV_any, seen_val, decide_eq_false h]
  show (if false = true then _ else seenKV S ++ [(skey x, V.bl true)]) = _
  rw [if_neg Bool.false_ne_true]
  exact (List.map_append (l₁ := S) (l₂ := [x]) (f := fun s => (skey s, V.bl true))).symm
/-- us: those of P that aren't in S, each once -/
structure Found (S us : List (List Int)) (P : List Int → Prop) : Prop where
  nodup : us.Nodup
  in_ : ∀ x ∈ us, x ∉ S ∧ P x
  all : ∀ x, P x → x ∈ S ∨ x ∈ us
theorem Found.iff {S us : List (List Int)} {P Q : List Int → Prop} (f : Found S us P) (h : ∀ x, P x ↔ Q x) : Found S us Q := ⟨f.nodup, fun x hx => ⟨(f.in_ x hx).1, (h x).mp (f.in_ x hx).2⟩, fun x hx => f.all x ((h x).mpr hx)⟩
theorem Found.old {S us : List (List Int)} {P : List Int → Prop} (f : Found S us P) {x : List Int} (h : x ∈ S ++ us) : Found S us fun y => P y ∨ y = x :=
  ⟨f.nodup, fun y hy => ⟨(f.in_ y hy).1, .inl (f.in_ y hy).2⟩, fun y hy => hy.elim (f.all y) fun z => by rw [z]; exact List.mem_append.mp h⟩
theorem Found.new {S us : List (List Int)} {P : List Int → Prop} (f : Found S us P) {x : List Int} (h : x ∉ S ++ us) : Found S (us ++ [x]) fun y => P y ∨ y = x := by
  rw [List.mem_append, not_or] at h
  refine ⟨?_, fun y hy => ?_, fun y hy => ?_⟩
  · rw [List.nodup_append]
    refine ⟨f.nodup, by simp, fun a ha b hb => ?_⟩
    rw [List.mem_singleton.mp hb]
    exact fun z => h.2 (by rw [← z]; exact ha)
  · rcases List.mem_append.mp hy with z | z
    · exact ⟨(f.in_ y z).1, .inl (f.in_ y z).2⟩
    · rw [List.mem_singleton.mp z]; exact ⟨h.1, .inr rfl⟩
  · rcases hy with z | z
    · exact (f.all y z).imp id fun q => List.mem_append_left _ q
    · rw [z]; exact .inr (List.mem_append_right _ (by simp))
/-- x lies behind a flip of one of these -/
def Behind (b : Bool) (ls : List (List Int)) (x : List Int) : Prop := ∃ s ∈ ls, ∃ k ∈ Mu28.ways b s.length, Mu28.flip b k s = x
/-- .. of one of the first i -/
def BehindTo (b : Bool) (ls : List (List Int)) (i : Nat) (x : List Int) : Prop := ∃ j s, j < i ∧ ls[j]? = some s ∧ ∃ k ∈ Mu28.ways b s.length, Mu28.flip b k s = x
theorem behindTo_all {b : Bool} {ls : List (List Int)} (x : List Int) : BehindTo b ls ls.length x ↔ Behind b ls x := by
  constructor
  · rintro ⟨j, s, _, h, r⟩
    exact ⟨s, List.mem_of_getElem? h, r⟩
  · rintro ⟨s, hs, r⟩
    obtain ⟨j, hj⟩ := List.getElem?_of_mem hs
    exact ⟨j, s, (List.getElem?_eq_some_iff.mp hj).1, hj, r⟩
theorem behindTo_succ {b : Bool} {ls : List (List Int)} {i : Nat} {s : List Int} (h : ls[i]? = some s) (x : List Int) : BehindTo b ls (i + 1) x ↔ (BehindTo b ls i x ∨ ∃ k ∈ Mu28.ways b s.length, Mu28.flip b k s = x) := by
  constructor
  · rintro ⟨j, t, hj, e, r⟩
    by_cases c : j = i
    · rw [c, h] at e
      cases e
      exact .inr r
    · exact .inl ⟨j, t, by omega, e, r⟩
  · rintro (⟨j, t, hj, e, r⟩ | r)
    · exact ⟨j, t, by omega, e, r⟩
    · exact ⟨i, s, by omega, h, r⟩
theorem RowsAt.keep {r : Addr} {H H' : Hp} {as : List Addr} {rs : List (List Int)} (h : RowsAt H as rs) (k : Keep r H H') {o : HO} (hr : H r = some o) (no : ∀ xs, o ≠ .lst xs) : RowsAt H' as rs :=
  h.mono fun a x _ e => k a _ e fun z => by
    rw [z, hr] at e
    exact no _ (Option.some.inj e)
theorem apart_of {H : Hp} {u a : Addr} {bs : List Addr} {xs : List Int} (hu : H u = some (.lst (rvs bs))) (ha : a ∈ bs) (h : H a = some (.lst (ivs xs))) : a ≠ u := fun z => by
  rw [z, hu] at h
  have h := Option.some.inj h
  injection h with h
  cases bs with
  | nil => cases ha
  | cons c bs =>
    cases xs with
    | nil => cases h
    | cons y xs =>
      have h : V.ref c :: rvs bs = V.int y :: ivs xs := h
      injection h with h
      cases h
section
variable {P : Program} {w : World} {K : PySem.W.Frag} {mg : Str → Option Value} {base : Heap}
/-! ### unseen_behind -/
theorem scUn : FnScope ["layer", "sides_count", "seen", "unseen", "stack", "k", "other"] ["layer", "sides_count", "seen"] (defScope sUnseen) := ⟨rfl, rfl, rfl, by decide +kernel, rfl, by decide +kernel, by decide +kernel⟩
def spUnseen : Sp := fun vs H Q _ => ∃ (l d : Addr) (as : List Addr) (b : Bool) (ls S : List (List Int)), vs = [.ref l, .bl b, .ref d] ∧ H l = some (.lst (rvs as)) ∧ RowsAt H as ls ∧ H d = some (.dT (seenKV S)) ∧ (∀ s ∈ ls, 1 ≤ s.length ∧ s.length ≤ 100) ∧
  (∀ us : List (List Int), us.Nodup → (∀ x ∈ us, x ∉ S ∧ Behind b ls x) → S.length + us.length ≤ 900) ∧
  ∀ (H' : Hp) (u : Addr) (us : List (List Int)) (bs : List Addr), Keep d H H' → H u = none → H' u = some (.lst (rvs bs)) → RowsAt H' bs us → H' d = some (.dT (seenKV (S ++ us))) → Found S us (Behind b ls) → Q (.ref u) H'
theorem ok_unseen {f : Addr} {fd : FuncData} (F : Fun K "unseen_behind" "unseen_behind" sUnseen f fd) (T : Own mg) (Tt : mg "tuple" = none) (DL : Def P w K mg base 1 "least_flip" ["sides_count"] spLeast) (DF : Def P w K mg base 2 "flipped" ["stack", "k", "sides_count"] spFlipped) :
    FnOk P w K mg base CX0 3 f fd ["layer", "sides_count", "seen"] spUnseen := by
  obtain ⟨fl, fdl, ml, kl, bl, Gl⟩ := DL
  obtain ⟨ff, fdf, mf, kf, bf, Gf⟩ := DF
  refine F.ok scUn (fun vs H Q E h => ?_) (fun cdv A outer s H vs Q E hr h => ⟨_, pss_cons (ps_set (i := 3) scUn.nd rfl (Or.inl rfl) (pe_lst pa_nil))
    (pss_cons (ps_for PassesOwn.never rfl (pi_list (pv 0)) (pg_name (i := 4) scUn.nd rfl (Or.inl rfl))
      (pss_one (ps_for PassesOwn.never rfl (pi_range2 (by rfl) T.range (pa_cons (pe_call Gl (hr.mono (by decide)) rfl ml kl bl .nil pass0 (pa_cons (pv 1) pa_nil)) (pa_cons (pe_op op_add (pe_callB call_len_seq (by rfl) T.len PySem.boot_len (pa_cons (pv 4) pa_nil)) pe_int) pa_nil)))
          (pg_name (i := 5) scUn.nd rfl (Or.inl rfl))
        (pss_cons (ps_set (i := 6) scUn.nd rfl (Or.inl rfl) (pe_call Gf hr rfl mf kf bf .nil pass0 (pa_cons (pv 4) (pa_cons (pv 5) (pa_cons (pv 1) pa_nil)))))
          (pss_one (ps_if (pt_cmp (pc_dnotin (hu_of hr) (pe_callTy (call_tuple_of) (by rfl) Tt (by decide +kernel) (pa_cons (pv 6) pa_nil)) (pv 2)))
            (pss_cons (ps_dput (hu_of hr) (pv 2) (pe_callTy (call_tuple_of) (by rfl) Tt (by decide +kernel) (pa_cons (pv 6) pa_nil)) pe_bl rfl)
              (pss_one (ps_expr (pe_bm PySem.F.plainAttrs_list PySem.F.slot_list_append PySem.F.type_list_append mt_append (pv 3) (pa_cons (pv 6) pa_nil)))))
            pss_nil))))))
    (pss_one (ps_ret (pv 3)))), ?_⟩)
  · obtain ⟨l, d, as, b, ls, S, rfl, _⟩ := h; rfl
  · obtain ⟨l, d, as, b, ls, S, rfl, hl, hra, hd, hn, hbd, q⟩ := h
    refine ⟨by decide, fun u nu => ?_⟩
    have nud : u ≠ d := fun z => by rw [z, hd] at nu; cases nu
    have nld : l ≠ d := fun z => by rw [z, hd] at hl; cases hl
    have klu : ∀ {H' : Hp}, Keep d H H' → H' l = some (.lst (rvs as)) := fun k => k l _ hl nld
    have kra : ∀ {H' : Hp}, Keep d H H' → RowsAt H' as ls := fun k => hra.keep k hd fun xs z => by cases z
    refine ⟨_, rfl, l, rfl, ⟨_, SqL.of (klu ((Keep.refl d H).new nu))⟩, for_it (w := walk_list (K := K) (a := l) (xs := rvs as)) (fun i σ H' => ∃ (us : List (List Int)) (bs : List Addr) (v4 v5 v6 : Option V), σ = [some (.ref l), some (.bl b), some (.ref d), some (.ref u), v4, v5, v6] ∧
      Keep d H H' ∧ H' u = some (.lst (rvs bs)) ∧ RowsAt H' bs us ∧ H' d = some (.dT (seenKV (S ++ us))) ∧ Found S us (BehindTo b ls i)) ?_ ?_ ?_ ?_⟩
    · refine ⟨[], [], none, none, none, rfl, (Keep.refl d H).new nu, upd_same, RowsAt.nil _, ?_, ⟨List.nodup_nil, by simp, ?_⟩⟩
      · rw [upd_ne (Ne.symm nud), List.append_nil]
        exact hd
      · rintro x ⟨j, s, hj, _⟩
        omega
    · rintro i σ H' _ ⟨us, bs, v4, v5, v6, _, k, _⟩
      exact SqL.of (klu k)
    · rintro i x σ H1 H2 hi ⟨us, bs, v4, v5, v6, rfl, k1, hu1, hb1, hd1, f1⟩ ⟨rfl, hx⟩
      obtain ⟨a, ha, rfl⟩ : ∃ a, as[i]? = some a ∧ x = .ref a := by
        rw [List.getElem?_map] at hx
        cases e : as[i]? with
        | none => rw [e] at hx; cases hx
        | some a => rw [e] at hx; exact ⟨a, rfl, (Option.some.inj hx).symm⟩
      obtain ⟨st, hst, _⟩ := hra.get ha
      have hsl := hn st (List.mem_of_getElem? hst)
      refine ⟨_, rfl, b, rfl, _, rfl, a, _, rfl, .inl (SqL.of ((kra k1).2 i a st ha hst)), _, _, rfl, rfl, _, _, rfl, ?_, ?_⟩
      · rw [List.length_map]
        have := lo_pos b
        have : lo b ≤ 2 := by cases b <;> decide
        refine ⟨?_, ?_, ?_, ?_⟩ <;> omega
      · refine for_range (fun j σ H' => ∃ (us : List (List Int)) (bs : List Addr) (v5 v6 : Option V), σ = [some (.ref l), some (.bl b), some (.ref d), some (.ref u), some (.ref a), v5, v6] ∧
          Keep d H H' ∧ H' u = some (.lst (rvs bs)) ∧ RowsAt H' bs us ∧ H' d = some (.dT (seenKV (S ++ us))) ∧ Found S us (fun x => BehindTo b ls i x ∨ ∃ t, t < j ∧ Mu28.flip b (lo b + t) st = x)) ?_ ?_ ?_
        · exact ⟨us, bs, v5, v6, rfl, k1, hu1, hb1, hd1, f1.iff fun x => ⟨.inl, fun h => h.elim id fun ⟨t, ht, _⟩ => by omega⟩⟩
        · clear us bs v4 v5 v6 k1 hu1 hb1 hd1 f1
          rintro j σ H1 hj ⟨us, bs, v5, v6, rfl, k1, hu1, hb1, hd1, f1⟩
          rw [List.length_map] at hj
          have hk : (lo b : Int) + (j : Nat) = ((lo b + j : Nat) : Int) := by omega
          have k2 : lo b + j ≤ st.length := by omega
          rw [hk]
          have fj : ∀ (us' : List (List Int)), Found S us' (fun x => (BehindTo b ls i x ∨ ∃ t, t < j ∧ Mu28.flip b (lo b + t) st = x) ∨ x = Mu28.flip b (lo b + j) st) → Found S us' (fun x => BehindTo b ls i x ∨ ∃ t, t < j + 1 ∧ Mu28.flip b (lo b + t) st = x) := fun us' f => f.iff fun x => by
            constructor
            · rintro ((h | ⟨t, ht, e⟩) | e)
              · exact .inl h
              · exact .inr ⟨t, by omega, e⟩
              · exact .inr ⟨j, by omega, e.symm⟩
            · rintro (h | ⟨t, ht, e⟩)
              · exact .inl (.inl h)
              · by_cases c : t = j
                · rw [c] at e; exact .inr e.symm
                · exact .inl (.inr ⟨t, by omega, e⟩)
          have inP : ∀ x, ((BehindTo b ls i x ∨ ∃ t, t < j ∧ Mu28.flip b (lo b + t) st = x) ∨ x = Mu28.flip b (lo b + j) st) → Behind b ls x := by
            rintro x ((⟨i', s', _, e1, r⟩ | ⟨t, ht, e⟩) | e)
            · exact ⟨s', List.mem_of_getElem? e1, r⟩
            · exact ⟨st, List.mem_of_getElem? hst, lo b + t, ways_mem.mpr ⟨by omega, Nat.le_add_right _ _⟩, e⟩
            · exact ⟨st, List.mem_of_getElem? hst, lo b + j, ways_mem.mpr ⟨k2, Nat.le_add_right _ _⟩, e.symm⟩
          generalize hx : Mu28.flip b (lo b + j) st = x at fj inP
          refine ⟨_, rfl, _, rfl, _, rfl, a, st, lo b + j, b, rfl, (kra k1).2 i a st ha hst, hsl.2, fun H2 p sm2 np2 hp2 => ?_⟩
          rw [hx] at hp2
          have hd2 := sm2 _ _ hd1
          have hu2 := sm2 _ _ hu1
          have k12 : Keep d H H2 := k1.trans (Keep.of_same sm2)
          refine ⟨_, rfl, p, _, rfl, .inl ⟨SqL.of hp2, fun t nt => ?_⟩⟩
          have hdt : d ≠ t := fun z => by rw [z, nt] at hd2; cases hd2
          have hut : u ≠ t := fun z => by rw [z, nt] at hu2; cases hu2
          have hpt : p ≠ t := fun z => by rw [z, nt] at hp2; cases hp2
          have hpd : p ≠ d := fun z => by rw [z, hd1] at np2; cases np2
          have hpu : p ≠ u := fun z => by rw [z, hu1] at np2; cases np2
          have ntH : H t = none := k12.free (Ne.symm hdt) nt
          refine ⟨_, rfl, d, _, rfl, DGet.t (k := skey x) ((upd_ne hdt).trans hd2) (by rw [skey_kV]; exact upd_same), _, rfl, ?_⟩
          rw [seen_val]
          by_cases c : x ∈ S ++ us
          · refine if_ndec_t c ⟨us, bs, _, _, rfl, k12.new ntH, (upd_ne hut).trans hu2, hb1.mono fun c' y _ e => ?_, (upd_ne hdt).trans hd2, fj us (f1.old c)⟩
            have e2 := sm2 _ _ e
            exact (upd_ne fun z => by rw [z, nt] at e2; cases e2).trans e2
          · have f2 := f1.new c
            have bd := hbd (us ++ [x]) f2.nodup fun y hy => ⟨(f2.in_ y hy).1, inP y (f2.in_ y hy).2⟩
            rw [List.length_append, List.length_singleton] at bd
            refine if_ndec_f c ⟨_, rfl, _, rfl, p, _, rfl, .inl ⟨SqL.of ((upd_ne hpt).trans hp2), fun t2 nt2 => ?_⟩⟩
            have ht2t : t2 ≠ t := fun z => by rw [z, upd_same] at nt2; cases nt2
            have nt2' : H2 t2 = none := (upd_ne ht2t).symm.trans nt2
            have hdt2 : d ≠ t2 := fun z => by rw [z, nt2'] at hd2; cases hd2
            have hut2 : u ≠ t2 := fun z => by rw [z, nt2'] at hu2; cases hu2
            have nt2H : H t2 = none := k12.free (Ne.symm hdt2) nt2'
            refine ⟨d, _, rfl, DPut.t (k := skey x) ((upd_ne hdt2).trans ((upd_ne hdt).trans hd2)) (by rw [skey_kV]; exact upd_same) (line_of (by rw [List.length_map, List.length_append]; omega)), ?_⟩
            rw [seen_put c]
            have off : ∀ c' o, H2 c' = some o → c' ≠ d → upd (upd (upd H2 t (.tup (ivs x))) t2 (.tup (ivs x))) d (.dT (seenKV (S ++ us ++ [x]))) c' = some o := fun c' o e nd => by
              rw [upd_ne nd, upd_ne (fun z => by rw [z, nt2'] at e; cases e), upd_ne (fun z => by rw [z, nt] at e; cases e)]
              exact e
            have hu4 := off u _ hu2 nud
            refine ⟨_, rfl, .inl ⟨rfl, _, SqL.of hu4⟩, _, rfl, u, _, _, rfl, rfl, hu4, ?_, us ++ [x], bs ++ [p], _, _, rfl, ?_, ?_, ?_, ?_, fj _ f2⟩
            · refine small1000 ?_
              rw [List.length_map, hb1.1]
              omega
            · have k3 : Keep d H (upd (upd H2 t (.tup (ivs x))) t2 (.tup (ivs x))) := (k12.new ntH).new nt2H
              exact k3.upd.new nu
            · rw [upd_same, rvs_snoc]
            · have mm : ∀ c' y, H2 c' = some (.lst (ivs y)) → c' ≠ u → upd (upd (upd (upd H2 t (.tup (ivs x))) t2 (.tup (ivs x))) d (.dT (seenKV (S ++ us ++ [x])))) u (.lst (rvs bs ++ [V.ref p])) c' = some (.lst (ivs y)) := fun c' y e nu' => by
                rw [upd_ne nu']
                exact off c' _ e fun z => by rw [z, hd2] at e; cases e
              refine RowsAt.snoc (hb1.mono fun c' y hc e => mm c' y (sm2 _ _ e) (apart_of hu1 hc e)) (mm p x hp2 hpu)
            · rw [upd_ne (Ne.symm nud), upd_same, List.append_assoc]
        · clear us bs v4 v5 v6 k1 hu1 hb1 hd1 f1
          rintro σ H1 ⟨us, bs, v5, v6, rfl, k1, hu1, hb1, hd1, f1⟩
          refine ⟨us, bs, _, _, _, rfl, k1, hu1, hb1, hd1, f1.iff fun x => ?_⟩
          rw [behindTo_succ hst]
          rw [List.length_map]
          constructor
          · rintro (h | ⟨t, ht, e⟩)
            · exact .inl h
            · exact .inr ⟨lo b + t, ways_mem.mpr ⟨by omega, Nat.le_add_right _ _⟩, e⟩
          · rintro (h | ⟨k, hk, e⟩)
            · exact .inl h
            · obtain ⟨k1, k2⟩ := ways_mem.mp hk
              have k2 : lo b ≤ k := k2
              refine .inr ⟨k - lo b, by omega, ?_⟩
              have : lo b + (k - lo b) = k := by omega
              rw [this]
              exact e
    · rintro σ H1 ⟨us, bs, v4, v5, v6, rfl, k1, hu1, hb1, hd1, f1⟩
      have el : (rvs as).length = ls.length := by rw [List.length_map]; exact hra.1
      rw [el] at f1
      exact ⟨_, rfl, q H1 u us bs k1 nu hu1 hb1 hd1 (f1.iff behindTo_all)⟩
end
end Pan
namespace Pan
open PySem PySem.Spec PyProof.Rows L2
open PySem.W (Codec)
/-! ### layers -/
theorem nodup_le : ∀ {l m : List (List Int)}, l.Nodup → (∀ x ∈ l, x ∈ m) → l.length ≤ m.length
  | [], m, _, _ => Nat.zero_le _
  | x :: l, m, h, s => by
    rw [List.nodup_cons] at h
    have hx := s x List.mem_cons_self
    have ih := nodup_le (l := l) (m := m.erase x) h.2 fun y hy => (List.mem_erase_of_ne (fun z => h.1 (by rw [← z]; exact hy))).mpr (s y (List.mem_cons_of_mem _ hy))
    rw [List.length_erase_of_mem hx] at ih
    have : 0 < m.length := List.length_pos_of_mem hx
    rw [List.length_cons]
    omega
theorem all_few {b : Bool} {n : Nat} (h : n ≤ few b) : (Mu28.all b n).length ≤ 120 := by
  cases b with
  | true =>
    have h : n ≤ 3 := h
    rcases (show n = 0 ∨ n = 1 ∨ n = 2 ∨ n = 3 by omega) with rfl | rfl | rfl | rfl <;> decide +kernel
  | false =>
    have h : n ≤ 5 := h
    rcases (show n = 0 ∨ n = 1 ∨ n = 2 ∨ n = 3 ∨ n = 4 ∨ n = 5 by omega) with rfl | rfl | rfl | rfl | rfl | rfl <;> decide +kernel
/-- the stacks of n that need i flips -/
structure IsLayer (b : Bool) (n i : Nat) (L : List (List Int)) : Prop where
  nodup : L.Nodup
  mem : ∀ x, x ∈ L ↔ (Valid b x ∧ x.length = n ∧ Mu28.needs b x = i)
/-- those that need i at the most -/
structure IsSeen (b : Bool) (n i : Nat) (S : List (List Int)) : Prop where
  nodup : S.Nodup
  mem : ∀ x, x ∈ S ↔ (Valid b x ∧ x.length = n ∧ Mu28.needs b x ≤ i)
section
variable {b : Bool} {n : Nat} (hn : n ≤ few b)
include hn
theorem layer_zero : IsLayer b n 0 [Mu28.sorted n] := by
  refine ⟨by simp, fun x => ?_⟩
  rw [List.mem_singleton]
  constructor
  · rintro rfl
    refine ⟨sorted_valid b n, sorted_len n, ?_⟩
    exact (needs_zero (sorted_valid b n) (by rw [sorted_len]; exact hn)).mpr (by rw [sorted_len])
  · rintro ⟨V, rfl, e⟩
    exact (needs_zero V hn).mp e
theorem seen_zero : IsSeen b n 0 [Mu28.sorted n] := by
  refine ⟨by simp, fun x => ?_⟩
  rw [(layer_zero hn).mem x]
  exact ⟨fun ⟨a, c, d⟩ => ⟨a, c, by omega⟩, fun ⟨a, c, d⟩ => ⟨a, c, by omega⟩⟩
theorem layer_next {i : Nat} {L S us : List (List Int)} (hL : IsLayer b n i L) (hS : IsSeen b n i S) (f : Found S us (Behind b L)) : IsLayer b n (i + 1) us ∧ IsSeen b n (i + 1) (S ++ us) := by
  have A : ∀ x, x ∈ us ↔ (Valid b x ∧ x.length = n ∧ Mu28.needs b x = i + 1) := by
    intro x
    constructor
    · intro hx
      obtain ⟨h1, s, hs, k, hk, rfl⟩ := f.in_ x hx
      obtain ⟨V, hl, e⟩ := (hL.mem s).mp hs
      have hk' := hk
      rw [ways_mem] at hk'
      have V2 := V.flip k
      have l2 : (Mu28.flip b k s).length = n := by rw [flip_len]; exact hl
      refine ⟨V2, l2, ?_⟩
      have a := needs_flip V2 (by rw [l2]; exact hn) (k := k) (by rw [flip_len]; exact hk)
      rw [flip_flip b hk'.1, e] at a
      have c : ¬ Mu28.needs b (Mu28.flip b k s) ≤ i := fun z => h1 ((hS.mem _).mpr ⟨V2, l2, z⟩)
      omega
    · rintro ⟨V, hl, e⟩
      obtain ⟨k, hk, e2⟩ := needs_pred V (by rw [hl]; exact hn) e
      have hk' := hk
      rw [ways_mem] at hk'
      have hs : Mu28.flip b k x ∈ L := (hL.mem _).mpr ⟨V.flip k, by rw [flip_len]; exact hl, e2⟩
      rcases f.all x ⟨_, hs, k, by rw [flip_len]; exact hk, flip_flip b hk'.1⟩ with z | z
      · have := ((hS.mem x).mp z).2.2
        omega
      · exact z
  refine ⟨⟨f.nodup, A⟩, ⟨?_, fun x => ?_⟩⟩
  · rw [List.nodup_append]
    exact ⟨hS.nodup, f.nodup, fun a ha c hc z => (f.in_ c hc).1 (by rw [← z]; exact ha)⟩
  · rw [List.mem_append, hS.mem x, A x]
    constructor
    · rintro (⟨V, l, e⟩ | ⟨V, l, e⟩)
      · exact ⟨V, l, by omega⟩
      · exact ⟨V, l, by omega⟩
    · rintro ⟨V, l, e⟩
      by_cases c : Mu28.needs b x = i + 1
      · exact .inr ⟨V, l, c⟩
      · exact .inl ⟨V, l, by omega⟩
theorem seen_len {i : Nat} {S : List (List Int)} (hS : IsSeen b n i S) : S.length ≤ 120 :=
  Nat.le_trans (nodup_le hS.nodup fun x hx => mem_all.mpr ⟨((hS.mem x).mp hx).1, ((hS.mem x).mp hx).2.1⟩) (all_few hn)
theorem layer_len {i : Nat} {L : List (List Int)} (hL : IsLayer b n i L) : L.length ≤ 120 :=
  Nat.le_trans (nodup_le hL.nodup fun x hx => mem_all.mpr ⟨((hL.mem x).mp hx).1, ((hL.mem x).mp hx).2.1⟩) (all_few hn)
theorem next_len {i : Nat} {L S : List (List Int)} (hL : IsLayer b n i L) (hS : IsSeen b n i S) (us : List (List Int)) (h : us.Nodup) (h2 : ∀ x ∈ us, x ∉ S ∧ Behind b L x) : S.length + us.length ≤ 900 := by
  have a := seen_len hn hS
  have c := Nat.le_trans (nodup_le (m := Mu28.all b n) h fun x hx => by
    obtain ⟨_, s, hs, k, _, rfl⟩ := h2 x hx
    obtain ⟨V, hl, _⟩ := (hL.mem s).mp hs
    exact mem_all.mpr ⟨V.flip k, by rw [flip_len]; exact hl⟩) (all_few hn)
  omega
theorem layer_some {i : Nat} {L : List (List Int)} (hL : IsLayer b n i L) : L ≠ [] ↔ i ≤ mostNeed b n := by
  constructor
  · intro h
    obtain ⟨x, hx⟩ := List.exists_mem_of_ne_nil L h
    obtain ⟨V, hl, e⟩ := (hL.mem x).mp hx
    have := le_mostNeed (b := b) (n := n) (mem_all.mpr ⟨V, hl⟩)
    omega
  · intro h z
    obtain ⟨s, hs, e⟩ := mostNeed_mem b n
    obtain ⟨V, hl⟩ := mem_all.mp hs
    obtain ⟨t, V2, l2, e2⟩ := needs_below V (by rw [hl]; exact hn) (mostNeed b n - i) i (by omega)
    have := (hL.mem t).mpr ⟨V2, by rw [l2]; exact hl, e2⟩
    rw [z] at this
    cases this
theorem layer_count {i : Nat} {L : List (List Int)} (hL : IsLayer b n i L) : L.length = (((Mu28.all b n).map (Mu28.needs b)).filter fun x => x == i).length := by
  have e : (((Mu28.all b n).map (Mu28.needs b)).filter fun x => x == i).length = ((Mu28.all b n).filter fun s => Mu28.needs b s == i).length := by
    rw [List.filter_map, List.length_map]
    rfl
  rw [e]
  have m : ∀ x, x ∈ (Mu28.all b n).filter (fun s => Mu28.needs b s == i) ↔ x ∈ L := fun x => by
    rw [List.mem_filter, mem_all, hL.mem x]
    simp [and_assoc]
  have nd : ((Mu28.all b n).filter fun s => Mu28.needs b s == i).Nodup := (all_nodup b n).filter _
  have a := nodup_le hL.nodup fun x hx => (m x).mpr hx
  have c := nodup_le nd fun x hx => (m x).mp hx
  omega
/-- the stack that worst tells is the least of the last layer -/
theorem worst_is {L : List (List Int)} (hL : IsLayer b n (mostNeed b n) L) {s : List Int} (hs : s ∈ L) (h : ∀ t ∈ L, ¬ sLt t s) : ((Mu28.all b n).find? fun s => Mu28.needs b s == mostNeed b n) = some s := by
  obtain ⟨V, hl, e⟩ := (hL.mem s).mp hs
  have ha : s ∈ Mu28.all b n := mem_all.mpr ⟨V, hl⟩
  obtain ⟨p, q, hpq⟩ := List.append_of_mem ha
  have so := all_sorted b n
  rw [hpq, List.pairwise_append] at so
  rw [hpq, List.find?_append]
  have none : p.find? (fun s => Mu28.needs b s == mostNeed b n) = none := by
    rw [List.find?_eq_none]
    intro x hx z
    have z : Mu28.needs b x = mostNeed b n := by simpa using z
    have hx2 : x ∈ Mu28.all b n := by rw [hpq]; exact List.mem_append_left _ hx
    obtain ⟨V2, l2⟩ := mem_all.mp hx2
    exact h x ((hL.mem x).mpr ⟨V2, l2, z⟩) (so.2.2 x hx s List.mem_cons_self)
  rw [none, List.find?_cons]
  have t : (Mu28.needs b s == mostNeed b n) = true := by rw [e]; exact beq_self_eq_true _
  rw [t]
  rfl
end
end Pan
namespace Pan
open PySem PySem.Spec PyProof.Rows L2
open PySem.W (Codec)
abbrev rds (L : List (List Int)) : List PyData := L.map fun s => PyData.list (ids s)
theorem dp_rows {K : PySem.W.Frag} {H : Hp} : ∀ {as : List Addr} {L : List (List Int)}, RowsAt H as L → DpAll K H (rvs as) (rds L)
  | [], [], _ => .nil
  | [], _ :: _, h => by cases h.1
  | _ :: _, [], h => by cases h.1
  | a :: as, s :: L, h => .cons (.lst (SqL.of (h.2 0 a s rfl rfl)) (dp_ints s)) (dp_rows ⟨by simpa using h.1, fun i c x e1 e2 => h.2 (i + 1) c x (by simpa using e1) (by simpa using e2)⟩)
theorem rows_can : ∀ L : List (List Int), PyData.canLayAll0 (rds L) = true
  | [] => rfl
  | s :: L => by
    show (PyData.canLayAll0 (ids s) && PyData.canLayAll0 (rds L)) = true
    rw [canLay_ints s, rows_can L]
    rfl
theorem rows_depth : ∀ L : List (List Int), PyData.depthAll (rds L) ≤ 1
  | [] => Nat.zero_le _
  | s :: L => by
    have e : PyData.depthAll (rds (s :: L)) = max (PyData.depthAll (ids s) + 1) (PyData.depthAll (rds L)) := rfl
    have := rows_depth L
    rw [e, depth_ints]
    omega
theorem shaped_rows (L : List (List Int)) : SeqAt.shaped (.list (rds L)) = true := by
  unfold SeqAt.shaped
  have h1 : PyData.canLay0 (.list (rds L)) = true := rows_can L
  have h2 : PyData.depth (.list (rds L)) = PyData.depthAll (rds L) + 1 := rfl
  have h3 := rows_depth L
  rw [h1, h2, decide_eq_true (by omega)]
  rfl
theorem eqv_none (L : List (List Int)) : PyData.eqv (.list (rds L)) (.list []) = decide (L = []) := by
  cases L with
  | nil => rfl
  | cons s L => rfl
theorem rvs_get {as : List Addr} {i : Nat} {x : V} (h : (rvs as)[i]? = some x) : ∃ a, as[i]? = some a ∧ x = .ref a := by
  rw [List.getElem?_map] at h
  cases e : as[i]? with
  | none => rw [e] at h; cases h
  | some a => rw [e] at h; exact ⟨a, rfl, (Option.some.inj h).symm⟩
/-- at p a list of the stacks of n that need i flips -/
def LayerAt (H : Hp) (p : Addr) (b : Bool) (n i : Nat) : Prop := ∃ (bs : List Addr) (L : List (List Int)), H p = some (.lst (rvs bs)) ∧ RowsAt H bs L ∧ IsLayer b n i L
theorem LayerAt.keep {H H' : Hp} {p u : Addr} {b : Bool} {n i : Nat} (h : LayerAt H p b n i) (hn : 1 ≤ n) (k : ∀ c o, H c = some o → c ≠ u → H' c = some o) (hp : p ≠ u) (hu : H u = none ∨ (∃ ps, H u = some (.lst (rvs ps))) ∨ ∃ kvs, H u = some (.dT kvs)) : LayerAt H' p b n i := by
  obtain ⟨bs, L, h1, h2, h3⟩ := h
  refine ⟨bs, L, k _ _ h1 hp, ⟨h2.1, fun j c x e1 e2 => ?_⟩, h3⟩
  have e := h2.2 j c x e1 e2
  refine k c _ e fun z => ?_
  rcases hu with q | ⟨ps, q⟩ | ⟨kvs, q⟩
  · rw [z, q] at e; cases e
  · rw [z, q] at e
    have e := Option.some.inj e
    injection e with e
    have hx := ((h3.mem x).mp (List.mem_of_getElem? e2)).2.1
    cases x with
    | nil => rw [← hx] at hn; cases hn
    | cons y x =>
      cases ps with
      | nil => cases e
      | cons p ps =>
        have e : V.ref p :: rvs ps = V.int y :: ivs x := e
        injection e with e
        cases e
  · rw [z, q] at e; cases e
section
variable {P : Program} {w : World} {K : PySem.W.Frag} {mg : Str → Option Value} {base : Heap}
/-! ### layers_of -/
theorem scLa : FnScope ["n", "sides_count", "layer", "seen", "layers"] ["n", "sides_count"] (defScope sLayers) := ⟨rfl, rfl, rfl, by decide +kernel, rfl, by decide +kernel, by decide +kernel⟩
def spLayers : Sp := fun vs H Q _ => ∃ (n : Nat) (b : Bool), vs = [.int n, .bl b] ∧ 1 ≤ n ∧ n ≤ few b ∧
  ∀ (H' : Hp) (u : Addr) (ps : List Addr), Same H H' → H u = none → H' u = some (.lst (rvs ps)) → ps.length = mostNeed b n + 1 → (∀ (j : Nat) (p : Addr), ps[j]? = some p → LayerAt H' p b n j) → Q (.ref u) H'
theorem ok_layers {f : Addr} {fd : FuncData} (F : Fun K "layers_of" "layers_of" sLayers f fd) (T : Own mg) (Tt : mg "tuple" = none) (DU : Def P w K mg base 3 "unseen_behind" ["layer", "sides_count", "seen"] spUnseen) :
    FnOk P w K mg base CX0 4 f fd ["n", "sides_count"] spLayers := by
  obtain ⟨fu, fdu, mu, ku, bu, Gu⟩ := DU
  refine F.ok scLa (fun vs H Q E h => ?_) (fun cdv A outer s H vs Q E hr h => ⟨_, pss_cons
    (ps_set (i := 2) scLa.nd rfl (Or.inl rfl) (pe_lst (pa_cons (pe_listRg (by rfl) (by rfl) T.list (prg_2 (by rfl) T.range pe_int (pe_op op_add (pv 0) pe_int))) pa_nil)))
    (pss_cons (ps_set (i := 3) scLa.nd rfl (Or.inl rfl) (pe_oneT hr.units (pe_callTy (call_tuple_of) (by rfl) Tt (by decide +kernel) (pa_cons (pe_ix ix_list (pv 2) pe_int (fun _ _ => rfl)) pa_nil)) pe_bl))
    (pss_cons (ps_set (i := 4) scLa.nd rfl (Or.inl rfl) (pe_lst pa_nil))
    (pss_cons (ps_while PassesOwn.never (pt_cmpR (op_neD hr.units) (pv 2) (pe_lst pa_nil) (nomark _))
      (pss_cons (ps_expr (pe_bm PySem.F.plainAttrs_list PySem.F.slot_list_append PySem.F.type_list_append mt_append (pv 4) (pa_cons (pv 2) pa_nil)))
        (pss_one (ps_set (i := 2) scLa.nd rfl (Or.inl rfl) (pe_call Gu hr rfl mu ku bu .nil pass0 (pa_cons (pv 2) (pa_cons (pv 1) (pa_cons (pv 3) pa_nil))))))))
    (pss_one (ps_ret (pv 4)))))), ?_⟩)
  · obtain ⟨n, b, rfl, _⟩ := h; rfl
  · obtain ⟨n, b, rfl, h1, hn, q⟩ := h
    have h5 : n ≤ 5 := Nat.le_trans hn (few_le5 b)
    refine ⟨_, rfl, _, _, rfl, rfl, _, _, rfl, rfl, RgOk.of_le (by decide) (by omega) (by decide) (by omega), fun a na => ?_⟩
    rw [rg_sorted]
    refine ⟨by show 1 ≤ sizeLine; decide, fun l nl => fun D nD => ?_⟩
    have hal : a ≠ l := fun z => by rw [← z, upd_same] at nl; cases nl
    have nl' : H l = none := by rw [upd_ne (Ne.symm hal)] at nl; exact nl
    have hDl : D ≠ l := fun z => by rw [z, upd_same] at nD; cases nD
    have nD1 : upd H a (.lst (ivs (Mu28.sorted n))) D = none := by rw [upd_ne hDl] at nD; exact nD
    have hDa : D ≠ a := fun z => by rw [z, upd_same] at nD1; cases nD1
    have nD' : H D = none := by rw [upd_ne hDa] at nD1; exact nD1
    have hl3 : upd (upd (upd H a (.lst (ivs (Mu28.sorted n)))) l (.lst [V.ref a])) D (.dT []) l = some (.lst [V.ref a]) := by rw [upd_ne (Ne.symm hDl), upd_same]
    have ha3 : upd (upd (upd H a (.lst (ivs (Mu28.sorted n)))) l (.lst [V.ref a])) D (.dT []) a = some (.lst (ivs (Mu28.sorted n))) := by rw [upd_ne (Ne.symm hDa), upd_ne hal, upd_same]
    have hD3 : upd (upd (upd H a (.lst (ivs (Mu28.sorted n)))) l (.lst [V.ref a])) D (.dT []) D = some (.dT []) := upd_same
    have sm3 : Same H (upd (upd (upd H a (.lst (ivs (Mu28.sorted n)))) l (.lst [V.ref a])) D (.dT [])) := same_upd (same_upd (same_new na) nl') nD'
    refine ⟨_, rfl, l, _, _, .ref a, rfl, rfl, SqL.of hl3, (show atI [V.ref a] ((0 : Nat) : Int) = some (V.ref a) from atI_nat rfl), ?_⟩
    generalize upd (upd (upd H a (.lst (ivs (Mu28.sorted n)))) l (.lst [V.ref a])) D (.dT []) = H3 at hl3 ha3 hD3 sm3 ⊢
    refine ⟨a, _, rfl, .inl ⟨SqL.of ha3, fun t nt => ?_⟩⟩
    have off4 : ∀ c o, H3 c = some o → upd H3 t (.tup (ivs (Mu28.sorted n))) c = some o := same_new nt
    refine ⟨off4 _ _ hD3, t, skey (Mu28.sorted n), rfl, by rw [skey_kV]; exact upd_same, ?_⟩
    have sm4 : Same H (upd H3 t (.tup (ivs (Mu28.sorted n)))) := sm3.trans off4
    have off5 : ∀ c o, H3 c = some o → c ≠ D → upd (upd H3 t (.tup (ivs (Mu28.sorted n)))) D (.dT [(skey (Mu28.sorted n), V.bl true)]) c = some o := fun c o e nc => by
      rw [upd_ne nc]
      exact off4 c o e
    have sm5 : Same H (upd (upd H3 t (.tup (ivs (Mu28.sorted n)))) D (.dT [(skey (Mu28.sorted n), V.bl true)])) := same_upd sm4 nD'
    have hD5 : upd (upd H3 t (.tup (ivs (Mu28.sorted n)))) D (.dT [(skey (Mu28.sorted n), V.bl true)]) D = some (.dT (seenKV [Mu28.sorted n])) := upd_same
    have hl5 := off5 _ _ hl3 (Ne.symm hDl)
    have ha5 := off5 _ _ ha3 (Ne.symm hDa)
    generalize upd (upd H3 t (.tup (ivs (Mu28.sorted n)))) D (.dT [(skey (Mu28.sorted n), V.bl true)]) = H5 at sm5 hD5 hl5 ha5 ⊢
    refine ⟨by decide, fun U nU => ?_⟩
    have nU' : H U = none := Same.free sm5 nU
    have W : ∃ W : Nat → L2.St → Hp → Prop, W = fun m σ H' => ∃ (i : Nat) (p : Addr) (as : List Addr) (L S : List (List Int)) (ps : List Addr), m = mostNeed b n + 1 - i ∧ i ≤ mostNeed b n + 1 ∧ σ = [some (.int n), some (.bl b), some (.ref p), some (.ref D), some (.ref U)] ∧ Same H H' ∧
      H' p = some (.lst (rvs as)) ∧ p ≠ U ∧ RowsAt H' as L ∧ IsLayer b n i L ∧ H' D = some (.dT (seenKV S)) ∧ IsSeen b n i S ∧ H' U = some (.lst (rvs ps)) ∧ ps.length = i ∧ ∀ (j : Nat) (c : Addr), ps[j]? = some c → c ≠ U ∧ LayerAt H' c b n j := ⟨_, rfl⟩
    obtain ⟨W, hW⟩ := W
    refine ⟨W, ⟨mostNeed b n + 1, ?_⟩, ?_⟩
    · rw [hW]
      have off6 : ∀ c o, H5 c = some o → upd H5 U (.lst []) c = some o := same_new nU
      exact ⟨0, l, [a], [Mu28.sorted n], [Mu28.sorted n], [], rfl, Nat.zero_le _, rfl, same_upd sm5 nU', off6 _ _ hl5, fun z => (by rw [z, nU] at hl5; cases hl5),
        (RowsAt.nil _).snoc (off6 _ _ ha5), layer_zero hn, off6 _ _ hD5, seen_zero hn, upd_same, rfl, fun j c e => by simp at e⟩
    · intro m σ H7 hw
      rw [hW] at hw
      obtain ⟨i, p, as, L, S, ps, rfl, hi, rfl, sm, hp, pU, hra, hL, hD, hS, hU, hl, hps⟩ := hw
      refine ⟨_, rfl, by decide, fun e ne => ?_⟩
      have off8 : ∀ c o, H7 c = some o → upd H7 e (.lst []) c = some o := same_new ne
      have ra8 : RowsAt (upd H7 e (.lst [])) as L := hra.mono fun c y _ z => off8 c _ z
      have sm8 : Same H (upd H7 e (.lst [])) := sm.trans off8
      have hp8 := off8 _ _ hp
      have hD8 := off8 _ _ hD
      have hU8 := off8 _ _ hU
      refine ⟨_, _, .lst (SqL.of hp8) (dp_rows ra8), .lst (SqL.of upd_same) .nil, shaped_rows L, rfl, ?_⟩
      have la8 : ∀ (j : Nat) (c : Addr), ps[j]? = some c → c ≠ U ∧ LayerAt (upd H7 e (.lst [])) c b n j := fun j c ec => by
        obtain ⟨g1, bs, L', g2, g3, g4⟩ := hps j c ec
        exact ⟨g1, bs, L', off8 _ _ g2, g3.mono fun c y _ z => off8 c _ z, g4⟩
      generalize upd H7 e (.lst []) = H8 at ra8 sm8 hp8 hD8 hU8 la8 ⊢
      clear off8 hps hU hD hra hp sm ne
      rw [eqv_none]
      refine ⟨_, rfl, ?_⟩
      by_cases c : L = []
      · refine if_ndec_t c ⟨_, rfl, q H8 U ps sm8 nU' hU8 ?_ fun j c e => (la8 j c e).2⟩
        have := mt (layer_some hn hL).mpr (fun z => z c)
        omega
      · have him : i ≤ mostNeed b n := (layer_some hn hL).mp c
        refine if_ndec_f c ⟨W (mostNeed b n + 1 - (i + 1)), fun σ' H' h => ⟨_, by omega, h⟩, ?_⟩
        have UD : U ≠ D := fun z => by rw [z, hD8] at hU8; cases hU8
        have pD : p ≠ D := fun z => by rw [z, hD8] at hp8; cases hp8
        have h18 := mostNeed_le (b := b) (n := n) hn
        refine ⟨_, rfl, .inl ⟨rfl, _, SqL.of hU8⟩, _, rfl, U, _, _, rfl, rfl, hU8, small1000 (by rw [List.length_map]; omega), ?_⟩
        have off9 : ∀ c o, H8 c = some o → c ≠ U → upd H8 U (.lst (rvs ps ++ [V.ref p])) c = some o := fun c o z nc => (upd_ne nc).trans z
        have ra9 : RowsAt (upd H8 U (.lst (rvs ps ++ [V.ref p]))) as L := ⟨ra8.1, fun j c y e1 e2 => by
          have z := ra8.2 j c y e1 e2
          refine off9 c _ z fun zz => ?_
          have yl := ((hL.mem y).mp (List.mem_of_getElem? e2)).2.1
          rw [zz, hU8] at z
          have z := Option.some.inj z
          injection z with z
          cases y with
          | nil => rw [← yl] at h1; cases h1
          | cons y0 y =>
            cases ps with
            | nil => cases z
            | cons p0 ps =>
              have z : V.ref p0 :: rvs ps = V.int y0 :: ivs y := z
              injection z with z
              cases z⟩
        have hp9 := off9 _ _ hp8 pU
        have hD9 := off9 _ _ hD8 (Ne.symm UD)
        have sm9 : Same H (upd H8 U (.lst (rvs ps ++ [V.ref p]))) := same_upd sm8 nU'
        refine ⟨_, rfl, _, rfl, _, rfl, p, D, as, b, L, S, rfl, hp9, ra9, hD9, fun s hs => ?_, fun us g1 g2 => next_len hn hL hS us g1 g2, fun H10 u us bs kp nu hu hb hd f => ?_⟩
        · have := ((hL.mem s).mp hs).2.1
          omega
        · rw [hW]
          obtain ⟨n1, n2⟩ := layer_next hn hL hS f
          have lift : ∀ (j : Nat) (c : Addr), c ≠ U → LayerAt H8 c b n j → LayerAt H10 c b n j := fun j c nc g => by
            have g9 := g.keep h1 off9 nc (.inr (.inl ⟨ps, hU8⟩))
            refine g9.keep h1 kp (fun z => ?_) (.inr (.inr ⟨_, hD9⟩))
            obtain ⟨_, _, y, _⟩ := g9
            rw [z, hD9] at y
            cases y
          refine ⟨i + 1, u, bs, us, S ++ us, ps ++ [p], rfl, by omega, rfl, fun c o z => kp c o (sm9 c o z) fun y => (by rw [y, nD'] at z; cases z), hu, fun z => (by rw [z, upd_same] at nu; cases nu), hb, n1, hd, n2, ?_, by rw [List.length_append, hl]; rfl, fun j c ec => ?_⟩
          · rw [← rvs_snoc]
            exact kp _ _ upd_same UD
          · by_cases cj : j < ps.length
            · rw [List.getElem?_append_left cj] at ec
              obtain ⟨g1, g2⟩ := la8 j c ec
              exact ⟨g1, lift j c g1 g2⟩
            · have jl := (List.getElem?_eq_some_iff.mp ec).1
              rw [List.length_append, List.length_singleton] at jl
              have ej : j = i := by omega
              rw [ej, ← hl, List.getElem?_append_right (Nat.le_refl _), Nat.sub_self] at ec
              have ec : some p = some c := ec
              cases ec
              rw [ej]
              exact ⟨pU, lift i p pU ⟨as, L, hp8, ra8, hL⟩⟩
end
end Pan
namespace Pan
open PySem PySem.Spec PyProof.Rows L2
open PySem.W (Codec)
abbrev sTry : Stmt := inClass sTurner 7
abbrev sSame : Stmt := inClass sTurner 8
abbrev sRound : Stmt := inClass sTurner 9
abbrev sHint : Stmt := inClass sTurner 10
section
variable {P : Program} {w : World} {K : PySem.W.Frag} {mg : Str → Option Value} {base : Heap} {C : Addr}
/-! ### try_row -/
def spTry (C : Addr) : Sp := fun vs H Q _ => ∃ (z a r : Addr) (t : Mu28.State) (l : List Nat), vs = [.ref a, .ref r] ∧ TuAt C z H a (some t) ∧ Fit t ∧ H r = some (.lst (nvs l)) ∧ Does C z a (some t) (.try_ l) H Q
theorem scTr : FnScope ["self", "row", "stack"] ["self", "row"] (defScope sTry) := ⟨rfl, rfl, rfl, by decide +kernel, rfl, by decide +kernel, by decide +kernel⟩
theorem ok_try {f : Addr} {fd : FuncData} (F : Fun K "try_row" "Turner.try_row" sTry f fd) (T : TTxt K C) (DC : Def P w K mg base 1 "can_be_done" ["stack", "row"] (spCan K)) (DA : Def P w K mg base 3 "after_row" ["stack", "row", "sides_count"] (spAfter K))
    (DG : Def P w K mg base 2 "gap_count" ["stack", "sides_count"] (spCount K)) : FnOk P w K mg base CX0 4 f fd ["self", "row"] (spTry C) := by
  obtain ⟨fc, fdc, mc, kc, bc, Gc⟩ := DC
  obtain ⟨fa, fda, ma, ka, ba, Ga⟩ := DA
  obtain ⟨fg, fdg, mgg, kg, bg, Gg⟩ := DG
  refine F.ok scTr (fun vs H Q E h => ?_) (fun cdv A outer s H vs Q E hr h => ⟨_, pss_cons
    (ps_if (pt_not (pt_truth (pe_call Gc (hr.mono (by decide)) rfl mc kc bc .nil pass0 (pa_cons (pe_fld (pv 0) rfl) (pa_cons (pv 1) pa_nil))) (by intro _; rfl))) (pss_one (ps_ret (pe_lst (pa_cons (pe_un un_neg pe_int) pa_nil)))) pss_nil)
    (pss_cons (ps_set (i := 2) scTr.nd rfl (Or.inl rfl) (pe_call Ga hr rfl ma ka ba .nil pass0 (pa_cons (pe_fld (pv 0) rfl) (pa_cons (pv 1) (pa_cons (pe_fld (pv 0) rfl) pa_nil)))))
    (pss_one (ps_ret (pe_op op_cat (pe_lst (pa_cons (pe_call Gg (hr.mono (by decide)) rfl mgg kg bg .nil pass0 (pa_cons (pv 2) (pa_cons (pe_fld (pv 0) rfl) pa_nil))) pa_nil)) (pv 2))))), ?_⟩)
  · obtain ⟨z, a, r, t, l, rfl, _⟩ := h; rfl
  · obtain ⟨z, a, r, t, l, rfl, ht, g, hl, q⟩ := h
    have ht0 := ht
    obtain ⟨⟨zs, hz⟩, dx, v, b, n, ha, A, rfl, nA, hA, rfl, rfl⟩ := ht
    have est : Mu28.step (some t) (.try_ l) = (some t, if Mu28.fine t.stack.length l = false then [-1] else (Mu28.gaps t.burnt (Mu28.flips t.burnt l t.stack) : Int) :: Mu28.flips t.burnt l t.stack) := rfl
    have g8 := g.le8
    refine ⟨_, rfl, a, C, dx, _, _, rfl, ha, T.cl, T.n1, tF_stack _ _ _, _, rfl, A, r, t.stack, l, rfl, SqL.of hA, SqL.of hl, ?_⟩
    refine ⟨_, rfl, ?_⟩
    cases e : Mu28.fine t.stack.length l with
    | false =>
      refine ⟨_, rfl, by show 1 ≤ sizeLine; decide, fun p np => ?_⟩
      refine q.still (ans := [-1]) ?_ ht0 (same_new np) np upd_same
      rw [est, if_pos e]
    | true =>
      have e2 : Mu28.step (some t) (.try_ l) = (some t, (Mu28.gaps t.burnt (Mu28.flips t.burnt l t.stack) : Int) :: Mu28.flips t.burnt l t.stack) := by
        rw [est, if_neg (by rw [e]; decide)]
      refine ⟨_, rfl, a, C, dx, _, _, rfl, ha, T.cl, T.n1, tF_stack _ _ _, _, rfl, _, rfl, a, C, dx, _, _, rfl, ha, T.cl, T.n2, tF_sides _ _ _, A, r, t.stack, l, t.burnt, rfl, hA, SqL.of hl, by omega, fun H1 p sm1 hp1 => ?_⟩
      have ha1 := sm1 _ _ ha
      refine ⟨_, rfl, _, rfl, a, C, dx, _, _, rfl, ha1, T.cl, T.n2, tF_sides _ _ _, p, _, t.burnt, rfl, SqL.of hp1, fun H2 sm2 => ⟨by show 1 ≤ sizeLine; decide, fun u nu => ?_⟩⟩
      have hp2 := sm2 _ _ hp1
      have pu : p ≠ u := fun z => by rw [z, nu] at hp2; cases hp2
      have sm := sm1.trans sm2
      refine ⟨_, rfl, u, p, _, _, rfl, rfl, upd_same, (upd_ne pu).trans hp2, ?_, fun y ny => ?_⟩
      · refine Nat.le_of_lt (line_of ?_)
        rw [List.length_map, flips_len]
        show 1 + t.stack.length ≤ _
        omega
      · have sm3 : Same H (upd H2 u (.lst [V.int (Mu28.gaps t.burnt (Mu28.flips t.burnt l t.stack) : Nat)])) := same_upd sm (Same.free sm nu)
        have ny0 := Same.free sm3 ny
        exact q.still e2 ht0 (same_upd sm3 ny0) ny0 upd_same
/-! ### same -/
def spSame (C : Addr) : Sp := fun vs H Q _ => ∃ (z a r r2 : Addr) (t : Mu28.State) (l m : List Nat), vs = [.ref a, .ref r, .ref r2] ∧ TuAt C z H a (some t) ∧ Fit t ∧ H r = some (.lst (nvs l)) ∧ H r2 = some (.lst (nvs m)) ∧ Does C z a (some t) (.same l m) H Q
theorem scSa : FnScope ["self", "one", "other", "behind_one", "behind_other"] ["self", "one", "other"] (defScope sSame) := ⟨rfl, rfl, rfl, by decide +kernel, rfl, by decide +kernel, by decide +kernel⟩
theorem ok_same_ {f : Addr} {fd : FuncData} (F : Fun K "same" "Turner.same" sSame f fd) (T : TTxt K C) (DC : Def P w K mg base 1 "can_be_done" ["stack", "row"] (spCan K)) (DA : Def P w K mg base 3 "after_row" ["stack", "row", "sides_count"] (spAfter K)) :
    FnOk P w K mg base CX0 4 f fd ["self", "one", "other"] (spSame C) := by
  obtain ⟨fc, fdc, mc, kc, bc, Gc⟩ := DC
  obtain ⟨fa, fda, ma, ka, ba, Ga⟩ := DA
  refine F.ok scSa (fun vs H Q E h => ?_) (fun cdv A outer s H vs Q E hr h => ⟨_, pss_cons
    (ps_if (PW.pt (pw_or (pt_not (pt_truth (pe_call Gc (hr.mono (by decide)) rfl mc kc bc .nil pass0 (pa_cons (pe_fld (pv 0) rfl) (pa_cons (pv 1) pa_nil))) (by intro _; rfl)))
      (pw_or1 (pt_not (pt_truth (pe_call Gc (hr.mono (by decide)) rfl mc kc bc .nil pass0 (pa_cons (pe_fld (pv 0) rfl) (pa_cons (pv 2) pa_nil))) (by intro _; rfl)))))) (pss_one (ps_ret (pe_lst (pa_cons (pe_un un_neg pe_int) pa_nil)))) pss_nil)
    (pss_cons (ps_set (i := 3) scSa.nd rfl (Or.inl rfl) (pe_call Ga hr rfl ma ka ba .nil pass0 (pa_cons (pe_fld (pv 0) rfl) (pa_cons (pv 1) (pa_cons (pe_fld (pv 0) rfl) pa_nil)))))
    (pss_cons (ps_set (i := 4) scSa.nd rfl (Or.inl rfl) (pe_call Ga hr rfl ma ka ba .nil pass0 (pa_cons (pe_fld (pv 0) rfl) (pa_cons (pv 2) (pa_cons (pe_fld (pv 0) rfl) pa_nil)))))
    (pss_one (ps_ret (pe_lst (pa_cons (pe_ifExp (pt_cmpR (op_eqD hr.units) (pv 3) (pv 4) (nomark _)) pe_int pe_int) pa_nil)))))), ?_⟩)
  · obtain ⟨z, a, r, r2, t, l, m, rfl, _⟩ := h; rfl
  · obtain ⟨z, a, r, r2, t, l, m, rfl, ht, g, hl, hm, q⟩ := h
    have ht0 := ht
    obtain ⟨⟨zs, hz⟩, dx, v, b, n, ha, A, rfl, nA, hA, rfl, rfl⟩ := ht
    have est : Mu28.step (some t) (.same l m) = (some t, if Mu28.fine t.stack.length l = false ∨ Mu28.fine t.stack.length m = false then [-1] else [if Mu28.flips t.burnt l t.stack = Mu28.flips t.burnt m t.stack then 1 else 0]) := rfl
    have g8 := g.le8
    refine ⟨_, rfl, a, C, dx, _, _, rfl, ha, T.cl, T.n1, tF_stack _ _ _, _, rfl, A, r, t.stack, l, rfl, SqL.of hA, SqL.of hl, _, rfl, ?_⟩
    cases e : Mu28.fine t.stack.length l with
    | false =>
      refine ⟨_, rfl, by show 1 ≤ sizeLine; decide, fun p np => ?_⟩
      refine q.still (ans := [-1]) ?_ ht0 (same_new np) np upd_same
      rw [est, if_pos (.inl e)]
    | true =>
      refine ⟨_, rfl, a, C, dx, _, _, rfl, ha, T.cl, T.n1, tF_stack _ _ _, _, rfl, A, r2, t.stack, m, rfl, SqL.of hA, SqL.of hm, _, rfl, ?_⟩
      cases e2 : Mu28.fine t.stack.length m with
      | false =>
        refine ⟨_, rfl, by show 1 ≤ sizeLine; decide, fun p np => ?_⟩
        refine q.still (ans := [-1]) ?_ ht0 (same_new np) np upd_same
        rw [est, if_pos (.inr e2)]
      | true =>
        have e3 : Mu28.step (some t) (.same l m) = (some t, [if Mu28.flips t.burnt l t.stack = Mu28.flips t.burnt m t.stack then 1 else 0]) := by
          rw [est, if_neg (by rw [e, e2]; simp)]
        refine ⟨_, rfl, a, C, dx, _, _, rfl, ha, T.cl, T.n1, tF_stack _ _ _, _, rfl, _, rfl, a, C, dx, _, _, rfl, ha, T.cl, T.n2, tF_sides _ _ _, A, r, t.stack, l, t.burnt, rfl, hA, SqL.of hl, by omega, fun H1 p sm1 hp1 => ?_⟩
        have ha1 := sm1 _ _ ha
        refine ⟨_, rfl, a, C, dx, _, _, rfl, ha1, T.cl, T.n1, tF_stack _ _ _, _, rfl, _, rfl, a, C, dx, _, _, rfl, ha1, T.cl, T.n2, tF_sides _ _ _, A, r2, t.stack, m, t.burnt, rfl, sm1 _ _ hA, SqL.of (sm1 _ _ hm), by omega, fun H2 p2 sm2 hp2 => ?_⟩
        have sm := sm1.trans sm2
        refine ⟨_, rfl, _, rfl, _, _, .lst (SqL.of (sm2 _ _ hp1)) (dp_ints _), .lst (SqL.of hp2) (dp_ints _), shaped_ints _, shaped_ints _, ?_⟩
        rw [eqv_ints]
        refine ⟨_, rfl, if_dec (fun c => ?_) fun c => ?_⟩
        · rw [if_pos c] at e3
          refine ⟨by show 1 ≤ sizeLine; decide, fun u nu => ?_⟩
          have nu0 := Same.free sm nu
          exact q.still e3 ht0 (same_upd sm nu0) nu0 upd_same
        · rw [if_neg c] at e3
          refine ⟨by show 1 ≤ sizeLine; decide, fun u nu => ?_⟩
          have nu0 := Same.free sm nu
          exact q.still e3 ht0 (same_upd sm nu0) nu0 upd_same
/-! ### round_of -/
def spRound (C : Addr) : Sp := fun vs H Q _ => ∃ (z a r : Addr) (t : Mu28.State) (l : List Nat), vs = [.ref a, .ref r] ∧ TuAt C z H a (some t) ∧ Fit t ∧ H r = some (.lst (nvs l)) ∧ Does C z a (some t) (.round l) H Q
theorem scRo : FnScope ["self", "row", "times"] ["self", "row"] (defScope sRound) := ⟨rfl, rfl, rfl, by decide +kernel, rfl, by decide +kernel, by decide +kernel⟩
theorem ok_round {f : Addr} {fd : FuncData} {tk : Tok} (F : Fun K "round_of" "Turner.round_of" sRound f fd) (T : TTxt K C) (hm : mg "MOST_TIMES" = some (.int 100 tk)) (DC : Def P w K mg base 1 "can_be_done" ["stack", "row"] (spCan K))
    (DA : Def P w K mg base 4 "times_until_again" ["stack", "row", "sides_count", "most_times"] (spTimes K)) : FnOk P w K mg base CX0 5 f fd ["self", "row"] (spRound C) := by
  obtain ⟨fc, fdc, mc, kc, bc, Gc⟩ := DC
  obtain ⟨fa, fda, ma, ka, ba, Ga⟩ := DA
  refine F.ok scRo (fun vs H Q E h => ?_) (fun cdv A outer s H vs Q E hr h => ⟨_, pss_cons
    (ps_if (pt_not (pt_truth (pe_call Gc (hr.mono (by decide)) rfl mc kc bc .nil pass0 (pa_cons (pe_fld (pv 0) rfl) (pa_cons (pv 1) pa_nil))) (by intro _; rfl))) (pss_one (ps_ret (pe_lst (pa_cons (pe_un un_neg pe_int) pa_nil)))) pss_nil)
    (pss_cons (ps_set (i := 2) scRo.nd rfl (Or.inl rfl) (pe_call Ga hr rfl ma ka ba .nil pass0 (pa_cons (pe_fld (pv 0) rfl) (pa_cons (pv 1) (pa_cons (pe_fld (pv 0) rfl) (pa_cons (pe_glob (v := .int 100) (by rfl) hm ⟨_, rfl⟩) pa_nil))))))
    (pss_one (ps_ret (pe_ifExp (pt_cmpR op_isN (pv 2) pe_non (nomark _)) (pe_lst (pa_cons (pe_un un_neg pe_int) pa_nil)) (pe_lst (pa_cons (pv 2) pa_nil)))))), ?_⟩)
  · obtain ⟨z, a, r, t, l, rfl, _⟩ := h; rfl
  · obtain ⟨z, a, r, t, l, rfl, ht, g, hl, q⟩ := h
    have ht0 := ht
    obtain ⟨⟨zs, hz⟩, dx, v, b, n, ha, A, rfl, nA, hA, rfl, rfl⟩ := ht
    have est : Mu28.step (some t) (.round l) = (some t, if Mu28.fine t.stack.length l = false then [-1] else match Mu28.rounds t.burnt l t.stack 100 0 t.stack with
        | some n => [(n : Int)]
        | none => [-6]) := rfl
    have g8 := g.le8
    refine ⟨_, rfl, a, C, dx, _, _, rfl, ha, T.cl, T.n1, tF_stack _ _ _, _, rfl, A, r, t.stack, l, rfl, SqL.of hA, SqL.of hl, _, rfl, ?_⟩
    cases e : Mu28.fine t.stack.length l with
    | false =>
      refine ⟨_, rfl, by show 1 ≤ sizeLine; decide, fun p np => ?_⟩
      refine q.still (ans := [-1]) ?_ ht0 (same_new np) np upd_same
      rw [est, if_pos e]
    | true =>
      rw [if_neg (by rw [e]; decide)] at est
      refine ⟨_, rfl, a, C, dx, _, _, rfl, ha, T.cl, T.n1, tF_stack _ _ _, _, rfl, _, rfl, a, C, dx, _, _, rfl, ha, T.cl, T.n2, tF_sides _ _ _, A, r, t.stack, l, t.burnt, rfl, hA, SqL.of hl, by omega, fun H1 sm1 => ⟨fun n e2 => ?_, fun e2 => ?_⟩⟩
      · rw [e2] at est
        refine ⟨_, rfl, rfl, _, rfl, if_dec (fun c => by cases c) fun _ => ⟨_, rfl, by show 1 ≤ sizeLine; decide, fun u nu => ?_⟩⟩
        have nu0 := Same.free sm1 nu
        exact q.still est ht0 (same_upd sm1 nu0) nu0 upd_same
      · rw [e2] at est
        refine ⟨_, rfl, rfl, _, rfl, if_dec (fun _ => ⟨_, rfl, by show 1 ≤ sizeLine; decide, fun u nu => ?_⟩) fun c => absurd rfl c⟩
        have nu0 := Same.free sm1 nu
        exact q.still est ht0 (same_upd sm1 nu0) nu0 upd_same
/-! ### hint -/
theorem scHi : FnScope ["self", "row"] ["self"] (defScope sHint) := ⟨rfl, rfl, rfl, by decide +kernel, rfl, by decide +kernel, by decide +kernel⟩
theorem ok_hint {f : Addr} {fd : FuncData} (F : Fun K "hint" "Turner.hint" sHint f fd) (T : TTxt K C) (O : Own mg) (DF : Def P w K mg base 22 "fewest_row" ["stack", "sides_count"] spFewest) : FnOk P w K mg base CX0 23 f fd ["self"] (spM C .hint) := by
  obtain ⟨ff, fdf, mf, kf, bf, Gf⟩ := DF
  refine F.ok scHi (fun vs H Q E h => ?_) (fun cdv A outer s H vs Q E hr h => ⟨_, pss_cons (ps_set (i := 1) scHi.nd rfl (Or.inl rfl) (pe_call Gf hr rfl mf kf bf .nil pass0 (pa_cons (pe_fld (pv 0) rfl) (pa_cons (pe_fld (pv 0) rfl) pa_nil))))
    (pss_one (ps_ret (pe_ifExp (pt_cmpR (op_eqD hr.units) (pv 1) (pe_lst pa_nil) (nomark _)) (pe_lst (pa_cons pe_int pa_nil))
      (pe_lst (pa_cons (pe_ix ix_list (pv 1) pe_int (fun _ _ => rfl)) (pa_cons (pe_op op_sub (pe_callB call_len_seq (by rfl) O.len PySem.boot_len (pa_cons (pv 1) pa_nil)) pe_int) pa_nil)))))), ?_⟩)
  · obtain ⟨z, a, t, rfl, _⟩ := h; rfl
  · obtain ⟨z, a, t, rfl, ht, g, q⟩ := h
    have ht0 := ht
    obtain ⟨⟨zs, hz⟩, dx, v, b, n, ha, A, rfl, nA, hA, rfl, rfl⟩ := ht
    refine ⟨_, rfl, a, C, dx, _, _, rfl, ha, T.cl, T.n1, tF_stack _ _ _, _, rfl, a, C, dx, _, _, rfl, ha, T.cl, T.n2, tF_sides _ _ _, A, t.stack, t.burnt, rfl, hA, g.valid, g.least, g.most, fun m l L H1 p sm1 np1 hp1 => ?_⟩
    have est : Mu28.step (some t) .hint = (some t, match Mu28.fewest t.burnt t.stack with
        | some (k :: l) => [(k : Int), (l.length : Int)]
        | some [] => [0]
        | none => [-6]) := rfl
    rw [L.fewest] at est
    have hp0 := hp1
    rw [nvs_ivs] at hp1
    refine ⟨_, rfl, by decide, fun e ne => ?_⟩
    have off : ∀ c o, H1 c = some o → upd H1 e (.lst []) c = some o := same_new ne
    have sm2 : Same H (upd H1 e (.lst [])) := sm1.trans off
    refine ⟨_, _, .lst (SqL.of (off _ _ hp1)) (dp_ints _), .lst (SqL.of upd_same) .nil, shaped_ints _, rfl, ?_⟩
    have ev : PyData.eqv (.list (ids (Mu28.nums l))) (.list []) = decide (l = []) := by
      cases l with
      | nil => rfl
      | cons k l => rfl
    rw [ev]
    refine ⟨_, rfl, if_dec (fun c => ?_) fun c => ?_⟩
    · subst c
      refine ⟨by show 1 ≤ sizeLine; decide, fun u nu => ?_⟩
      have nu0 := Same.free sm2 nu
      exact q.still (ans := [0]) est ht0 (same_upd sm2 nu0) nu0 upd_same
    · cases l with
      | nil => exact absurd rfl c
      | cons k l =>
        have hp2 := off _ _ hp0
        refine ⟨_, rfl, p, _, _, .int (k : Nat), rfl, rfl, SqL.of hp2, (show atI (nvs (k :: l)) ((0 : Nat) : Int) = some (V.int (k : Nat)) from atI_nat rfl), _, rfl, p, _, rfl, .inl (SqL.of hp2), _, _, rfl, rfl, by show 2 ≤ sizeLine; decide, fun u nu => ?_⟩
        have nu0 := Same.free sm2 nu
        refine q.still (ans := [(k : Int), (l.length : Int)]) est ht0 (same_upd sm2 nu0) nu0 ?_
        rw [upd_same, List.length_map, List.length_cons]
        have e3 : (((l.length + 1 : Nat) : Int)) - 1 = (l.length : Nat) := by omega
        show some (HO.lst [V.int (k : Nat), V.int (((l.length + 1 : Nat) : Int) - 1)]) = _
        rw [e3]
        rfl
end
end Pan
namespace Pan
open PySem PySem.Spec PyProof.Rows L2
open PySem.W (Codec)
abbrev sTally : Stmt := top 46
abbrev sWorst : Stmt := top 47
abbrev tallyAns (b n : Nat) : List Int := (Mu28.step none (.tally b n)).2
abbrev worstAns (b n : Nat) : List Int := (Mu28.step none (.worst b n)).2
theorem tally_step (S : Mu28.Abs) (b n : Nat) : Mu28.step S (.tally b n) = (S, tallyAns b n) := by cases S <;> rfl
theorem worst_step_ (S : Mu28.Abs) (b n : Nat) : Mu28.step S (.worst b n) = (S, worstAns b n) := by cases S <;> rfl
theorem tallyAns_no {b n : Nat} (h : Mu28.small b n = false) : tallyAns b n = [-1] := by
  show (if Mu28.small b n = false then [-1] else Mu28.nums (Mu28.tally (b == 1) n)) = [-1]
  rw [if_pos h]
theorem tallyAns_yes {b n : Nat} (h : Mu28.small b n = true) : tallyAns b n = Mu28.nums (Mu28.tally (b == 1) n) := by
  show (if Mu28.small b n = false then [-1] else Mu28.nums (Mu28.tally (b == 1) n)) = _
  rw [if_neg (by rw [h]; decide)]
theorem worstAns_no {b n : Nat} (h : Mu28.small b n = false) : worstAns b n = [-1] := by
  show (Mu28.step none (.worst b n)).2 = _
  rw [worst_refused h]
theorem worstAns_yes {b n : Nat} (h : Mu28.small b n = true) {s : List Int} (e : ((Mu28.all (b == 1) n).find? fun s => Mu28.needs (b == 1) s == mostNeed (b == 1) n) = some s) : worstAns b n = (mostNeed (b == 1) n : Int) :: s := by
  obtain ⟨s', _, h2, h3⟩ := worst_step (o := none) h
  show (Mu28.step none (.worst b n)).2 = _
  rw [h3]
  rw [h2] at e
  cases e
  rfl
theorem tally_get {b : Bool} {n i : Nat} (hn : n ≤ few b) (hi : i ≤ mostNeed b n) {L : List (List Int)} (hL : IsLayer b n i L) : (Mu28.tally b n)[i]? = some L.length := by
  rw [tally_is, List.getElem?_map, List.getElem?_range (by omega)]
  exact congrArg some (layer_count hn hL).symm
theorem isOne (b : Nat) : decide (V.int (b : Nat) = V.int 1) = (b == 1) := by
  rw [dec_int]
  by_cases z : b = 1
  · subst z; rfl
  · rw [beq_eq_false_iff_ne.mpr z, beq_eq_false_iff_ne]
    omega
section
variable {P : Program} {w : World} {K : PySem.W.Frag} {mg : Str → Option Value} {base : Heap}
/-! ### tally -/
def spTally : Sp := fun vs H Q _ => ∃ (b n : Nat), vs = [.int (b : Nat), .int (n : Nat)] ∧ ∀ (H' : Hp) (p : Addr), Same H H' → H p = none → H' p = some (.lst (ivs (tallyAns b n))) → Q (.ref p) H'
theorem scTl : FnScope ["b", "n", "layer"] ["b", "n"] (defScope sTally) := ⟨rfl, rfl, rfl, by decide +kernel, rfl, by decide +kernel, by decide +kernel⟩
theorem ok_tally {f : Addr} {fd : FuncData} (F : Fun K "tally" "tally" sTally f fd) (O : Own mg) (DC : Def P w K mg base 1 "is_counted" ["b", "n"] spCounted) (DL : Def P w K mg base 4 "layers_of" ["n", "sides_count"] spLayers) :
    FnOk P w K mg base CX0 5 f fd ["b", "n"] spTally := by
  obtain ⟨fc, fdc, mc, kc, bc, Gc⟩ := DC
  obtain ⟨fl, fdl, ml, kl, bl, Gl⟩ := DL
  refine F.ok scTl (fun vs H Q E h => ?_) (fun cdv A outer s H vs Q E hr h => ⟨_, pss_cons
    (ps_if (pt_not (pt_truth (pe_call Gc (hr.mono (by decide)) rfl mc kc bc .nil pass0 (pa_cons (pv 0) (pa_cons (pv 1) pa_nil))) (by intro _; rfl))) (pss_one (ps_ret (pe_lst (pa_cons (pe_un un_neg pe_int) pa_nil)))) pss_nil)
    (pss_one (ps_ret (pe_lc (own := [("layer", 2)]) (g := gName 2) (tt := tYes) (by rfl) scTl.nd (pi_list (pe_call Gl hr rfl ml kl bl .nil pass0 (pa_cons (pv 1) (pa_cons (pe_cmpR op_eq (pv 0) pe_int (nomark _)) pa_nil))))
      (blkOk_by (own := [("layer", 2)]) (N := ["b", "n", "layer"]) (sc := defScope sTally) (by decide +kernel)) (fun _ _ _ _ _ => pg_name (i := 2) scTl.nd rfl (Or.inl rfl)) (fun _ _ _ _ _ => pts_nil)
      (fun _ _ _ _ _ => pe_callB (show CallR _ (.builtin "len") (fun xs H Q => ∃ (p : Addr) (ys : List V), xs = [V.ref p] ∧ (SqL K H p ys ∨ SqT K H p ys) ∧ Q (V.int (ys.length : Nat)) H) from call_len_seq) (by rfl) O.len PySem.boot_len (pa_cons (pv 2) pa_nil))))), ?_⟩)
  · obtain ⟨b, n, rfl, _⟩ := h; rfl
  · obtain ⟨b, n, rfl, q⟩ := h
    refine ⟨_, rfl, _, rfl, b, n, rfl, _, rfl, ?_⟩
    cases e : Mu28.small b n with
    | false =>
      refine ⟨_, rfl, by show 1 ≤ sizeLine; decide, fun p np => ?_⟩
      rw [tallyAns_no e] at q
      exact q _ p (same_new np) np upd_same
    | true =>
      obtain ⟨_, n1, nf⟩ := small_few e
      rw [tallyAns_yes e] at q
      refine ⟨_, rfl, _, rfl, rfl, n, (b == 1), ?_, n1, nf, fun H1 u ps sm nu hu hl hps => ?_⟩
      · rw [isOne]; rfl
      refine ⟨u, rfl, ⟨_, SqL.of hu⟩, fun D nD => ?_⟩
      have h18 := mostNeed_le nf
      refine lc_it (w := walk_list (K := K) (a := u) (xs := rvs ps)) (fun i H' => Same H1 H' ∧ H' D = some (.lst (nvs ((Mu28.tally (b == 1) n).take i)))) ?_ ?_ ?_ ?_
      · exact ⟨same_new nD, upd_same⟩
      · exact fun i H' _ h => h.1.seq (SqL.of hu)
      · rintro i x H2 H3 hi ⟨g1, g2⟩ ⟨rfl, hx⟩
        obtain ⟨c, hc, rfl⟩ := rvs_get hx
        rw [List.length_map] at hi
        obtain ⟨bs, L, z1, z2, z3⟩ := hps i c hc
        have hg := tally_get nf (by omega) z3
        refine ⟨rfl, ?_⟩
        refine ⟨_, rfl, c, _, rfl, .inl (SqL.of (g1 _ _ z1)), _, g2, ?_, same_upd g1 nD, ?_⟩
        · refine small1000 ?_
          rw [List.length_map, List.length_take]
          omega
        · rw [upd_same, List.length_map, z2.1, List.take_add_one, hg]
          exact congrArg (fun x => some (HO.lst x)) (nvs_snoc _ _)
      · rintro H2 ⟨g1, g2⟩
        rw [List.length_map, hl, ← tally_len (b == 1) n, List.take_length, nvs_ivs] at g2
        exact q H2 D (sm.trans g1) (Same.free sm nD) g2
/-! ### worst -/
def spWorst : Sp := fun vs H Q _ => ∃ (b n : Nat), vs = [.int (b : Nat), .int (n : Nat)] ∧ ∀ (H' : Hp) (p : Addr), Same H H' → H p = none → H' p = some (.lst (ivs (worstAns b n))) → Q (.ref p) H'
theorem scWo : FnScope ["b", "n", "layers"] ["b", "n"] (defScope sWorst) := ⟨rfl, rfl, rfl, by decide +kernel, rfl, by decide +kernel, by decide +kernel⟩
theorem ok_worst {f : Addr} {fd : FuncData} (F : Fun K "worst" "worst" sWorst f fd) (O : Own mg) (DC : Def P w K mg base 1 "is_counted" ["b", "n"] spCounted) (DL : Def P w K mg base 4 "layers_of" ["n", "sides_count"] spLayers) (DF : Def P w K mg base 3 "first_of" ["stacks"] spFirst) :
    FnOk P w K mg base CX0 5 f fd ["b", "n"] spWorst := by
  obtain ⟨fc, fdc, mc, kc, bc, Gc⟩ := DC
  obtain ⟨fl, fdl, ml, kl, bl, Gl⟩ := DL
  obtain ⟨ff, fdf, mf, kf, bf, Gf⟩ := DF
  refine F.ok scWo (fun vs H Q E h => ?_) (fun cdv A outer s H vs Q E hr h => ⟨_, pss_cons
    (ps_if (pt_not (pt_truth (pe_call Gc (hr.mono (by decide)) rfl mc kc bc .nil pass0 (pa_cons (pv 0) (pa_cons (pv 1) pa_nil))) (by intro _; rfl))) (pss_one (ps_ret (pe_lst (pa_cons (pe_un un_neg pe_int) pa_nil)))) pss_nil)
    (pss_cons (ps_set (i := 2) scWo.nd rfl (Or.inl rfl) (pe_call Gl hr rfl ml kl bl .nil pass0 (pa_cons (pv 1) (pa_cons (pe_cmpR op_eq (pv 0) pe_int (nomark _)) pa_nil))))
    (pss_one (ps_ret (pe_op op_cat (pe_lst (pa_cons (pe_op op_sub (pe_callB call_len_seq (by rfl) O.len PySem.boot_len (pa_cons (pv 2) pa_nil)) pe_int) pa_nil))
      (pe_call Gf (hr.mono (by decide)) rfl mf kf bf .nil pass0 (pa_cons (pe_ix ix_list (pv 2) (pe_un un_neg pe_int) (fun _ _ => rfl)) pa_nil)))))), ?_⟩)
  · obtain ⟨b, n, rfl, _⟩ := h; rfl
  · obtain ⟨b, n, rfl, q⟩ := h
    refine ⟨_, rfl, _, rfl, b, n, rfl, _, rfl, ?_⟩
    cases e : Mu28.small b n with
    | false =>
      refine ⟨_, rfl, by show 1 ≤ sizeLine; decide, fun p np => ?_⟩
      rw [worstAns_no e] at q
      exact q _ p (same_new np) np upd_same
    | true =>
      obtain ⟨_, n1, nf⟩ := small_few e
      refine ⟨_, rfl, _, rfl, rfl, n, (b == 1), ?_, n1, nf, fun H1 u ps sm nu hu hl hps => ?_⟩
      · rw [isOne]; rfl
      have h18 := mostNeed_le nf
      obtain ⟨c, hc⟩ : ∃ c, ps[mostNeed (b == 1) n]? = some c := ⟨_, List.getElem?_eq_getElem (by omega)⟩
      obtain ⟨bs, L, z1, z2, z3⟩ := hps _ c hc
      have esp : ps = ps.take (mostNeed (b == 1) n) ++ [c] := by
        have e2 := List.take_add_one (l := ps) (i := mostNeed (b == 1) n)
        rw [hc, List.take_of_length_le (by omega)] at e2
        exact e2
      have hlast : atI (rvs ps) (-1) = some (V.ref c) := by
        rw [esp]
        have : rvs (ps.take (mostNeed (b == 1) n) ++ [c]) = rvs (ps.take (mostNeed (b == 1) n)) ++ [V.ref c] := (rvs_snoc _ _).symm
        rw [this]
        exact atI_last _ _
      refine ⟨_, rfl, u, _, rfl, .inl (SqL.of hu), _, _, rfl, rfl, by show 1 ≤ sizeLine; decide, fun y ny => ?_⟩
      have off : ∀ d o, H1 d = some o → upd H1 y (.lst [V.int (((rvs ps).length : Nat) - 1)]) d = some o := same_new ny
      have zL : 0 < L.length := by
        have := (layer_some nf z3).mpr (Nat.le_refl _)
        exact List.length_pos_iff.mpr this
      have n5 := few_le5 (b == 1)
      refine ⟨_, rfl, _, rfl, u, _, _, .ref c, rfl, rfl, SqL.of (off _ _ hu), hlast, c, bs, L, rfl, off _ _ z1, z2.mono (fun d x _ z => off d _ z), zL, fun s hs => by have := ((z3.mem s).mp hs).2.1; omega, fun H2 i a s ex ea es hmin => ?_⟩
      have hsL := List.mem_of_getElem? es
      have wi := worst_is nf z3 hsL hmin
      rw [worstAns_yes e wi] at q
      have ha := ex.same _ _ (off _ _ (z2.2 i a s ea es))
      have hy := ex.same _ _ (upd_same (H := H1) (a := y) (o := .lst [V.int (((rvs ps).length : Nat) - 1)]))
      refine ⟨y, a, _, _, rfl, rfl, hy, ha, ?_, fun p np => ?_⟩
      · refine Nat.le_of_lt (line_of ?_)
        have := ((z3.mem s).mp hsL).2.1
        show 1 + (ivs s).length ≤ 100000
        rw [List.length_map]
        omega
      · have sm2 : Same H H2 := (sm.trans off).trans ex.same
        have np0 := Same.free sm2 np
        refine q _ p (same_upd sm2 np0) np0 ?_
        rw [upd_same, List.length_map, hl]
        have e3 : ((mostNeed (b == 1) n + 1 : Nat) : Int) - 1 = (mostNeed (b == 1) n : Nat) := by omega
        rw [e3]
        rfl
end
end Pan
namespace Pan
open PySem PySem.Spec PyProof.Rows L2
open PySem.W (Codec)
abbrev sOfStack : Stmt := top 49
theorem if_no {x y : Int} (h : x ≠ y) {A B : Prop} (b : B) : if decide (V.int x = V.int y) = true then A else B := by
  rw [if_neg (by rw [decide_eq_false fun z => h (int_eq z)]; exact Bool.false_ne_true)]
  exact b
theorem if_yes {x : Int} {A B : Prop} (a : A) : if decide (V.int x = V.int x) = true then A else B := by
  rw [if_pos (decide_eq_true rfl)]
  exact a
theorem CallAt.zero {H : Hp} {q : Addr} {ns : List Int} (h : CallAt H q ns []) : H q = some (.lst (ivs ns)) := by
  obtain ⟨as, e, r⟩ := h
  have : as = [] := List.length_eq_zero_iff.mp r.1
  rw [this] at e
  rw [e]
  exact congrArg (fun x => some (HO.lst x)) (List.append_nil _)
theorem CallAt.one {H : Hp} {q : Addr} {ns : List Int} {x : List Int} (h : CallAt H q ns [x]) : ∃ A, H q = some (.lst (ivs ns ++ [.ref A])) ∧ H A = some (.lst (ivs x)) := by
  obtain ⟨as, e, r⟩ := h
  cases as with
  | nil => cases r.1
  | cons A as =>
    cases as with
    | nil => exact ⟨A, e, r.2 0 A x rfl rfl⟩
    | cons _ _ => cases r.1
theorem CallAt.two {H : Hp} {q : Addr} {ns : List Int} {x y : List Int} (h : CallAt H q ns [x, y]) : ∃ A B, H q = some (.lst (ivs ns ++ [.ref A, .ref B])) ∧ H A = some (.lst (ivs x)) ∧ H B = some (.lst (ivs y)) := by
  obtain ⟨as, e, r⟩ := h
  cases as with
  | nil => cases r.1
  | cons A as =>
    cases as with
    | nil => cases r.1
    | cons B as =>
      cases as with
      | nil => exact ⟨A, B, e, r.2 0 A x rfl rfl, r.2 1 B y rfl rfl⟩
      | cons _ _ => cases r.1
/-- a method of the class that keeps a promise -/
def MDef (P : Program) (w : World) (K : PySem.W.Frag) (mg : Str → Option Value) (base : Heap) (C : Addr) (k : Nat) (m : Str) (ps : List Str) (sp : Sp) : Prop := ∃ (f : Addr) (fd : FuncData), FnOk P w K mg base CX0 k f fd ps sp ∧ Binds K fd ps [] ∧ Meth K C m f
/-- the calls by their numbers -/
structure NumsAre (mg : Str → Option Value) : Prop where
  n0 : ∃ t, mg "BEGIN" = some (.int 0 t)
  n1 : ∃ t, mg "FLIP" = some (.int 1 t)
  n2 : ∃ t, mg "LOOK" = some (.int 2 t)
  n3 : ∃ t, mg "GAPS" = some (.int 3 t)
  n4 : ∃ t, mg "FEWEST" = some (.int 4 t)
  n5 : ∃ t, mg "USUAL" = some (.int 5 t)
  n6 : ∃ t, mg "TRY_ROW" = some (.int 6 t)
  n7 : ∃ t, mg "SAME" = some (.int 7 t)
  n8 : ∃ t, mg "ROUND_OF" = some (.int 8 t)
  n9 : ∃ t, mg "TALLY" = some (.int 9 t)
  n10 : ∃ t, mg "WORST" = some (.int 10 t)
/-- neither begin nor tally nor worst -/
def Plain : Mu28.Call → Prop
  | .begin_ _ _ => False
  | .tally _ _ => False
  | .worst _ _ => False
  | _ => True
section
variable {P : Program} {w : World} {K : PySem.W.Frag} {mg : Str → Option Value} {base : Heap} {C : Addr}
def spOfStack (C : Addr) : Sp := fun vs H Q _ => ∃ (z a q : Addr) (t : Mu28.State) (ns : List Int) (rs : List (List Int)) (x : Mu28.Call), vs = [.ref a, .ref q] ∧ TuAt C z H a (some t) ∧ Fit t ∧ CallAt H q ns rs ∧ Form (ns :: rs) x ∧ Plain x ∧ Does C z a (some t) x H Q
theorem scOs : FnScope ["turner", "call", "number"] ["turner", "call"] (defScope sOfStack) := ⟨rfl, rfl, rfl, by decide +kernel, rfl, by decide +kernel, by decide +kernel⟩
theorem ok_ofStack {f : Addr} {fd : FuncData} (F : Fun K "answer_of_stack" "answer_of_stack" sOfStack f fd) (T : TTxt K C) (N : NumsAre mg) (D1 : MDef P w K mg base C 4 "flip" ["self", "k"] (spFlip C)) (D2 : MDef P w K mg base C 1 "look" ["self"] (spM C .look))
    (D3 : MDef P w K mg base C 3 "gaps" ["self"] (spM C .gaps)) (D4 : MDef P w K mg base C 23 "fewest" ["self"] (spM C .fewest)) (D5 : MDef P w K mg base C 5 "usual" ["self"] (spM C .usual)) (D6 : MDef P w K mg base C 4 "try_row" ["self", "row"] (spTry C))
    (D7 : MDef P w K mg base C 4 "same" ["self", "one", "other"] (spSame C)) (D8 : MDef P w K mg base C 5 "round_of" ["self", "row"] (spRound C)) (D9 : MDef P w K mg base C 23 "hint" ["self"] (spM C .hint)) :
    FnOk P w K mg base CX0 24 f fd ["turner", "call"] (spOfStack C) := by
  obtain ⟨t1, n1⟩ := N.n1
  obtain ⟨t2, n2⟩ := N.n2
  obtain ⟨t3, n3⟩ := N.n3
  obtain ⟨t4, n4⟩ := N.n4
  obtain ⟨t5, n5⟩ := N.n5
  obtain ⟨t6, n6⟩ := N.n6
  obtain ⟨t7, n7⟩ := N.n7
  obtain ⟨t8, n8⟩ := N.n8
  obtain ⟨f1, d1, G1, b1, m1⟩ := D1
  obtain ⟨f2, d2, G2, b2, m2⟩ := D2
  obtain ⟨f3, d3, G3, b3, m3⟩ := D3
  obtain ⟨f4, d4, G4, b4, m4⟩ := D4
  obtain ⟨f5, d5, G5, b5, m5⟩ := D5
  obtain ⟨f6, d6, G6, b6, m6⟩ := D6
  obtain ⟨f7, d7, G7, b7, m7⟩ := D7
  obtain ⟨f8, d8, G8, b8, m8⟩ := D8
  obtain ⟨f9, d9, G9, b9, m9⟩ := D9
  refine F.ok scOs (fun vs H Q E h => ?_) (fun cdv A outer s H vs Q E hr h => ⟨_, pss_cons (ps_set (i := 2) scOs.nd rfl (Or.inl rfl) (pe_ix ix_list (pv 1) pe_int (fun _ _ => rfl)))
    (pss_cons (ps_if (pt_cmpR op_eq (pv 2) (pe_glob (v := .int 1) (by rfl) n1 ⟨_, rfl⟩) (nomark _)) (pss_one (ps_ret (pe_meth (pv 0) T.cl m1 G1 (hr.mono (by decide)) b1 .nil pass0 (pa_cons (pe_ix ix_list (pv 1) pe_int (fun _ _ => rfl)) pa_nil)))) pss_nil)
    (pss_cons (ps_if (pt_cmpR op_eq (pv 2) (pe_glob (v := .int 2) (by rfl) n2 ⟨_, rfl⟩) (nomark _)) (pss_one (ps_ret (pe_meth0 (pv 0) T.cl m2 G2 (hr.mono (by decide)) b2 .nil pass0))) pss_nil)
    (pss_cons (ps_if (pt_cmpR op_eq (pv 2) (pe_glob (v := .int 3) (by rfl) n3 ⟨_, rfl⟩) (nomark _)) (pss_one (ps_ret (pe_meth0 (pv 0) T.cl m3 G3 (hr.mono (by decide)) b3 .nil pass0))) pss_nil)
    (pss_cons (ps_if (pt_cmpR op_eq (pv 2) (pe_glob (v := .int 4) (by rfl) n4 ⟨_, rfl⟩) (nomark _)) (pss_one (ps_ret (pe_meth0 (pv 0) T.cl m4 G4 (hr.mono (by decide)) b4 .nil pass0))) pss_nil)
    (pss_cons (ps_if (pt_cmpR op_eq (pv 2) (pe_glob (v := .int 5) (by rfl) n5 ⟨_, rfl⟩) (nomark _)) (pss_one (ps_ret (pe_meth0 (pv 0) T.cl m5 G5 (hr.mono (by decide)) b5 .nil pass0))) pss_nil)
    (pss_cons (ps_if (pt_cmpR op_eq (pv 2) (pe_glob (v := .int 6) (by rfl) n6 ⟨_, rfl⟩) (nomark _)) (pss_one (ps_ret (pe_meth (pv 0) T.cl m6 G6 (hr.mono (by decide)) b6 .nil pass0 (pa_cons (pe_ix ix_list (pv 1) pe_int (fun _ _ => rfl)) pa_nil)))) pss_nil)
    (pss_cons (ps_if (pt_cmpR op_eq (pv 2) (pe_glob (v := .int 7) (by rfl) n7 ⟨_, rfl⟩) (nomark _)) (pss_one (ps_ret (pe_meth (pv 0) T.cl m7 G7 (hr.mono (by decide)) b7 .nil pass0 (pa_cons (pe_ix ix_list (pv 1) pe_int (fun _ _ => rfl)) (pa_cons (pe_ix ix_list (pv 1) pe_int (fun _ _ => rfl)) pa_nil))))) pss_nil)
    (pss_cons (ps_if (pt_cmpR op_eq (pv 2) (pe_glob (v := .int 8) (by rfl) n8 ⟨_, rfl⟩) (nomark _)) (pss_one (ps_ret (pe_meth (pv 0) T.cl m8 G8 (hr.mono (by decide)) b8 .nil pass0 (pa_cons (pe_ix ix_list (pv 1) pe_int (fun _ _ => rfl)) pa_nil)))) pss_nil)
    (pss_one (ps_ret (pe_meth0 (pv 0) T.cl m9 G9 (hr.mono (by decide)) b9 .nil pass0))))))))))), ?_⟩)
  · obtain ⟨z, a, q, t, ns, rs, x, rfl, _⟩ := h; rfl
  · obtain ⟨z, a, q, t, ns, rs, x, rfl, ht, g, hc, fx, px, d⟩ := h
    have ht0 := ht
    obtain ⟨⟨zs, hz⟩, dx, v, b, n, ha, _⟩ := ht
    have no : ∀ {m : Str}, (m == ("stack" : Str)) = false → (m == ("sides_count" : Str)) = false → (m == ("turns" : Str)) = false → (tF v b n).lookup m = none := fun h1 h2 h3 => tF_none v b n h1 h2 h3
    cases fx with
    | begin_ b l => exact False.elim px
    | tally b n => exact False.elim px
    | worst b n => exact False.elim px
    | flip k _ =>
      have hq := hc.zero
      exact ⟨_, rfl, q, _, _, .int 1, rfl, rfl, SqL.of hq, (show atI _ ((0 : Nat) : Int) = _ from atI_nat rfl), ⟨_, rfl, rfl, _, rfl, if_yes ⟨_, rfl, a, dx, _, rfl, ha, (no (by decide +kernel) (by decide +kernel) (by decide +kernel)), _, rfl, q, _, _, .int (k : Nat), rfl, rfl, SqL.of hq, (show atI _ ((1 : Nat) : Int) = _ from atI_nat rfl), z, a, t, k, rfl, ht0, g, d⟩⟩⟩
    | look =>
      have hq := hc.zero
      exact ⟨_, rfl, q, _, _, .int 2, rfl, rfl, SqL.of hq, (show atI _ ((0 : Nat) : Int) = _ from atI_nat rfl), ⟨_, rfl, rfl, _, rfl, if_no (by decide) ⟨_, rfl, rfl, _, rfl, if_yes ⟨_, rfl, a, dx, _, rfl, ha, (no (by decide +kernel) (by decide +kernel) (by decide +kernel)), z, a, t, rfl, ht0, g, d⟩⟩⟩⟩
    | gaps =>
      have hq := hc.zero
      exact ⟨_, rfl, q, _, _, .int 3, rfl, rfl, SqL.of hq, (show atI _ ((0 : Nat) : Int) = _ from atI_nat rfl), ⟨_, rfl, rfl, _, rfl, if_no (by decide) ⟨_, rfl, rfl, _, rfl, if_no (by decide) ⟨_, rfl, rfl, _, rfl, if_yes ⟨_, rfl, a, dx, _, rfl, ha, (no (by decide +kernel) (by decide +kernel) (by decide +kernel)), z, a, t, rfl, ht0, g, d⟩⟩⟩⟩⟩
    | fewest =>
      have hq := hc.zero
      exact ⟨_, rfl, q, _, _, .int 4, rfl, rfl, SqL.of hq, (show atI _ ((0 : Nat) : Int) = _ from atI_nat rfl), ⟨_, rfl, rfl, _, rfl, if_no (by decide) ⟨_, rfl, rfl, _, rfl, if_no (by decide) ⟨_, rfl, rfl, _, rfl, if_no (by decide) ⟨_, rfl, rfl, _, rfl, if_yes ⟨_, rfl, a, dx, _, rfl, ha, (no (by decide +kernel) (by decide +kernel) (by decide +kernel)), z, a, t, rfl, ht0, g, d⟩⟩⟩⟩⟩⟩
    | usual =>
      have hq := hc.zero
      exact ⟨_, rfl, q, _, _, .int 5, rfl, rfl, SqL.of hq, (show atI _ ((0 : Nat) : Int) = _ from atI_nat rfl), ⟨_, rfl, rfl, _, rfl, if_no (by decide) ⟨_, rfl, rfl, _, rfl, if_no (by decide) ⟨_, rfl, rfl, _, rfl, if_no (by decide) ⟨_, rfl, rfl, _, rfl, if_no (by decide) ⟨_, rfl, rfl, _, rfl, if_yes ⟨_, rfl, a, dx, _, rfl, ha, (no (by decide +kernel) (by decide +kernel) (by decide +kernel)), z, a, t, rfl, ht0, g, d⟩⟩⟩⟩⟩⟩⟩
    | try_ l hl hk =>
      obtain ⟨A, hq, hA⟩ := hc.one
      rw [ivs_nums] at hA
      exact ⟨_, rfl, q, _, _, .int 6, rfl, rfl, SqL.of hq, (show atI _ ((0 : Nat) : Int) = _ from atI_nat rfl), ⟨_, rfl, rfl, _, rfl, if_no (by decide) ⟨_, rfl, rfl, _, rfl, if_no (by decide) ⟨_, rfl, rfl, _, rfl, if_no (by decide) ⟨_, rfl, rfl, _, rfl, if_no (by decide) ⟨_, rfl, rfl, _, rfl, if_no (by decide) ⟨_, rfl, rfl, _, rfl, if_yes ⟨_, rfl, a, dx, _, rfl, ha, (no (by decide +kernel) (by decide +kernel) (by decide +kernel)), _, rfl, q, _, _, .ref A, rfl, rfl, SqL.of hq, (show atI _ ((1 : Nat) : Int) = _ from atI_nat rfl), z, a, A, t, l, rfl, ht0, g, hA, d⟩⟩⟩⟩⟩⟩⟩⟩
    | same l m hl hk hm hj =>
      obtain ⟨A, B, hq, hA, hB⟩ := hc.two
      rw [ivs_nums] at hA hB
      exact ⟨_, rfl, q, _, _, .int 7, rfl, rfl, SqL.of hq, (show atI _ ((0 : Nat) : Int) = _ from atI_nat rfl), ⟨_, rfl, rfl, _, rfl, if_no (by decide) ⟨_, rfl, rfl, _, rfl, if_no (by decide) ⟨_, rfl, rfl, _, rfl, if_no (by decide) ⟨_, rfl, rfl, _, rfl, if_no (by decide) ⟨_, rfl, rfl, _, rfl, if_no (by decide) ⟨_, rfl, rfl, _, rfl, if_no (by decide) ⟨_, rfl, rfl, _, rfl, if_yes ⟨_, rfl, a, dx, _, rfl, ha, (no (by decide +kernel) (by decide +kernel) (by decide +kernel)), _, rfl, q, _, _, .ref A, rfl, rfl, SqL.of hq, (show atI _ ((1 : Nat) : Int) = _ from atI_nat rfl), _, rfl, q, _, _, .ref B, rfl, rfl, SqL.of hq, (show atI _ ((2 : Nat) : Int) = _ from atI_nat rfl), z, a, A, B, t, l, m, rfl, ht0, g, hA, hB, d⟩⟩⟩⟩⟩⟩⟩⟩⟩
    | round l hl hk =>
      obtain ⟨A, hq, hA⟩ := hc.one
      rw [ivs_nums] at hA
      exact ⟨_, rfl, q, _, _, .int 8, rfl, rfl, SqL.of hq, (show atI _ ((0 : Nat) : Int) = _ from atI_nat rfl), ⟨_, rfl, rfl, _, rfl, if_no (by decide) ⟨_, rfl, rfl, _, rfl, if_no (by decide) ⟨_, rfl, rfl, _, rfl, if_no (by decide) ⟨_, rfl, rfl, _, rfl, if_no (by decide) ⟨_, rfl, rfl, _, rfl, if_no (by decide) ⟨_, rfl, rfl, _, rfl, if_no (by decide) ⟨_, rfl, rfl, _, rfl, if_no (by decide) ⟨_, rfl, rfl, _, rfl, if_yes ⟨_, rfl, a, dx, _, rfl, ha, (no (by decide +kernel) (by decide +kernel) (by decide +kernel)), _, rfl, q, _, _, .ref A, rfl, rfl, SqL.of hq, (show atI _ ((1 : Nat) : Int) = _ from atI_nat rfl), z, a, A, t, l, rfl, ht0, g, hA, d⟩⟩⟩⟩⟩⟩⟩⟩⟩⟩
    | hint =>
      have hq := hc.zero
      exact ⟨_, rfl, q, _, _, .int 11, rfl, rfl, SqL.of hq, (show atI _ ((0 : Nat) : Int) = _ from atI_nat rfl), ⟨_, rfl, rfl, _, rfl, if_no (by decide) ⟨_, rfl, rfl, _, rfl, if_no (by decide) ⟨_, rfl, rfl, _, rfl, if_no (by decide) ⟨_, rfl, rfl, _, rfl, if_no (by decide) ⟨_, rfl, rfl, _, rfl, if_no (by decide) ⟨_, rfl, rfl, _, rfl, if_no (by decide) ⟨_, rfl, rfl, _, rfl, if_no (by decide) ⟨_, rfl, rfl, _, rfl, if_no (by decide) ⟨_, rfl, a, dx, _, rfl, ha, (no (by decide +kernel) (by decide +kernel) (by decide +kernel)), z, a, t, rfl, ht0, g, d⟩⟩⟩⟩⟩⟩⟩⟩⟩⟩
end
end Pan
namespace Pan
open PySem PySem.Spec PyProof.Rows L2
open PySem.W (Codec)
theorem form_num {ns : List Int} {rs : List (List Int)} {x : Mu28.Call} (f : Form (ns :: rs) x) (p : Plain x) : ∃ k r, ns = k :: r ∧ k ≠ 0 ∧ k ≠ 9 ∧ k ≠ 10 := by
  cases f with
  | begin_ b l => exact False.elim p
  | tally b n => exact False.elim p
  | worst b n => exact False.elim p
  | flip k _ => exact ⟨_, _, rfl, by decide, by decide, by decide⟩
  | look => exact ⟨_, _, rfl, by decide, by decide, by decide⟩
  | gaps => exact ⟨_, _, rfl, by decide, by decide, by decide⟩
  | fewest => exact ⟨_, _, rfl, by decide, by decide, by decide⟩
  | usual => exact ⟨_, _, rfl, by decide, by decide, by decide⟩
  | try_ l _ _ => exact ⟨_, _, rfl, by decide, by decide, by decide⟩
  | same l m _ _ _ _ => exact ⟨_, _, rfl, by decide, by decide, by decide⟩
  | round l _ _ => exact ⟨_, _, rfl, by decide, by decide, by decide⟩
  | hint => exact ⟨_, _, rfl, by decide, by decide, by decide⟩
theorem plain_none {x : Mu28.Call} (p : Plain x) : Mu28.step none x = (none, [-9]) := by
  cases x <;> first | rfl | exact False.elim p
section
variable {P : Program} {w : World} {K : PySem.W.Frag} {mg : Str → Option Value} {base : Heap} {C : Addr}
theorem scAc : FnScope ["turner", "call", "number"] ["turner", "call"] (defScope sAnswer) := ⟨rfl, rfl, rfl, by decide +kernel, rfl, by decide +kernel, by decide +kernel⟩
theorem ok_answer {f : Addr} {fd : FuncData} (F : Fun K "answer_call" "answer_call" sAnswer f fd) (T : TTxt K C) (N : NumsAre mg) (D0 : MDef P w K mg base C 2 "begin" ["self", "b", "stack"] (spBegin C)) (DT : Def P w K mg base 5 "tally" ["b", "n"] spTally)
    (DW : Def P w K mg base 5 "worst" ["b", "n"] spWorst) (DO : Def P w K mg base 24 "answer_of_stack" ["turner", "call"] (spOfStack C)) : FnOk P w K mg base CX0 25 f fd ["turner", "call"] (spAnswer C) := by
  obtain ⟨t0, n0⟩ := N.n0
  obtain ⟨t9, n9⟩ := N.n9
  obtain ⟨t10, n10⟩ := N.n10
  obtain ⟨f0, d0, G0, b0, m0⟩ := D0
  obtain ⟨ft, fdt, mt, kt, bt, Gt⟩ := DT
  obtain ⟨fw, fdw, mw, kw, bw, Gw⟩ := DW
  obtain ⟨fo, fdo, mo, ko, bo, Go⟩ := DO
  refine F.ok scAc (fun vs H Q E h => ?_) (fun cdv A outer s H vs Q E hr h => ⟨_, pss_cons (ps_set (i := 2) scAc.nd rfl (Or.inl rfl) (pe_ix ix_list (pv 1) pe_int (fun _ _ => rfl)))
    (pss_cons (ps_if (pt_cmpR op_eq (pv 2) (pe_glob (v := .int 0) (by rfl) n0 ⟨_, rfl⟩) (nomark _)) (pss_one (ps_ret (pe_meth (pv 0) T.cl m0 G0 (hr.mono (by decide)) b0 .nil pass0 (pa_cons (pe_ix ix_list (pv 1) pe_int (fun _ _ => rfl)) (pa_cons (pe_ix ix_list (pv 1) pe_int (fun _ _ => rfl)) pa_nil))))) pss_nil)
    (pss_cons (ps_if (pt_cmpR op_eq (pv 2) (pe_glob (v := .int 9) (by rfl) n9 ⟨_, rfl⟩) (nomark _)) (pss_one (ps_ret (pe_call Gt (hr.mono (by decide)) rfl mt kt bt .nil pass0 (pa_cons (pe_ix ix_list (pv 1) pe_int (fun _ _ => rfl)) (pa_cons (pe_ix ix_list (pv 1) pe_int (fun _ _ => rfl)) pa_nil))))) pss_nil)
    (pss_cons (ps_if (pt_cmpR op_eq (pv 2) (pe_glob (v := .int 10) (by rfl) n10 ⟨_, rfl⟩) (nomark _)) (pss_one (ps_ret (pe_call Gw (hr.mono (by decide)) rfl mw kw bw .nil pass0 (pa_cons (pe_ix ix_list (pv 1) pe_int (fun _ _ => rfl)) (pa_cons (pe_ix ix_list (pv 1) pe_int (fun _ _ => rfl)) pa_nil))))) pss_nil)
    (pss_cons (ps_if (pt_cmpR op_isN (pe_fld (pv 0) rfl) pe_non (nomark _)) (pss_one (ps_ret (pe_lst (pa_cons (pe_un un_neg pe_int) pa_nil)))) pss_nil)
    (pss_one (ps_ret (pe_call Go hr rfl mo ko bo .nil pass0 (pa_cons (pv 0) (pa_cons (pv 1) pa_nil))))))))), ?_⟩)
  · obtain ⟨z, a, q, S, ns, rs, x, rfl, _⟩ := h; rfl
  · obtain ⟨z, a, q, S, ns, rs, x, rfl, ht, g, hc, fx, d⟩ := h
    have ht0 := ht
    obtain ⟨⟨zs, hz⟩, dx, v, b, n, ha, hS⟩ := ht
    have no : ∀ {m : Str}, (m == ("stack" : Str)) = false → (m == ("sides_count" : Str)) = false → (m == ("turns" : Str)) = false → (tF v b n).lookup m = none := fun h1 h2 h3 => tF_none v b n h1 h2 h3
    by_cases px : Plain x
    · obtain ⟨k, r, rfl, k0, k9, k10⟩ := form_num fx px
      obtain ⟨as, hq, _⟩ := id hc
      refine ⟨_, rfl, q, _, _, .int k, rfl, rfl, SqL.of hq, (show atI _ ((0 : Nat) : Int) = _ from atI_nat rfl), ⟨_, rfl, rfl, _, rfl, if_no k0 ⟨_, rfl, rfl, _, rfl, if_no k9 ⟨_, rfl, rfl, _, rfl, if_no k10 ?_⟩⟩⟩⟩
      refine ⟨_, rfl, a, C, dx, _, _, rfl, ha, T.cl, T.n1, tF_stack _ _ _, ?_⟩
      cases S with
      | none =>
        have hS : v = .non := hS
        subst hS
        refine ⟨rfl, _, rfl, if_dec (fun _ => ⟨_, rfl, by show 1 ≤ sizeLine; decide, fun p np => ?_⟩) fun c => absurd rfl c⟩
        exact d.still (plain_none px) ht0 (same_new np) np upd_same
      | some t =>
        obtain ⟨A, rfl, _⟩ := hS
        exact ⟨rfl, _, rfl, if_dec (fun c => by cases c) fun _ => ⟨_, rfl, _, rfl, z, a, q, t, _, rs, x, rfl, ht0, g, hc, fx, px, d⟩⟩
    · cases fx with
      | flip k _ => exact absurd trivial px
      | look => exact absurd trivial px
      | gaps => exact absurd trivial px
      | fewest => exact absurd trivial px
      | usual => exact absurd trivial px
      | try_ l _ _ => exact absurd trivial px
      | same l m _ _ _ _ => exact absurd trivial px
      | round l _ _ => exact absurd trivial px
      | hint => exact absurd trivial px
      | begin_ b l _ hl _ =>
        obtain ⟨L, hq, hL⟩ := hc.one
        exact ⟨_, rfl, q, _, _, .int 0, rfl, rfl, SqL.of hq, (show atI _ ((0 : Nat) : Int) = _ from atI_nat rfl), ⟨_, rfl, rfl, _, rfl, if_yes ⟨_, rfl, a, dx, _, rfl, ha, (no (by decide +kernel) (by decide +kernel) (by decide +kernel)),
          _, rfl, q, _, _, .int (b : Nat), rfl, rfl, SqL.of hq, (show atI _ ((1 : Nat) : Int) = _ from atI_nat rfl), _, rfl, q, _, _, .ref L, rfl, rfl, SqL.of hq, (show atI _ ((2 : Nat) : Int) = _ from atI_nat rfl), z, a, L, b, l, S, rfl, ht0, hL, by omega, d⟩⟩⟩
      | tally b n =>
        have hq := hc.zero
        exact ⟨_, rfl, q, _, _, .int 9, rfl, rfl, SqL.of hq, (show atI _ ((0 : Nat) : Int) = _ from atI_nat rfl), ⟨_, rfl, rfl, _, rfl, if_no (by decide) ⟨_, rfl, rfl, _, rfl, if_yes ⟨_, rfl, q, _, _, .int (b : Nat), rfl, rfl, SqL.of hq, (show atI _ ((1 : Nat) : Int) = _ from atI_nat rfl),
          _, rfl, q, _, _, .int (n : Nat), rfl, rfl, SqL.of hq, (show atI _ ((2 : Nat) : Int) = _ from atI_nat rfl), b, n, rfl, fun H' p sm np hp => d.still (tally_step S b n) ht0 sm np hp⟩⟩⟩⟩
      | worst b n =>
        have hq := hc.zero
        exact ⟨_, rfl, q, _, _, .int 10, rfl, rfl, SqL.of hq, (show atI _ ((0 : Nat) : Int) = _ from atI_nat rfl), ⟨_, rfl, rfl, _, rfl, if_no (by decide) ⟨_, rfl, rfl, _, rfl, if_no (by decide) ⟨_, rfl, rfl, _, rfl, if_yes ⟨_, rfl, q, _, _, .int (b : Nat), rfl, rfl, SqL.of hq, (show atI _ ((1 : Nat) : Int) = _ from atI_nat rfl),
          _, rfl, q, _, _, .int (n : Nat), rfl, rfl, SqL.of hq, (show atI _ ((2 : Nat) : Int) = _ from atI_nat rfl), b, n, rfl, fun H' p sm np hp => d.still (worst_step_ S b n) ht0 sm np hp⟩⟩⟩⟩⟩
end
end Pan
namespace Pan
open PySem PySem.Spec PyProof.Rows L2
open PySem.W (Codec)
/-! ### SHAPES, as the top has written it -/
def seqOf (K : PySem.W.Frag) (v : Value) : Option (List Value) := match v with
  | .ref a => match K.lookup a with
    | some o => match o.cls, o.data with
      | .type "tuple", .seq its _ => some its.toList
      | _, _ => none
    | none => none
  | _ => none
def intOf : Value → Option Int
  | .int i _ => some i
  | _ => none
def pairOf (K : PySem.W.Frag) (v : Value) : Option (List (Option Int)) := (seqOf K v).map fun l => l.map intOf
def pairs : List (Option (List (Option Int))) := [some [some 1, some 1], some [some 1, some 0], some [some 0, some 0], some [some 0, some 0], some [some 0, some 0], some [some 0, some 0],
  some [some 0, some 1], some [some 0, some 2], some [some 0, some 1], some [some 2, some 0], some [some 2, some 0], some [some 0, some 0]]
def shapesAre (K : PySem.W.Frag) (S : Addr) : Bool := match seqOf K (.ref S) with
  | some l => decide (l.map (pairOf K) = pairs)
  | none => false
theorem seqOf_ref {K : PySem.W.Frag} {v : Value} {l : List Value} (h : seqOf K v = some l) : ∃ a o its n, v = .ref a ∧ K.lookup a = some o ∧ o.cls = .type "tuple" ∧ o.data = .seq its n ∧ its.toList = l := by
  unfold seqOf at h
  split at h
  · rename_i a
    split at h
    · rename_i o ho
      split at h
      · rename_i its n hc hd
        cases h
        exact ⟨a, o, its, n, rfl, ho, hc, hd, rfl⟩
      · cases h
    · cases h
  · cases h
theorem seqOf_sq {K : PySem.W.Frag} {a : Addr} {l : List Value} {xs : List V} (h : seqOf K (.ref a) = some l) (hl : l.length ≤ 100) (r : Vals xs l) (H : Hp) : SqT K H a xs := by
  obtain ⟨a', o, its, n, e, ho, hc, hd, hi⟩ := seqOf_ref h
  cases e
  refine .inr ⟨o, its, n, ho, hc, hd, ?_, by rw [hi]; exact r⟩
  rw [← Array.length_toList, hi]
  exact Nat.le_of_lt (line_of (by omega))
theorem shapes_of {K : PySem.W.Frag} {mg : Str → Option Value} {S : Addr} (hm : mg "SHAPES" = some (.ref S)) (h : shapesAre K S = true) : Shapes K mg PyMu28.shape := by
  unfold shapesAre at h
  split at h
  · rename_i l hl
    replace h : l.map (pairOf K) = pairs := of_decide_eq_true h
    have len : l.length = 12 := by
      have := congrArg List.length h
      rw [List.length_map] at this
      exact this
    have refs : ∀ v ∈ l, ∃ a, v = Value.ref a := fun v hv => by
      have m : pairOf K v ∈ pairs := by rw [← h]; exact List.mem_map_of_mem hv
      cases e : seqOf K v with
      | none =>
        unfold pairOf at m
        rw [e] at m
        exact absurd m (by decide)
      | some u =>
        obtain ⟨a, _, _, _, e, _⟩ := seqOf_ref e
        exact ⟨a, e⟩
    obtain ⟨ks, hk⟩ : ∃ ks : List Addr, l = ks.map Value.ref := by
      clear h len hl
      induction l with
      | nil => exact ⟨[], rfl⟩
      | cons v l ih =>
        obtain ⟨a, rfl⟩ := refs v List.mem_cons_self
        obtain ⟨ks, rfl⟩ := ih fun u hu => refs u (List.mem_cons_of_mem _ hu)
        exact ⟨a :: ks, rfl⟩
    have vals : ∀ ks : List Addr, Vals (rvs ks) (ks.map Value.ref) := fun ks => by
      induction ks with
      | nil => exact .nil
      | cons a ks ih => exact .cons rfl ih
    refine ⟨S, ks, hm, fun H => seqOf_sq hl (by omega) (by rw [hk]; exact vals ks) H, ?_⟩
    have at_ : ∀ (j n k : Nat), pairs[j]? = some (some [some (n : Int), some (k : Int)]) → ∃ a, ks[j]? = some a ∧ ∀ H, SqT K H a [.int (n : Nat), .int (k : Nat)] := by
      intro j n k e
      rw [← h, List.getElem?_map] at e
      cases ev : l[j]? with
      | none => rw [ev] at e; cases e
      | some v =>
        rw [ev] at e
        have e : pairOf K v = some [some (n : Int), some (k : Int)] := Option.some.inj e
        rw [hk, List.getElem?_map] at ev
        cases ea : ks[j]? with
        | none => rw [ea] at ev; cases ev
        | some a =>
          rw [ea] at ev
          have ev : Value.ref a = v := Option.some.inj ev
          subst ev
          refine ⟨a, rfl, fun H => ?_⟩
          unfold pairOf at e
          cases eu : seqOf K (.ref a) with
          | none => rw [eu] at e; cases e
          | some u =>
            rw [eu] at e
            have e : u.map intOf = [some (n : Int), some (k : Int)] := Option.some.inj e
            have len2 : u.length = 2 := by
              have := congrArg List.length e
              rw [List.length_map] at this
              exact this
            cases u with
            | nil => cases len2
            | cons x u =>
              cases u with
              | nil => cases len2
              | cons y u =>
                cases u with
                | cons _ _ => cases len2
                | nil =>
                  have one : ∀ (x : Value) (i : Int), intOf x = some i → RelV (.int i) x := fun x i q => by
                    unfold intOf at q
                    split at q
                    · cases q; exact ⟨_, rfl⟩
                    · cases q
                  have e : [intOf x, intOf y] = [some (n : Int), some (k : Int)] := e
                  injection e with e1 e2
                  injection e2 with e2
                  exact seqOf_sq eu (by show 2 ≤ 100; decide) (.cons (one _ _ e1) (.cons (one _ _ e2) .nil)) H
    intro P n k hs
    have fin : ∀ j n' k' : Nat, P = (j : Int) → n' ≤ 9 → k' ≤ 9 → pairs[j]? = some (some [some (n' : Int), some (k' : Int)]) → some (n', k') = some (n, k) → n ≤ 9 ∧ k ≤ 9 ∧ ∃ (j : Nat) (a : Addr), P = (j : Int) ∧ ks[j]? = some a ∧ ∀ H, SqT K H a [.int (n : Nat), .int (k : Nat)] := by
      intro j n' k' p1 p2 p3 p4 p5
      cases p5
      obtain ⟨a, h1, h2⟩ := at_ j n k p4
      exact ⟨p2, p3, j, a, p1, h1, h2⟩
    unfold PyMu28.shape at hs
    by_cases c0 : P = 0
    · rw [if_pos c0] at hs; exact fin 0 1 1 c0 (by decide) (by decide) rfl hs
    rw [if_neg c0] at hs
    by_cases c1 : P = 1
    · rw [if_pos c1] at hs; exact fin 1 1 0 c1 (by decide) (by decide) rfl hs
    rw [if_neg c1] at hs
    by_cases c2 : P = 2
    · rw [if_pos c2] at hs; exact fin 2 0 0 c2 (by decide) (by decide) rfl hs
    rw [if_neg c2] at hs
    by_cases c3 : P = 3
    · rw [if_pos c3] at hs; exact fin 3 0 0 c3 (by decide) (by decide) rfl hs
    rw [if_neg c3] at hs
    by_cases c4 : P = 4
    · rw [if_pos c4] at hs; exact fin 4 0 0 c4 (by decide) (by decide) rfl hs
    rw [if_neg c4] at hs
    by_cases c5 : P = 5
    · rw [if_pos c5] at hs; exact fin 5 0 0 c5 (by decide) (by decide) rfl hs
    rw [if_neg c5] at hs
    by_cases c6 : P = 6
    · rw [if_pos c6] at hs; exact fin 6 0 1 c6 (by decide) (by decide) rfl hs
    rw [if_neg c6] at hs
    by_cases c7 : P = 7
    · rw [if_pos c7] at hs; exact fin 7 0 2 c7 (by decide) (by decide) rfl hs
    rw [if_neg c7] at hs
    by_cases c8 : P = 8
    · rw [if_pos c8] at hs; exact fin 8 0 1 c8 (by decide) (by decide) rfl hs
    rw [if_neg c8] at hs
    by_cases c9 : P = 9
    · rw [if_pos c9] at hs; exact fin 9 2 0 c9 (by decide) (by decide) rfl hs
    rw [if_neg c9] at hs
    by_cases c10 : P = 10
    · rw [if_pos c10] at hs; exact fin 10 2 0 c10 (by decide) (by decide) rfl hs
    rw [if_neg c10] at hs
    by_cases c11 : P = 11
    · rw [if_pos c11] at hs; exact fin 11 0 0 c11 (by decide) (by decide) rfl hs
    rw [if_neg c11] at hs
    cases hs
  · cases h
end Pan
namespace Pan
open PySem PySem.Spec PyProof.Rows L2
open PySem.W (Codec)
/-! ### what the top has written: each def and class by its name -/
def GotF (K : PySem.W.Frag) (x : Str) (st : Stmt) : Prop := ∃ f fd, PySem.W.nsIn K mainGlobals x = some (some (.ref f)) ∧ Fun K x x st f fd
def GotM (K : PySem.W.Frag) (C : Addr) (m q : Str) (st : Stmt) : Prop := ∃ f fd, PySem.W.findIn K (.ref C) m = some (some (.ref f)) ∧ PySem.W.isFn K (.ref f) = true ∧ Fun K m q st f fd
structure GotC (K : PySem.W.Frag) (x : Str) (C : Addr) : Prop where
  a : PySem.W.nsIn K mainGlobals x = some (some (.ref C))
  pg : PySem.W.plainGet K C Str.empty = true
  hd : PySem.W.hasDictIn K C = true
  po : PySem.W.plainOver K C = true
  sa : PySem.W.findIn K (.ref C) "__setattr__" = some (some (.builtin "object.__setattr__"))
  made : PySem.W.makesIn K C = true
  kc : PySem.W.keepIn K (.ref C) = true
theorem GotC.cls {K : PySem.W.Frag} {x : Str} {C : Addr} (g : GotC K x C) : Cls K C := ⟨g.pg, g.hd, g.po, g.sa⟩
structure Names (K : PySem.W.Frag) : Prop where
  len : PySem.W.nsIn K mainGlobals "len" = some none
  abs : PySem.W.nsIn K mainGlobals "abs" = some none
  min : PySem.W.nsIn K mainGlobals "min" = some none
  sorted : PySem.W.nsIn K mainGlobals "sorted" = some none
  list : PySem.W.nsIn K mainGlobals "list" = some none
  range : PySem.W.nsIn K mainGlobals "range" = some none
  reversed : PySem.W.nsIn K mainGlobals "reversed" = some none
  enumerate : PySem.W.nsIn K mainGlobals "enumerate" = some none
  max : PySem.W.nsIn K mainGlobals "max" = some none
  tuple : PySem.W.nsIn K mainGlobals "tuple" = some none
theorem Names.own {K : PySem.W.Frag} {h : Heap} {mg : Str → Option Value} (n : Names K) (X : K.In h) (G : h.Ns mainGlobals mg) : Own mg :=
  ⟨PySem.W.mg_none_of X G n.len, PySem.W.mg_none_of X G n.abs, PySem.W.mg_none_of X G n.min, PySem.W.mg_none_of X G n.sorted, PySem.W.mg_none_of X G n.list, PySem.W.mg_none_of X G n.range, PySem.W.mg_none_of X G n.reversed, PySem.W.mg_none_of X G n.enumerate⟩
theorem GotF.def_ {P : Program} {w : World} {K : PySem.W.Frag} {h : Heap} {mg : Str → Option Value} {base : Heap} {x : Str} {st : Stmt} {ps : List Str} {k : Nat} {sp : Sp} (g : GotF K x st) (X : K.In h) (G : h.Ns mainGlobals mg)
    (b : ∀ (kV doc pm : Value) (an : Option Addr) (cdv ct : Value) (us : List Value), us.length = ps.length → bindArgs (PySem.W.fnOf x x (defArgs st) (defBody st) (defScope st) .none kV doc pm an cdv ct) ⟨us, []⟩ = pure (ps.zip us))
    (o : ∀ {f fd}, Fun K x x st f fd → FnOk P w K mg base CX0 k f fd ps sp) : Def P w K mg base k x ps sp := by
  obtain ⟨f, fd, a, F⟩ := g
  exact ⟨f, fd, PySem.W.mg_of X G a, F.kp, F.binds b, o F⟩

theorem GotM.mdef {P : Program} {w : World} {K : PySem.W.Frag} {mg : Str → Option Value} {base : Heap} {C : Addr} {m q : Str} {st : Stmt} {ps : List Str} {k : Nat} {sp : Sp} (g : GotM K C m q st)
    (b : ∀ (kV doc pm : Value) (an : Option Addr) (cdv ct : Value) (us : List Value), us.length = ps.length → bindArgs (PySem.W.fnOf m q (defArgs st) (defBody st) (defScope st) .none kV doc pm an cdv ct) ⟨us, []⟩ = pure (ps.zip us))
    (o : ∀ {f fd}, Fun K m q st f fd → FnOk P w K mg base CX0 k f fd ps sp) : MDef P w K mg base C k m ps sp := by
  obtain ⟨f, fd, a, i, F⟩ := g
  exact ⟨f, fd, o F, F.binds b, ⟨a, i, F.kp⟩⟩
theorem all_mk {P : Program} {w : World} {K : PySem.W.Frag} {h : Heap} {mg : Str → Option Value} {fa CR CT S : Addr} (X : K.In h) (G : h.Ns mainGlobals mg) (hfa : mg "answers" = some (.ref fa)) {t6 t8 x3 x5 x100 v0 v1 v2 v3 v4 v5 v6 v7 v8 v9 v10 : Nat}
    (ns : Names K) (g1 : GotF K "is_stack" sStack) (g2 : GotF K "turned" sTurned) (g3 : GotF K "flipped" sFlipped) (g4 : GotF K "size_below" sBelow) (g5 : GotF K "gap_between" sBetween) (g6 : GotF K "gap_count" sCount) (g7 : GotF K "gap_change" sChange) (g8 : GotF K "fewest_row" sFewest) (g9 : GotF K "row_within" sWithin) (g10 : GotF K "least_flip" sLeast) (g11 : GotF K "usual_row" sUsual) (g12 : GotF K "flips_to_its_place" sPlace) (g13 : GotF K "flips_told" sTold) (g14 : GotF K "answer_call" sAnswer) (g15 : GotF K "answers" sAnswers) (g16 : GotF K "is_counted" sCounted) (g17 : GotF K "layers_of" sLayers) (g18 : GotF K "unseen_behind" sUnseen) (g19 : GotF K "first_of" sFirst) (g20 : GotF K "standing" sStanding) (g21 : GotF K "can_be_done" sCan) (g22 : GotF K "after_row" sAfter) (g23 : GotF K "times_until_again" sTimes) (g24 : GotF K "tally" sTally) (g25 : GotF K "worst" sWorst) (g26 : GotF K "answer_of_stack" sOfStack)
    (cR : GotC K "Reader" CR) (cT : GotC K "Turner" CT)
    (r1 : PySem.W.findIn K (.ref CR) "numbers" = some none) (r2 : PySem.W.findIn K (.ref CR) "place" = some none)
    (u1 : PySem.W.findIn K (.ref CT) "stack" = some none) (u2 : PySem.W.findIn K (.ref CT) "sides_count" = some none) (u3 : PySem.W.findIn K (.ref CT) "turns" = some none)
    (m1 : GotM K CR "__init__" "Reader.__init__" sRInit) (m2 : GotM K CR "has_more" "Reader.has_more" sMore) (m3 : GotM K CR "take_number" "Reader.take_number" sNumber) (m4 : GotM K CR "take_row" "Reader.take_row" sRow) (m5 : GotM K CR "take_call" "Reader.take_call" sCall)
    (n1 : GotM K CT "__init__" "Turner.__init__" sTInit) (n2 : GotM K CT "begin" "Turner.begin" sBegin) (n3 : GotM K CT "flip" "Turner.flip" sFlip) (n4 : GotM K CT "look" "Turner.look" sLook) (n5 : GotM K CT "gaps" "Turner.gaps" sGaps) (n6 : GotM K CT "fewest" "Turner.fewest" sFew) (n7 : GotM K CT "usual" "Turner.usual" sUsu) (n8 : GotM K CT "try_row" "Turner.try_row" sTry) (n9 : GotM K CT "same" "Turner.same" sSame) (n10 : GotM K CT "round_of" "Turner.round_of" sRound) (n11 : GotM K CT "hint" "Turner.hint" sHint)
    (k6 : PySem.W.nsIn K mainGlobals "MOST_WITH_SIDES" = some (some (.int 6 t6))) (k8 : PySem.W.nsIn K mainGlobals "MOST_WITHOUT_SIDES" = some (some (.int 8 t8)))
    (k3 : PySem.W.nsIn K mainGlobals "MOST_COUNTED_WITH_SIDES" = some (some (.int 3 x3))) (k5 : PySem.W.nsIn K mainGlobals "MOST_COUNTED_WITHOUT_SIDES" = some (some (.int 5 x5))) (k100 : PySem.W.nsIn K mainGlobals "MOST_TIMES" = some (some (.int 100 x100)))
    (q0 : PySem.W.nsIn K mainGlobals "BEGIN" = some (some (.int 0 v0))) (q1 : PySem.W.nsIn K mainGlobals "FLIP" = some (some (.int 1 v1))) (q2 : PySem.W.nsIn K mainGlobals "LOOK" = some (some (.int 2 v2))) (q3 : PySem.W.nsIn K mainGlobals "GAPS" = some (some (.int 3 v3))) (q4 : PySem.W.nsIn K mainGlobals "FEWEST" = some (some (.int 4 v4))) (q5 : PySem.W.nsIn K mainGlobals "USUAL" = some (some (.int 5 v5))) (q6 : PySem.W.nsIn K mainGlobals "TRY_ROW" = some (some (.int 6 v6))) (q7 : PySem.W.nsIn K mainGlobals "SAME" = some (some (.int 7 v7))) (q8 : PySem.W.nsIn K mainGlobals "ROUND_OF" = some (some (.int 8 v8))) (q9 : PySem.W.nsIn K mainGlobals "TALLY" = some (some (.int 9 v9))) (q10 : PySem.W.nsIn K mainGlobals "WORST" = some (some (.int 10 v10)))
    (kS : PySem.W.nsIn K mainGlobals "SHAPES" = some (some (.ref S))) (hS : shapesAre K S = true) :
    ∃ fd : FuncData, (∀ (s : Shared) (us : List Value), us.length = (["calls"] : List Str).length → BindsTo s fd ⟨us, []⟩ ((["calls"] : List Str).zip us)) ∧ ∀ base : Heap, K.In base → base.Ns mainGlobals mg → FnOk P w K mg base CX0 30 fa fd ["calls"] (spAnswers K) := by
  have O := ns.own X G
  have L : Limits mg := ⟨⟨_, PySem.W.mg_of X G k6⟩, ⟨_, PySem.W.mg_of X G k8⟩⟩
  obtain ⟨f, fd, a15, F15⟩ := g15
  have e := hfa.symm.trans (PySem.W.mg_of X G a15)
  cases e
  refine ⟨fd, ?_, fun base _ _ => ?_⟩
  · obtain ⟨oc, od, kV, doc, pm, an, cdv, ct, osl, rfl, lk, hcd⟩ := F15.ex
    exact fun s us hu => match us, hu with | [_], _ => .of_eq rfl
  · have D2 : Def P w K mg base 1 "turned" ["size", "sides_count"] spTurned := g2.def_ X G (fun _ _ _ _ _ _ us hl => match us, hl with | [_, _], _ => rfl) fun F => ok_turned F
    have D4 : Def P w K mg base 1 "size_below" ["stack", "k"] (spBelow K) := g4.def_ X G (fun _ _ _ _ _ _ us hl => match us, hl with | [_, _], _ => rfl) fun F => ok_below F O
    have D5 : Def P w K mg base 1 "gap_between" ["upper", "lower", "sides_count"] spBetween := g5.def_ X G (fun _ _ _ _ _ _ us hl => match us, hl with | [_, _, _], _ => rfl) fun F => ok_between F O
    have D1 : Def P w K mg base 1 "is_stack" ["sizes", "sides_count"] spStack := g1.def_ X G (fun _ _ _ _ _ _ us hl => match us, hl with | [_, _], _ => rfl) fun F => ok_stack F O L
    have D3 : Def P w K mg base 2 "flipped" ["stack", "k", "sides_count"] spFlipped := g3.def_ X G (fun _ _ _ _ _ _ us hl => match us, hl with | [_, _, _], _ => rfl) fun F => ok_flipped F O D2
    have D6 : Def P w K mg base 2 "gap_count" ["stack", "sides_count"] (spCount K) := g6.def_ X G (fun _ _ _ _ _ _ us hl => match us, hl with | [_, _], _ => rfl) fun F => ok_count F O D5 D4
    have D7 : Def P w K mg base 2 "gap_change" ["stack", "k", "sides_count"] (spChange K) := g7.def_ X G (fun _ _ _ _ _ _ us hl => match us, hl with | [_, _, _], _ => rfl) fun F => ok_change F D2 D5 D4
    have D10 : Def P w K mg base 1 "least_flip" ["sides_count"] spLeast := g10.def_ X G (fun _ _ _ _ _ _ us hl => match us, hl with | [_], _ => rfl) fun F => ok_least F
    have D9 : Def P w K mg base 21 "row_within" ["stack", "sides_count", "gaps", "length", "flip_before"] (spWithin 19) := by
      obtain ⟨fw, fdw, aw, Fw⟩ := g9
      have bw := Fw.binds (ps := ["stack", "sides_count", "gaps", "length", "flip_before"]) fun _ _ _ _ _ _ us hl => match us, hl with | [_, _, _, _, _], _ => rfl
      exact ⟨fw, fdw, PySem.W.mg_of X G aw, Fw.kp, bw, ok_within Fw O ⟨D10, D7, D3⟩ (PySem.W.mg_of X G aw) bw 19⟩
    have D8 : Def P w K mg base 22 "fewest_row" ["stack", "sides_count"] spFewest := g8.def_ X G (fun _ _ _ _ _ _ us hl => match us, hl with | [_, _], _ => rfl) fun F => ok_fewest F D6 D9
    have D12 : Def P w K mg base 3 "flips_to_its_place" ["stack", "size", "sides_count"] spPlace := g12.def_ X G (fun _ _ _ _ _ _ us hl => match us, hl with | [_, _, _], _ => rfl) fun F => ok_place F O D3
    have D11 : Def P w K mg base 4 "usual_row" ["stack", "sides_count"] spUsual := g11.def_ X G (fun _ _ _ _ _ _ us hl => match us, hl with | [_, _], _ => rfl) fun F => ok_usual F O D3 D12
    have D13 : Def P w K mg base 1 "flips_told" ["row"] spTold := g13.def_ X G (fun _ _ _ _ _ _ us hl => match us, hl with | [_], _ => rfl) fun F => ok_told F O
    have TR : RTxt K CR := ⟨cR.cls, r1, r2⟩
    have TT : TTxt K CT := ⟨cT.cls, u1, u2, u3⟩
    have Z : Shapes K mg PyMu28.shape := shapes_of (PySem.W.mg_of X G kS) hS
    have Tmax : mg "max" = none := PySem.W.mg_none_of X G ns.max
    have Ttup : mg "tuple" = none := PySem.W.mg_none_of X G ns.tuple
    have FI : FewIs mg := ⟨⟨_, PySem.W.mg_of X G k3⟩, ⟨_, PySem.W.mg_of X G k5⟩⟩
    have NA : NumsAre mg := ⟨⟨_, PySem.W.mg_of X G q0⟩, ⟨_, PySem.W.mg_of X G q1⟩, ⟨_, PySem.W.mg_of X G q2⟩, ⟨_, PySem.W.mg_of X G q3⟩, ⟨_, PySem.W.mg_of X G q4⟩, ⟨_, PySem.W.mg_of X G q5⟩, ⟨_, PySem.W.mg_of X G q6⟩, ⟨_, PySem.W.mg_of X G q7⟩, ⟨_, PySem.W.mg_of X G q8⟩, ⟨_, PySem.W.mg_of X G q9⟩, ⟨_, PySem.W.mg_of X G q10⟩⟩
    have D16 : Def P w K mg base 1 "is_counted" ["b", "n"] spCounted := g16.def_ X G (fun _ _ _ _ _ _ us hl => match us, hl with | [_, _], _ => rfl) fun F => ok_counted F FI
    have D18 : Def P w K mg base 3 "unseen_behind" ["layer", "sides_count", "seen"] spUnseen := g18.def_ X G (fun _ _ _ _ _ _ us hl => match us, hl with | [_, _, _], _ => rfl) fun F => ok_unseen F O Ttup D10 D3
    have D17 : Def P w K mg base 4 "layers_of" ["n", "sides_count"] spLayers := g17.def_ X G (fun _ _ _ _ _ _ us hl => match us, hl with | [_, _], _ => rfl) fun F => ok_layers F O Ttup D18
    have D20 : Def P w K mg base 1 "standing" ["stack"] spStanding := g20.def_ X G (fun _ _ _ _ _ _ us hl => match us, hl with | [_], _ => rfl) fun F => ok_standing F O
    have D19 : Def P w K mg base 3 "first_of" ["stacks"] spFirst := g19.def_ X G (fun _ _ _ _ _ _ us hl => match us, hl with | [_], _ => rfl) fun F => ok_first F O.min D20
    have D21 : Def P w K mg base 1 "can_be_done" ["stack", "row"] (spCan K) := g21.def_ X G (fun _ _ _ _ _ _ us hl => match us, hl with | [_, _], _ => rfl) fun F => ok_can F O Tmax
    have D22 : Def P w K mg base 3 "after_row" ["stack", "row", "sides_count"] (spAfter K) := g22.def_ X G (fun _ _ _ _ _ _ us hl => match us, hl with | [_, _, _], _ => rfl) fun F => ok_after F D3
    have D23 : Def P w K mg base 4 "times_until_again" ["stack", "row", "sides_count", "most_times"] (spTimes K) := g23.def_ X G (fun _ _ _ _ _ _ us hl => match us, hl with | [_, _, _, _], _ => rfl) fun F => ok_times F O D22
    have D24 : Def P w K mg base 5 "tally" ["b", "n"] spTally := g24.def_ X G (fun _ _ _ _ _ _ us hl => match us, hl with | [_, _], _ => rfl) fun F => ok_tally F O D16 D17
    have D25 : Def P w K mg base 5 "worst" ["b", "n"] spWorst := g25.def_ X G (fun _ _ _ _ _ _ us hl => match us, hl with | [_, _], _ => rfl) fun F => ok_worst F O D16 D17 D19
    obtain ⟨f1, d1, a1, i1, F1⟩ := m1
    obtain ⟨f2, d2, a2, i2, F2⟩ := m2
    obtain ⟨f3, d3, a3, i3, F3⟩ := m3
    obtain ⟨f4, d4, a4, i4, F4⟩ := m4
    obtain ⟨f5, d5, a5, i5, F5⟩ := m5
    have b1 := F1.binds (ps := ["self", "numbers"]) fun _ _ _ _ _ _ us hl => match us, hl with | [_, _], _ => rfl
    have b2 := F2.binds (ps := ["self"]) fun _ _ _ _ _ _ us hl => match us, hl with | [_], _ => rfl
    have b3 := F3.binds (ps := ["self"]) fun _ _ _ _ _ _ us hl => match us, hl with | [_], _ => rfl
    have b4 := F4.binds (ps := ["self"]) fun _ _ _ _ _ _ us hl => match us, hl with | [_], _ => rfl
    have b5 := F5.binds (ps := ["self"]) fun _ _ _ _ _ _ us hl => match us, hl with | [_], _ => rfl
    have M2 : Meth K CR "has_more" f2 := ⟨a2, i2, F2.kp⟩
    have M3 : Meth K CR "take_number" f3 := ⟨a3, i3, F3.kp⟩
    have M4 : Meth K CR "take_row" f4 := ⟨a4, i4, F4.kp⟩
    have M5 : Meth K CR "take_call" f5 := ⟨a5, i5, F5.kp⟩
    have R1 : FnOk P w K mg base CX0 1 f1 d1 ["self", "numbers"] (spRInit CR) := ok_rinit F1 TR
    have R2 : FnOk P w K mg base CX0 1 f2 d2 ["self"] (spMore K CR) := ok_more F2 O TR
    have R3 : FnOk P w K mg base CX0 1 f3 d3 ["self"] (spNumber K CR) := ok_number F3 TR
    have R4 : FnOk P w K mg base CX0 2 f4 d4 ["self"] (spRow K CR) := ok_row F4 TR R3 b3 M3
    have R5 : FnOk P w K mg base CX0 3 f5 d5 ["self"] (spCallR K CR PyMu28.shape) := ok_callr F5 O TR Z R3 b3 M3 R4 b4 M4
    obtain ⟨h1, j1, p1, q1', H1⟩ := n1
    have c1 := H1.binds (ps := ["self"]) fun _ _ _ _ _ _ us hl => match us, hl with | [_], _ => rfl
    have S1 : FnOk P w K mg base CX0 1 h1 j1 ["self"] (spTInit CT) := ok_tinit H1 TT
    have M0 : MDef P w K mg base CT 2 "begin" ["self", "b", "stack"] (spBegin CT) := n2.mdef (fun _ _ _ _ _ _ us hl => match us, hl with | [_, _, _], _ => rfl) fun F => ok_begin F TT O D1
    have Mga : MDef P w K mg base CT 3 "gaps" ["self"] (spM CT .gaps) := n5.mdef (fun _ _ _ _ _ _ us hl => match us, hl with | [_], _ => rfl) fun F => ok_gaps F TT D6
    obtain ⟨fga, dga, Gga, bga, mga⟩ := id Mga
    have Mfl : MDef P w K mg base CT 4 "flip" ["self", "k"] (spFlip CT) := n3.mdef (fun _ _ _ _ _ _ us hl => match us, hl with | [_, _], _ => rfl) fun F => ok_flip F TT O D3 Gga bga mga
    have Mlo : MDef P w K mg base CT 1 "look" ["self"] (spM CT .look) := n4.mdef (fun _ _ _ _ _ _ us hl => match us, hl with | [_], _ => rfl) fun F => ok_look F TT
    have Mfe : MDef P w K mg base CT 23 "fewest" ["self"] (spM CT .fewest) := n6.mdef (fun _ _ _ _ _ _ us hl => match us, hl with | [_], _ => rfl) fun F => ok_few F TT D8 D13
    have Mus : MDef P w K mg base CT 5 "usual" ["self"] (spM CT .usual) := n7.mdef (fun _ _ _ _ _ _ us hl => match us, hl with | [_], _ => rfl) fun F => ok_usu F TT D11 D13
    have Mtr : MDef P w K mg base CT 4 "try_row" ["self", "row"] (spTry CT) := n8.mdef (fun _ _ _ _ _ _ us hl => match us, hl with | [_, _], _ => rfl) fun F => ok_try F TT D21 D22 D6
    have Msa : MDef P w K mg base CT 4 "same" ["self", "one", "other"] (spSame CT) := n9.mdef (fun _ _ _ _ _ _ us hl => match us, hl with | [_, _, _], _ => rfl) fun F => ok_same_ F TT D21 D22
    have Mro : MDef P w K mg base CT 5 "round_of" ["self", "row"] (spRound CT) := n10.mdef (fun _ _ _ _ _ _ us hl => match us, hl with | [_, _], _ => rfl) fun F => ok_round F TT (PySem.W.mg_of X G k100) D21 D23
    have Mhi : MDef P w K mg base CT 23 "hint" ["self"] (spM CT .hint) := n11.mdef (fun _ _ _ _ _ _ us hl => match us, hl with | [_], _ => rfl) fun F => ok_hint F TT O D8
    have D26 : Def P w K mg base 24 "answer_of_stack" ["turner", "call"] (spOfStack CT) := g26.def_ X G (fun _ _ _ _ _ _ us hl => match us, hl with | [_, _], _ => rfl) fun F => ok_ofStack F TT NA Mfl Mlo Mga Mfe Mus Mtr Msa Mro Mhi
    have DA : Def P w K mg base 25 "answer_call" ["turner", "call"] (spAnswer CT) := g14.def_ X G (fun _ _ _ _ _ _ us hl => match us, hl with | [_, _], _ => rfl) fun F => ok_answer F TT NA M0 D24 D25 D26
    exact (ok_answers F15 O TR ⟨cR.made, a1, i1, cR.kc⟩ (PySem.W.mg_of X G cR.a) R1 b1 R2 b2 M2 R5 b5 M5 TT ⟨cT.made, p1, q1', cT.kc⟩ (PySem.W.mg_of X G cT.a) S1 c1 DA (by decide)).mono (by decide)
end Pan
open PySem PySem.W PyProof.Rows
set_option maxRecDepth 100000 in
set_option maxHeartbeats 8000000 in
theorem PySem.Challenge.cw_panstack_s01_answers_holds : PySem.Challenge.rw_panstack_s01_answers.Holds := by
  w_on; k_headS; (case hw => exact ⟨[.list [.int 2]], by decide +kernel, by decide +kernel⟩)
  k_fillS
  refine L2.walk_specK (r := PySem.Challenge.rw_panstack_s01_answers) (k := 30) (CX := L2.CX0) (ps := ["calls"]) (sp := Pan.spAnswers) (by decide +kernel) rfl rfl ⟨rfl, by decide, by decide⟩ (fun w h Y => PySem.W.kIn_of Y) ?F ?S (fun _ _ _ _ z => z)
  case F =>
    intro w mg fa h Y KX G hmg
    refine' Pan.all_mk KX G hmg ?ns ?g1 ?g2 ?g3 ?g4 ?g5 ?g6 ?g7 ?g8 ?g9 ?g10 ?g11 ?g12 ?g13 ?g14 ?g15 ?g16 ?g17 ?g18 ?g19 ?g20 ?g21 ?g22 ?g23 ?g24 ?g25 ?g26 ?cR ?cT ?r1 ?r2 ?u1 ?u2 ?u3 ?m1 ?m2 ?m3 ?m4 ?m5 ?n1 ?n2 ?n3 ?n4 ?n5 ?n6 ?n7 ?n8 ?n9 ?n10 ?n11 ?k6 ?k8 ?k3 ?k5 ?k100 ?q0 ?q1 ?q2 ?q3 ?q4 ?q5 ?q6 ?q7 ?q8 ?q9 ?q10 ?kS ?hS
    (case ns => exact ⟨by k_is, by k_is, by k_is, by k_is, by k_is, by k_is, by k_is, by k_is, by k_is, by k_is⟩)
    (case g1 => exact ⟨_, _, by k_is, L2.fun_mk (by k_is) (by k_is) (by k_is)⟩)
    (case g2 => exact ⟨_, _, by k_is, L2.fun_mk (by k_is) (by k_is) (by k_is)⟩)
    (case g3 => exact ⟨_, _, by k_is, L2.fun_mk (by k_is) (by k_is) (by k_is)⟩)
    (case g4 => exact ⟨_, _, by k_is, L2.fun_mk (by k_is) (by k_is) (by k_is)⟩)
    (case g5 => exact ⟨_, _, by k_is, L2.fun_mk (by k_is) (by k_is) (by k_is)⟩)
    (case g6 => exact ⟨_, _, by k_is, L2.fun_mk (by k_is) (by k_is) (by k_is)⟩)
    (case g7 => exact ⟨_, _, by k_is, L2.fun_mk (by k_is) (by k_is) (by k_is)⟩)
    (case g8 => exact ⟨_, _, by k_is, L2.fun_mk (by k_is) (by k_is) (by k_is)⟩)
    (case g9 => exact ⟨_, _, by k_is, L2.fun_mk (by k_is) (by k_is) (by k_is)⟩)
    (case g10 => exact ⟨_, _, by k_is, L2.fun_mk (by k_is) (by k_is) (by k_is)⟩)
    (case g11 => exact ⟨_, _, by k_is, L2.fun_mk (by k_is) (by k_is) (by k_is)⟩)
    (case g12 => exact ⟨_, _, by k_is, L2.fun_mk (by k_is) (by k_is) (by k_is)⟩)
    (case g13 => exact ⟨_, _, by k_is, L2.fun_mk (by k_is) (by k_is) (by k_is)⟩)
    (case g14 => exact ⟨_, _, by k_is, L2.fun_mk (by k_is) (by k_is) (by k_is)⟩)
    (case g15 => exact ⟨_, _, by k_is, L2.fun_mk (by k_is) (by k_is) (by k_is)⟩)
    (case g16 => exact ⟨_, _, by k_is, L2.fun_mk (by k_is) (by k_is) (by k_is)⟩)
    (case g17 => exact ⟨_, _, by k_is, L2.fun_mk (by k_is) (by k_is) (by k_is)⟩)
    (case g18 => exact ⟨_, _, by k_is, L2.fun_mk (by k_is) (by k_is) (by k_is)⟩)
    (case g19 => exact ⟨_, _, by k_is, L2.fun_mk (by k_is) (by k_is) (by k_is)⟩)
    (case g20 => exact ⟨_, _, by k_is, L2.fun_mk (by k_is) (by k_is) (by k_is)⟩)
    (case g21 => exact ⟨_, _, by k_is, L2.fun_mk (by k_is) (by k_is) (by k_is)⟩)
    (case g22 => exact ⟨_, _, by k_is, L2.fun_mk (by k_is) (by k_is) (by k_is)⟩)
    (case g23 => exact ⟨_, _, by k_is, L2.fun_mk (by k_is) (by k_is) (by k_is)⟩)
    (case g24 => exact ⟨_, _, by k_is, L2.fun_mk (by k_is) (by k_is) (by k_is)⟩)
    (case g25 => exact ⟨_, _, by k_is, L2.fun_mk (by k_is) (by k_is) (by k_is)⟩)
    (case g26 => exact ⟨_, _, by k_is, L2.fun_mk (by k_is) (by k_is) (by k_is)⟩)
    (case cR => exact ⟨by k_is, by k_is, by k_is, by k_is, by k_is, by k_is, by k_is⟩)
    (case cT => exact ⟨by k_is, by k_is, by k_is, by k_is, by k_is, by k_is, by k_is⟩)
    (case r1 => k_is)
    (case r2 => k_is)
    (case u1 => k_is)
    (case u2 => k_is)
    (case u3 => k_is)
    (case m1 => exact ⟨_, _, by k_is, by k_is, L2.fun_mk (by k_is) (by k_is) (by k_is)⟩)
    (case m2 => exact ⟨_, _, by k_is, by k_is, L2.fun_mk (by k_is) (by k_is) (by k_is)⟩)
    (case m3 => exact ⟨_, _, by k_is, by k_is, L2.fun_mk (by k_is) (by k_is) (by k_is)⟩)
    (case m4 => exact ⟨_, _, by k_is, by k_is, L2.fun_mk (by k_is) (by k_is) (by k_is)⟩)
    (case m5 => exact ⟨_, _, by k_is, by k_is, L2.fun_mk (by k_is) (by k_is) (by k_is)⟩)
    (case n1 => exact ⟨_, _, by k_is, by k_is, L2.fun_mk (by k_is) (by k_is) (by k_is)⟩)
    (case n2 => exact ⟨_, _, by k_is, by k_is, L2.fun_mk (by k_is) (by k_is) (by k_is)⟩)
    (case n3 => exact ⟨_, _, by k_is, by k_is, L2.fun_mk (by k_is) (by k_is) (by k_is)⟩)
    (case n4 => exact ⟨_, _, by k_is, by k_is, L2.fun_mk (by k_is) (by k_is) (by k_is)⟩)
    (case n5 => exact ⟨_, _, by k_is, by k_is, L2.fun_mk (by k_is) (by k_is) (by k_is)⟩)
    (case n6 => exact ⟨_, _, by k_is, by k_is, L2.fun_mk (by k_is) (by k_is) (by k_is)⟩)
    (case n7 => exact ⟨_, _, by k_is, by k_is, L2.fun_mk (by k_is) (by k_is) (by k_is)⟩)
    (case n8 => exact ⟨_, _, by k_is, by k_is, L2.fun_mk (by k_is) (by k_is) (by k_is)⟩)
    (case n9 => exact ⟨_, _, by k_is, by k_is, L2.fun_mk (by k_is) (by k_is) (by k_is)⟩)
    (case n10 => exact ⟨_, _, by k_is, by k_is, L2.fun_mk (by k_is) (by k_is) (by k_is)⟩)
    (case n11 => exact ⟨_, _, by k_is, by k_is, L2.fun_mk (by k_is) (by k_is) (by k_is)⟩)
    (case k6 => k_is)
    (case k8 => k_is)
    (case k3 => k_is)
    (case k5 => k_is)
    (case k100 => k_is)
    (case q0 => k_is)
    (case q1 => k_is)
    (case q2 => k_is)
    (case q3 => k_is)
    (case q4 => k_is)
    (case q5 => k_is)
    (case q6 => k_is)
    (case q7 => k_is)
    (case q8 => k_is)
    (case q9 => k_is)
    (case q10 => k_is)
    (case kS => k_is)
    (case hS => first | kernel_rfl | exact rfl)
  case S =>
    intro K H xs a hO hwi hask hx
    cases hx with
    | cons h1 h2 =>
      cases h2
      cases h1 with
      | lst hs ha =>
        have e := L2.ints_dw a.1 _ ha
        subst e
        exact ⟨_, a.1, rfl, hs, hask, fun H' p hp => .lst (L2.SqL.of hp) (L2.dw_ints _)⟩
#print axioms PySem.Challenge.cw_panstack_s01_answers_holds
