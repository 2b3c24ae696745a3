/- The order of boats at a time: the words, and what they have to do with each other. -/
import Derived.Test.YtknelhceaoblhaaNum
import Derived.Test.YtknelhceaoblhaaKit
namespace Go.Proofs.Ytknelhceaoblhaa.Crs
open Go.ChangeShapes Go.WideShapes Go.ChangeAt Go.RowKit
set_option linter.unusedVariables false
set_option linter.unusedSimpArgs false

/-- p is ahead of q: more stations, or as many and the last of them earlier. -/
def ahB (p q : Int × Int) : Bool := if p.1 = q.1 then decide (p.2 < q.2) else decide (q.1 < p.1)
def cmI (p q : Int × Int) : Int := if p = q then 0 else if ahB p q then -1 else 1
theorem ah_asym {p q : Int × Int} (h : ahB p q = true) : ahB q p = false := by
  unfold ahB at *
  split at h <;> split <;> simp at * <;> omega
theorem ah_trans {p q r : Int × Int} (h : ahB p q = true) (g : ahB q r = true) : ahB p r = true := by
  unfold ahB at *
  split at h <;> split at g <;> split <;> simp at * <;> omega
theorem ah_irr (p : Int × Int) : ahB p p = false := by simp [ahB]
theorem ah_tri {p q : Int × Int} (h : ahB p q = false) (g : ahB q p = false) : p = q := by
  unfold ahB at *
  obtain ⟨a, b⟩ := p
  obtain ⟨c, d⟩ := q
  split at h <;> split at g <;> simp at * <;> first | (constructor <;> omega) | omega
theorem cm_neg (p q : Int × Int) : decide (cmI p q < 0) = ahB p q := by
  unfold cmI
  split
  · rename_i h; rw [h, ah_irr]; rfl
  · cases ahB p q <;> rfl
/-- Boat i comes ahead of boat j. -/
def ltO (pg : Nat → Int × Int) (i j : Nat) : Prop := ahB (pg i) (pg j) = true ∨ (pg i = pg j ∧ i < j)
theorem lt_asym {pg : Nat → Int × Int} {i j : Nat} (h : ltO pg i j) : ¬ ltO pg j i := by
  intro g
  rcases h with h | ⟨h, h2⟩ <;> rcases g with g | ⟨g, g2⟩
  · rw [ah_asym h] at g; cases g
  · rw [g, ah_irr] at h; cases h
  · rw [h, ah_irr] at g; cases g
  · omega
theorem lt_trans {pg : Nat → Int × Int} {i j k : Nat} (h : ltO pg i j) (g : ltO pg j k) : ltO pg i k := by
  rcases h with h | ⟨h, h2⟩ <;> rcases g with g | ⟨g, g2⟩
  · exact .inl (ah_trans h g)
  · exact .inl (g ▸ h)
  · exact .inl (h ▸ g)
  · exact .inr ⟨h.trans g, by omega⟩
/-- How far the scan from the end comes. -/
def poO (p : Nat → Bool) : Nat → Nat
  | 0 => 0
  | n + 1 => if p n then poO p n else n + 1
theorem po_le (p : Nat → Bool) : ∀ n, poO p n ≤ n
  | 0 => Nat.le_refl _
  | n + 1 => by unfold poO; split; have := po_le p n; omega; omega
theorem po_yes {p : Nat → Bool} {n : Nat} (h : p n = true) : poO p (n + 1) = poO p n := by simp [poO, h]
theorem po_no {p : Nat → Bool} {n : Nat} (h : p n = false) : poO p (n + 1) = n + 1 := by simp [poO, h]
theorem po_at {p : Nat → Bool} : ∀ {n j : Nat}, poO p n = j + 1 → p j = false
  | 0, j, h => by simp [poO] at h
  | n + 1, j, h => by
    unfold poO at h
    split at h
    · exact po_at h
    · rename_i g; simp at h; subst h; simpa using g
theorem po_behind {p : Nat → Bool} : ∀ {n j : Nat}, poO p n ≤ j → j < n → p j = true
  | 0, j, _, h => absurd h (by omega)
  | n + 1, j, h, g => by
    unfold poO at h
    split at h
    · rename_i q
      rcases Nat.lt_or_ge j n with e | e
      · exact po_behind h e
      · have : j = n := by omega
        subst this; exact q
    · omega
/-- Where boat x is put into the list. -/
def atO (pg : Nat → Int × Int) (x : Nat) (l : List Nat) : Nat := poO (fun j => ahB (pg x) (pg (l.getD j 0))) l.length
def insO (pg : Nat → Int × Int) (x : Nat) (l : List Nat) : List Nat := l.take (atO pg x l) ++ x :: l.drop (atO pg x l)
def ordO (pg : Nat → Int × Int) : Nat → List Nat
  | 0 => []
  | n + 1 => insO pg n (ordO pg n)
theorem ins_mem (pg : Nat → Int × Int) (x : Nat) (l : List Nat) (y : Nat) : y ∈ insO pg x l ↔ y = x ∨ y ∈ l := by
  unfold insO
  have h : y ∈ l ↔ y ∈ l.take (atO pg x l) ++ l.drop (atO pg x l) := by rw [List.take_append_drop]
  rw [h]
  simp only [List.mem_append, List.mem_cons]
  constructor
  · rintro (h | h | h)
    · exact .inr (.inl h)
    · exact .inl h
    · exact .inr (.inr h)
  · rintro (h | h | h)
    · exact .inr (.inl h)
    · exact .inl h
    · exact .inr (.inr h)
theorem ins_len (pg : Nat → Int × Int) (x : Nat) (l : List Nat) : (insO pg x l).length = l.length + 1 := by
  have h := congrArg List.length (List.take_append_drop (atO pg x l) l)
  unfold insO
  simp only [List.length_append, List.length_cons] at h ⊢
  omega
theorem ord_len (pg : Nat → Int × Int) : ∀ n, (ordO pg n).length = n
  | 0 => rfl
  | n + 1 => by show (insO pg n (ordO pg n)).length = n + 1; rw [ins_len, ord_len pg n]
theorem ord_mem (pg : Nat → Int × Int) : ∀ n y, y ∈ ordO pg n ↔ y < n
  | 0, y => by simp [ordO]
  | n + 1, y => by
    show y ∈ insO pg n (ordO pg n) ↔ _
    rw [ins_mem, ord_mem pg n y]; omega
theorem ins_sorted {pg : Nat → Int × Int} {x : Nat} {l : List Nat} (h : l.Pairwise (ltO pg)) (hl : ∀ y ∈ l, y < x) : (insO pg x l).Pairwise (ltO pg) := by
  have hle : atO pg x l ≤ l.length := po_le _ _
  have hd : ∀ y ∈ l.drop (atO pg x l), ltO pg x y := by
    intro y hy
    obtain ⟨i, hi, rfl⟩ := List.mem_iff_getElem.1 hy
    have hi2 : atO pg x l + i < l.length := by simp at hi; omega
    have := po_behind (p := fun j => ahB (pg x) (pg (l.getD j 0))) (n := l.length) (j := atO pg x l + i) (Nat.le_add_right _ _) hi2
    simp only [List.getElem_drop]
    left
    rw [List.getD_eq_getElem?_getD, List.getElem?_eq_getElem hi2] at this
    simpa using this
  have ht : ∀ y ∈ l.take (atO pg x l), ltO pg y x := by
    intro y hy
    obtain ⟨i, hi, rfl⟩ := List.mem_iff_getElem.1 hy
    have hi1 : i < atO pg x l := by simp at hi; omega
    obtain ⟨k, hk⟩ : ∃ k, atO pg x l = k + 1 := ⟨atO pg x l - 1, by omega⟩
    have hk2 : k < l.length := by omega
    have hb := po_at (p := fun j => ahB (pg x) (pg (l.getD j 0))) (n := l.length) (j := k) hk
    rw [List.getD_eq_getElem?_getD, List.getElem?_eq_getElem hk2] at hb
    have hb2 : ahB (pg x) (pg l[k]) = false := by simpa using hb
    have hlast : ltO pg l[k] x := by
      cases hq : ahB (pg l[k]) (pg x)
      · exact .inr ⟨ah_tri hq hb2, hl _ (List.getElem_mem hk2)⟩
      · exact .inl hq
    simp only [List.getElem_take]
    rcases Nat.lt_or_ge i k with e | e
    · exact lt_trans ((List.pairwise_iff_getElem.1 h) i k (by omega) hk2 e) hlast
    · have : i = k := by omega
      subst this; exact hlast
  unfold insO
  refine List.pairwise_append.2 ⟨h.sublist (List.take_sublist _ _), List.pairwise_cons.2 ⟨hd, h.sublist (List.drop_sublist _ _)⟩, ?_⟩
  intro a ha b hb
  rcases List.mem_cons.1 hb with rfl | hb
  · exact ht a ha
  · exact lt_trans (ht a ha) (hd b hb)
theorem ord_sorted (pg : Nat → Int × Int) : ∀ n, (ordO pg n).Pairwise (ltO pg)
  | 0 => List.Pairwise.nil
  | n + 1 => ins_sorted (ord_sorted pg n) (fun y hy => (ord_mem pg n y).1 hy)
theorem same_sorted {α : Type} {R : α → α → Prop} (asym : ∀ a b, R a b → ¬ R b a) : ∀ (l1 l2 : List α), l1.Pairwise R → l2.Pairwise R → (∀ x, x ∈ l1 ↔ x ∈ l2) → l1 = l2
  | [], [], _, _, _ => rfl
  | [], b :: t, _, _, h => absurd ((h b).2 (by simp)) (by simp)
  | a :: s, [], _, _, h => absurd ((h a).1 (by simp)) (by simp)
  | a :: s, b :: t, h1, h2, h => by
    obtain ⟨p1, q1⟩ := List.pairwise_cons.1 h1
    obtain ⟨p2, q2⟩ := List.pairwise_cons.1 h2
    have e : a = b := by
      rcases List.mem_cons.1 ((h a).1 (by simp)) with e | e
      · exact e
      · rcases List.mem_cons.1 ((h b).2 (by simp)) with e2 | e2
        · exact e2.symm
        · exact absurd (p1 b e2) (asym _ _ (p2 a e))
    subst e
    congr 1
    refine same_sorted asym s t q1 q2 (fun x => ?_)
    constructor
    · intro hx
      rcases List.mem_cons.1 ((h x).1 (by simp [hx])) with e | e
      · subst e; exact absurd (p1 x hx) (fun g => asym _ _ g g)
      · exact e
    · intro hx
      rcases List.mem_cons.1 ((h x).2 (by simp [hx])) with e | e
      · subst e; exact absurd (p2 x hx) (fun g => asym _ _ g g)
      · exact e
/-- The boats of one group. -/
def grO (pg : Nat → Int × Int) (n : Nat) (p : Int × Int) : List Nat := (List.range n).filter fun i => decide (pg i = p)
theorem gr_succ (pg : Nat → Int × Int) (n : Nat) (p : Int × Int) : grO pg (n + 1) p = if pg n = p then grO pg n p ++ [n] else grO pg n p := by
  unfold grO
  rw [List.range_succ, List.filter_append]
  by_cases h : pg n = p <;> simp [h]
theorem gr_mem {pg : Nat → Int × Int} {n : Nat} {p : Int × Int} {i : Nat} : i ∈ grO pg n p ↔ i < n ∧ pg i = p := by simp [grO]
theorem gr_nil {pg : Nat → Int × Int} {n : Nat} {p : Int × Int} : grO pg n p = [] ↔ ∀ i, i < n → pg i ≠ p := by
  simp [grO, List.filter_eq_nil_iff]
theorem range_up (n : Nat) : (List.range n).Pairwise (· < ·) := List.pairwise_lt_range
theorem groups_order {pg : Nat → Int × Int} {n : Nat} {ps : List (Int × Int)} (h : ps.Pairwise fun p q => ahB p q = true) (hm : ∀ i, i < n → pg i ∈ ps) : ps.flatMap (grO pg n) = ordO pg n := by
  refine same_sorted (R := ltO pg) (fun _ _ => lt_asym) _ _ ?_ (ord_sorted pg n) ?_
  · refine List.pairwise_flatMap.2 ⟨fun p _ => ?_, ?_⟩
    · refine List.Pairwise.imp_of_mem (R := (· < ·)) (fun {a b} ha hb hab => .inr ⟨((gr_mem.1 ha).2).trans ((gr_mem.1 hb).2).symm, hab⟩) ((range_up n).sublist List.filter_sublist)
    · refine h.imp (fun {p q} hpq a ha b hb => .inl ?_)
      rw [(gr_mem.1 ha).2, (gr_mem.1 hb).2]; exact hpq
  · intro x
    rw [ord_mem, List.mem_flatMap]
    constructor
    · rintro ⟨p, _, hx⟩; exact (gr_mem.1 hx).1
    · intro hx; exact ⟨pg x, hm x hx, gr_mem.2 ⟨hx, rfl⟩⟩
theorem ord_down {pg : Nat → Int × Int} {n i j : Nat} (hij : i < j) (hj : j < n) : (pg ((ordO pg n).getD j 0)).1 ≤ (pg ((ordO pg n).getD i 0)).1 := by
  have hj2 : j < (ordO pg n).length := by rw [ord_len]; exact hj
  have hi2 : i < (ordO pg n).length := by omega
  have h := (List.pairwise_iff_getElem.1 (ord_sorted pg n)) i j hi2 hj2 hij
  simp only [List.getD_eq_getElem?_getD, List.getElem?_eq_getElem hj2, List.getElem?_eq_getElem hi2, Option.getD_some]
  rcases h with h | ⟨h, _⟩
  · unfold ahB at h
    split at h <;> simp at h <;> omega
  · rw [h]; exact Int.le_refl _
theorem ord_lt {pg : Nat → Int × Int} {n j : Nat} (hj : j < n) : (ordO pg n).getD j 0 < n := by
  have hj2 : j < (ordO pg n).length := by rw [ord_len]; exact hj
  rw [List.getD_eq_getElem?_getD, List.getElem?_eq_getElem hj2]
  exact (ord_mem pg n _).1 (List.getElem_mem hj2)
end Go.Proofs.Ytknelhceaoblhaa.Crs
