/- The pairs of boats (chapter 12): words. No program is named here. -/
import Derived.Test.YtknelhceaoblhaaIsr
import Derived.Test.YtknelhceaoblhaaTk1
namespace Go.Proofs.Ytknelhceaoblhaa.Prs
open Go.Proofs.Ytknelhceaoblhaa.Crs (T1 TV tk) 
open Go.Proofs.Ytknelhceaoblhaa.Isr
set_option linter.unusedVariables false
set_option linter.unusedSimpArgs false

/-- The pairs with the second boat k and the first ones below j. -/
def prR (k j : Nat) : List (Nat × Nat) := (List.range j).map fun i => (i, k)
/-- All pairs of n boats, by the second one. -/
def prA : Nat → List (Nat × Nat)
  | 0 => []
  | k + 1 => prA k ++ prR k k
theorem prR_len (k j : Nat) : (prR k j).length = j := by simp [prR]
theorem prR_snoc (k j : Nat) : prR k (j + 1) = prR k j ++ [(j, k)] := by simp [prR, List.range_succ]
theorem prA_len : ∀ n, 2 * (prA n).length + n = n * n
  | 0 => rfl
  | k + 1 => by
    have h := prA_len k
    rw [prA, List.length_append, prR_len]
    have e : (k + 1) * (k + 1) = k * k + 2 * k + 1 := by
      rw [Nat.add_mul, Nat.mul_add]; omega
    omega
theorem prA_le {n : Nat} (h : n ≤ 16) : (prA n).length ≤ 120 := by
  have h1 := prA_len n
  have h2 : n * n ≤ 16 * n := Nat.mul_le_mul_right n h
  rcases Nat.lt_or_ge n 16 with g | g
  · have h3 : n * n ≤ 15 * n := Nat.mul_le_mul_right n (by omega)
    omega
  · obtain rfl : n = 16 := by omega
    omega
theorem prA_mem : ∀ {n : Nat} {q : Nat × Nat}, q ∈ prA n → q.1 < q.2 ∧ q.2 < n
  | 0, q, h => by simp [prA] at h
  | k + 1, q, h => by
    rw [prA, List.mem_append] at h
    rcases h with h | h
    · have := prA_mem h; omega
    · unfold prR at h
      obtain ⟨i, hi, rfl⟩ := List.mem_map.1 h
      have : i < k := by simpa using hi
      exact ⟨this, by simp⟩
theorem prA_all : ∀ {n i k : Nat}, i < k → k < n → (i, k) ∈ prA n
  | 0, i, k, _, h => absurd h (by omega)
  | n + 1, i, k, h, g => by
    rw [prA, List.mem_append]
    by_cases e : k = n
    · subst e
      exact .inr (List.mem_map.2 ⟨i, by simpa using h, rfl⟩)
    · exact .inl (prA_all h (by omega))
theorem iR_map (T : Nat → Nat → List Int) (k : Nat) : ∀ j, iRow T k j = (prR k j).flatMap fun q => rowK T q.1 q.2
  | 0 => rfl
  | j + 1 => by rw [iRow, iR_map T k j, prR_snoc, List.flatMap_append]; simp
theorem iA_map (T : Nat → Nat → List Int) : ∀ n, iAll T n = (prA n).flatMap fun q => rowK T q.1 q.2
  | 0 => rfl
  | k + 1 => by rw [iAll, iA_map T k, prA, List.flatMap_append, iR_map]
/-- The cells of a pair: its watch, its boats, their tracks. -/
def pcs (l s d p : Int) (ts : List T1) (q : Nat × Nat) : List Value := [.int .i64 l, .int .i64 s, .int .i64 d, .int .i64 p, .int .i64 (q.1 : Int), .int .i64 (q.2 : Int), TV (tk ts q.1), TV (tk ts q.2)]
abbrev Pv (l s d p i k : Int) (t u : T1) : Value := .agg #[.int .i64 l, .int .i64 s, .int .i64 d, .int .i64 p, .int .i64 i, .int .i64 k, TV t, TV u]
def cellsR (l s d p : Int) (ts : List T1) (ps : List (Nat × Nat)) : List Value := ps.flatMap (pcs l s d p ts)
theorem cr_app (l s d p : Int) (ts : List T1) (ps : List (Nat × Nat)) (q : Nat × Nat) : cellsR l s d p ts ps ++ pcs l s d p ts q = cellsR l s d p ts (ps ++ [q]) := by simp [cellsR]
theorem cr_get (l s d p : Int) (ts : List T1) : ∀ (ps : List (Nat × Nat)) (i : Nat) (q : Nat × Nat), ps[i]? = some q → ∀ j u, (pcs l s d p ts q)[j]? = some u → (cellsR l s d p ts ps)[i * 8 + j]? = some u
  | [], i, q, h, _, _, _ => by simp at h
  | a :: ps, 0, q, h, j, u, hj => by
    simp at h; subst h
    have e : cellsR l s d p ts (a :: ps) = pcs l s d p ts a ++ cellsR l s d p ts ps := by simp [cellsR]
    have hl : (pcs l s d p ts a).length = 8 := rfl
    have := (List.getElem?_eq_some_iff.1 hj).1
    rw [e, List.getElem?_append_left (by omega), Nat.zero_mul, Nat.zero_add]; exact hj
  | a :: ps, i + 1, q, h, j, u, hj => by
    have := cr_get l s d p ts ps i q (by simpa using h) j u hj
    have e : cellsR l s d p ts (a :: ps) = pcs l s d p ts a ++ cellsR l s d p ts ps := by simp [cellsR]
    have hl : (pcs l s d p ts a).length = 8 := rfl
    rw [e, List.getElem?_append_right (by omega), hl, show (i + 1) * 8 + j - 8 = i * 8 + j by omega]
    exact this

end Go.Proofs.Ytknelhceaoblhaa.Prs
