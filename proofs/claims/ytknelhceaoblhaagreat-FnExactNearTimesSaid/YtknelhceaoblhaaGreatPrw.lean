import Derived.Test.YtknelhceaoblhaaGreatMOrdMath
import Derived.Test.YtknelhceaoblhaaGreatMTrk
namespace Go.Proofs.YtknelhceaoblhaaGreat.Prs
open Go.Proofs.YtknelhceaoblhaaGreat.Crs (T1 TV tk) 
open Go.Proofs.YtknelhceaoblhaaGreat.Isr
set_option linter.unusedVariables false
set_option linter.unusedSimpArgs false
def prR (k j : Nat) : List (Nat × Nat) := (List.range j).map fun i => (i, k)
def prA : Nat → List (Nat × Nat)
  | 0 => []
  | k + 1 => prA k ++ prR k k
theorem prR_len (k j : Nat) : (prR k j).length = j := by simp [prR]
theorem prR_snoc (k j : Nat) : prR k (j + 1) = prR k j ++ [(j, k)] := by simp [prR, List.range_succ]
theorem prA_len : ∀ n, 2 * (prA n).length + n = n * n
  | 0 => rfl
  | k + 1 => by
    have h := prA_len k
    rw [prA, List.length_append, prR_len]
    have e : (k + 1) * (k + 1) = k * k + 2 * k + 1 := by
      rw [Nat.add_mul, Nat.mul_add]; omega
    omega
theorem prA_le {n : Nat} (h : n ≤ 16) : (prA n).length ≤ 120 := by
  have h1 := prA_len n
  have h2 : n * n ≤ 16 * n := Nat.mul_le_mul_right n h
  rcases Nat.lt_or_ge n 16 with g | g
  · have h3 : n * n ≤ 15 * n := Nat.mul_le_mul_right n (by omega)
    omega
  · obtain rfl : n = 16 := by omega
    omega
def pcs (l s d p : Int) (ts : List T1) (q : Nat × Nat) : List Value := [.int .i64 l, .int .i64 s, .int .i64 d, .int .i64 p, .int .i64 (q.1 : Int), .int .i64 (q.2 : Int), TV (tk ts q.1), TV (tk ts q.2)]
abbrev Pv (l s d p i k : Int) (t u : T1) : Value := .agg #[.int .i64 l, .int .i64 s, .int .i64 d, .int .i64 p, .int .i64 i, .int .i64 k, TV t, TV u]
def cellsR (l s d p : Int) (ts : List T1) (ps : List (Nat × Nat)) : List Value := ps.flatMap (pcs l s d p ts)
theorem cr_app (l s d p : Int) (ts : List T1) (ps : List (Nat × Nat)) (q : Nat × Nat) : cellsR l s d p ts ps ++ pcs l s d p ts q = cellsR l s d p ts (ps ++ [q]) := by simp [cellsR]
theorem cr_get (l s d p : Int) (ts : List T1) : ∀ (ps : List (Nat × Nat)) (i : Nat) (q : Nat × Nat), ps[i]? = some q → ∀ j u, (pcs l s d p ts q)[j]? = some u → (cellsR l s d p ts ps)[i * 8 + j]? = some u
  | [], i, q, h, _, _, _ => by simp at h
  | a :: ps, 0, q, h, j, u, hj => by
    simp at h; subst h
    have e : cellsR l s d p ts (a :: ps) = pcs l s d p ts a ++ cellsR l s d p ts ps := by simp [cellsR]
    have hl : (pcs l s d p ts a).length = 8 := rfl
    have := (List.getElem?_eq_some_iff.1 hj).1
    rw [e, List.getElem?_append_left (by omega), Nat.zero_mul, Nat.zero_add]; exact hj
  | a :: ps, i + 1, q, h, j, u, hj => by
    have := cr_get l s d p ts ps i q (by simpa using h) j u hj
    have e : cellsR l s d p ts (a :: ps) = pcs l s d p ts a ++ cellsR l s d p ts ps := by simp [cellsR]
    have hl : (pcs l s d p ts a).length = 8 := rfl
    rw [e, List.getElem?_append_right (by omega), hl, show (i + 1) * 8 + j - 8 = i * 8 + j by omega]
    exact this
end Go.Proofs.YtknelhceaoblhaaGreat.Prs
