/- KeeperCounts (chapter 12): words. No program is named here. -/
import Derived.Test.YtknelhceaoblhaaNum
import Derived.Test.YtknelhceaoblhaaIv0
namespace Go.Proofs.Ytknelhceaoblhaa.Kpw
open Go.Proofs.Ytknelhceaoblhaa.Num Go.Proofs.Ytknelhceaoblhaa.Iv
set_option linter.unusedVariables false
set_option linter.unusedSimpArgs false

/-- How many incidents have the boat j as keeper. -/
def kpN (xs : List I5) (j : Nat) : Nat := xs.countP fun x => x.k == (j : Int)
def kpZ (b : Nat) (xs : List I5) : List Int := (List.range b).map fun j => (kpN xs j : Int)
theorem kz_len (b : Nat) (xs : List I5) : (kpZ b xs).length = b := by simp [kpZ]
theorem kz_at {b : Nat} {xs : List I5} {j : Nat} (h : j < b) : (kpZ b xs)[j]? = some (kpN xs j : Int) := by simp [kpZ, h]
theorem kn_le (xs : List I5) (j : Nat) : kpN xs j ≤ xs.length := List.countP_le_length
theorem kz_nil (b : Nat) : kpZ b [] = List.replicate b 0 := by
  unfold kpZ
  apply List.ext_getElem?
  intro j
  by_cases h : j < b
  · simp [h, kpN]
  · rw [List.getElem?_eq_none (by simp; omega), List.getElem?_eq_none (by simp; omega)]
theorem kz_none {b : Nat} {xs : List I5} {x : I5} (h : x.k = -1) : kpZ b (xs ++ [x]) = kpZ b xs := by
  unfold kpZ
  refine List.map_congr_left fun j _ => ?_
  unfold kpN
  rw [List.countP_append, List.countP_cons_of_neg (by simp [h] <;> omega)]
  rfl
theorem kz_some {b : Nat} {xs : List I5} {x : I5} {j : Nat} (h : x.k = (j : Int)) (hj : j < b) : kpZ b (xs ++ [x]) = (kpZ b xs).set j ((kpN xs j : Int) + 1) := by
  apply List.ext_getElem?
  intro i
  by_cases hi : i < b
  · rw [kz_at hi, List.getElem?_set]
    by_cases e : j = i
    · subst e
      rw [if_pos rfl, kz_len, if_pos hj]
      unfold kpN
      rw [List.countP_append, List.countP_cons_of_pos (by simp [h])]
      simp
    · rw [if_neg e, kz_at hi]
      unfold kpN
      rw [List.countP_append, List.countP_cons_of_neg (by simp [h] <;> omega)]
      simp
  · rw [List.getElem?_eq_none (by rw [kz_len]; omega), List.getElem?_eq_none (by rw [List.length_set, kz_len]; omega)]
/-- May this keeper stand? -/
def okK (b : Int) (x : I5) : Bool := inB x.k (-1) (b - 1)
def kpG (b : Int) (xs : List I5) : Bool := inB b 1 16 && xs.all (okK b)
def kpC (b : Int) (xs : List I5) : Int := if kpG b xs = true then 0 else 2
/-- What KeeperCounts answers. -/
def kpL (b : Int) (xs : List I5) : List Int := if kpG b xs = true then kpZ b.toNat xs else []
theorem kg_no {b : Int} {xs : List I5} (h : inB b 1 16 = false) : kpC b xs = 2 ∧ kpL b xs = [] := by
  have g : kpG b xs = false := by unfold kpG; rw [h]; rfl
  unfold kpC kpL; rw [g]; exact ⟨rfl, rfl⟩
theorem kg_bad {b : Int} {xs : List I5} {j : Nat} (hj : j < xs.length) (h : okK b (ix xs j) = false) : kpC b xs = 2 ∧ kpL b xs = [] := by
  have g : kpG b xs = false := by
    unfold kpG
    rw [show xs.all (okK b) = false from List.all_eq_false.2 ⟨ix xs j, List.mem_of_getElem? (ix_at hj), by simp [h]⟩]
    simp
  unfold kpC kpL; rw [g]; exact ⟨rfl, rfl⟩
theorem kg_yes {b : Int} {xs : List I5} (h1 : inB b 1 16 = true) (h2 : ∀ j, j < xs.length → okK b (ix xs j) = true) : kpC b xs = 0 ∧ kpL b xs = kpZ b.toNat xs := by
  have g : kpG b xs = true := by
    unfold kpG
    rw [h1, show xs.all (okK b) = true from List.all_eq_true.2 fun x hx => by
      obtain ⟨i, hi, rfl⟩ := List.mem_iff_getElem.1 hx
      have := h2 i hi
      unfold ix at this
      rw [List.getD_eq_getElem?_getD, List.getElem?_eq_getElem hi] at this
      exact this]
    rfl
  unfold kpC kpL; rw [g]; exact ⟨rfl, rfl⟩
theorem kp_take {xs : List I5} {i : Nat} (h : i < xs.length) : xs.take (i + 1) = xs.take i ++ [ix xs i] := by
  rw [List.take_succ_eq_append_getElem h]
  unfold ix
  rw [List.getD_eq_getElem?_getD, List.getElem?_eq_getElem h]; rfl
theorem kl_len (b : Int) (xs : List I5) : (kpL b xs).length ≤ 16 := by
  unfold kpL
  split
  · rename_i h
    unfold kpG at h
    rw [Bool.and_eq_true] at h
    have := of_inB h.1
    rw [kz_len]; omega
  · simp

end Go.Proofs.Ytknelhceaoblhaa.Kpw
