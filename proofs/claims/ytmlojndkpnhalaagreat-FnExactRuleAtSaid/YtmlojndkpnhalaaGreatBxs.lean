import Derived.Test.YtmlojndkpnhalaaGreatMKit
import Derived.Test.YtmlojndkpnhalaaGreatRes5
namespace Go.Proofs.YtmlojndkpnhalaaGreat.Kit
open Go.ChangeShapes Go.WideShapes Go.ChangeAt Go.RowKit
structure BX (w : World) (B : Nat) (L : List (Nat × List Value)) (u : World) : Prop where
  chg : Chg B w u
  box : ∀ (i : Nat) (p : Nat × List Value), L[i]? = some p → Box u p.1 p.2
  new : ∀ (i : Nat) (p : Nat × List Value), L[i]? = some p → w.heap.size ≤ p.1 ∧ p.1 ≠ B
  nd : (L.map Prod.fst).Nodup
  lt : ∀ (i : Nat) (p : Nat × List Value), L[i]? = some p → p.1 < u.heap.size
theorem BX.nil (w : World) (B : Nat) : BX w B [] w := ⟨Chg.refl _ _, fun i p h => by simp at h, fun i p h => by simp at h, by simp, fun i p h => by simp at h⟩
theorem BX.drew {w : World} {B : Nat} {L : List (Nat × List Value)} {u : World} (h : BX w B L u) : BX w B L u.drew := ⟨h.chg.drew, fun i p e => (h.box i p e).drew, h.new, h.nd, h.lt⟩
theorem BX.step {w : World} {B : Nat} {L : List (Nat × List Value)} {u v : World} (h : BX w B L u) (k : Chg B u v) : BX w B L v :=
  ⟨h.chg.trans k, fun i p e => (h.box i p e).chg k (h.new i p e).2, h.new, h.nd, fun i p e => Nat.lt_of_lt_of_le (h.lt i p e) k.size⟩
theorem BX.ext {w : World} {B : Nat} {L : List (Nat × List Value)} {u v : World} (h : BX w B L u) (k : Ext u v) : BX w B L v :=
  ⟨h.chg.trans (Chg.of_ext k), fun i p e => (h.box i p e).ext k, h.new, h.nd, fun i p e => Nat.lt_of_lt_of_le (h.lt i p e) (Ext.size k)⟩
theorem BX.to {w a : World} {B : Nat} {L : List (Nat × List Value)} {u : World} (h : BX w B L u) (x : Ext a w) (hB : a.heap.size ≤ B) : Ext a u := h.chg.ext x hB
theorem BX.cell {w : World} {B : Nat} {L : List (Nat × List Value)} {u : World} (h : BX w B L u) (i j : Nat) {n : Nat} {vs : List Value} {v : Value} (hi : L[i]? = some (n, vs)) (hj : vs[j]? = some v) : u.cell? ⟨n, j, none⟩ = some v :=
  (h.box i _ hi j v hj).1
theorem BX.add {w : World} {B : Nat} {L : List (Nat × List Value)} {u : World} (h : BX w B L u) (vs : List Value) (t : TypeId) {n : Nat} (hn : u.heap.size = n) (hB : n ≠ B) : BX w B (L ++ [(n, vs)]) (u.alloc (.cells vs.toArray t)) := by
  subst hn
  have hx : Ext u (u.alloc (.cells vs.toArray t)) := (Ext.refl u).alloc _
  have hw : w.heap.size ≤ u.heap.size := h.chg.size
  have key : ∀ i p, (L ++ [(u.heap.size, vs)])[i]? = some p → L[i]? = some p ∨ p = (u.heap.size, vs) := fun i p e => by
    by_cases hi : i < L.length
    · rw [List.getElem?_append_left hi] at e; exact .inl e
    · rw [List.getElem?_append_right (by omega)] at e
      cases hj : i - L.length with
      | zero => rw [hj] at e; simp at e; exact .inr e.symm
      | succ j => rw [hj] at e; simp at e
  refine ⟨h.chg.alloc _, fun i p e => ?_, fun i p e => ?_, ?_, fun i p e => ?_⟩
  · rcases key i p e with e | rfl
    · exact (h.box i p e).ext hx
    · exact Box.new rfl
  · rcases key i p e with e | rfl
    · exact h.new i p e
    · exact ⟨hw, by simp only; omega⟩
  · rw [List.map_append, List.nodup_append]
    refine ⟨h.nd, by simp, fun a ha b hb => ?_⟩
    simp at hb
    subst hb
    obtain ⟨p, hp, rfl⟩ := List.mem_map.1 ha
    obtain ⟨i, hi⟩ := List.getElem?_of_mem hp
    have := h.lt i p hi
    omega
  · rcases key i p e with e | rfl
    · exact Nat.lt_of_lt_of_le (h.lt i p e) (Ext.size hx)
    · simp
theorem BX.put {w : World} {B : Nat} {L : List (Nat × List Value)} {u : World} (h : BX w B L u) (i j : Nat) {n : Nat} {vs : List Value} (hi : L[i]? = some (n, vs)) (hj : j < vs.length) (v : Value) : BX w B (L.set i (n, vs.set j v)) (u.setCell ⟨n, j, none⟩ v) := by
  have hlt := (List.getElem?_eq_some_iff.1 hi).1
  have hfst : (L.set i (n, vs.set j v)).map Prod.fst = L.map Prod.fst := by
    rw [List.map_set]
    apply List.ext_getElem?
    intro k
    rw [List.getElem?_set]
    split
    · rename_i e; subst e
      split
      · rw [List.getElem?_map, hi]; rfl
      · rename_i hk; rw [List.length_map] at hk; exact absurd hlt hk
    · rfl
  refine ⟨h.chg.setNew (h.new i _ hi).1 v, fun k p hk => ?_, fun k p hk => ?_, by rw [hfst]; exact h.nd, fun k p hk => ?_⟩
  · rw [List.getElem?_set] at hk
    split at hk
    · rename_i e; subst e
      (try rw [if_pos hlt] at hk)
      cases hk
      exact (h.box i _ hi).set j hj v
    · rename_i e
      refine (h.box k p hk).away (p := ⟨n, j, none⟩) ?_ v
      intro e2
      have hk2 := (List.getElem?_eq_some_iff.1 hk).1
      have g1 : (L.map Prod.fst)[i]? = some n := by rw [List.getElem?_map, hi]; rfl
      have g2 : (L.map Prod.fst)[k]? = some n := by rw [List.getElem?_map, hk]; exact congrArg some e2.symm
      exact e ((List.getElem?_inj (by rw [List.length_map]; exact hlt) h.nd).1 (g1.trans g2.symm))
  · rw [List.getElem?_set] at hk
    split at hk
    · rename_i e; subst e
      (try rw [if_pos hlt] at hk)
      cases hk
      exact h.new i (n, vs) hi
    · exact h.new k p hk
  · have hz : (u.setCell ⟨n, j, none⟩ v).heap.size = u.heap.size := by simp [World.setCell]
    rw [hz]
    rw [List.getElem?_set] at hk
    split at hk
    · rename_i e; subst e
      (try rw [if_pos hlt] at hk)
      cases hk
      exact h.lt i (n, vs) hi
    · exact h.lt k p hk
end Go.Proofs.YtmlojndkpnhalaaGreat.Kit
