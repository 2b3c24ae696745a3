/- Words on blocks of cells, of no program: a box that may be written, and what is left of it behind a call or a store. -/
import Derived.Test.YtknelhceaoblhaaDoorKit
namespace Go.Proofs.YtknelhceaoblhaaDoor.Kit
open Go.ChangeShapes Go.WideShapes Go.ChangeAt Go.RowKit

/-- Block n holds the values vs, and may be written. -/
def Box (w : World) (n : Nat) (vs : List Value) : Prop := ∀ i v, vs[i]? = some v → w.cell? ⟨n, i, none⟩ = some v ∧ w.frozen? ⟨n, i, none⟩ = false

theorem Box.new {w : World} {vs : List Value} {t : TypeId} {n : Nat} (hn : w.heap.size = n) : Box (w.alloc (.cells vs.toArray t)) n vs :=
  fun i v h => ⟨boxed i (by simpa using h) hn, thawed i hn⟩
theorem Box.new2 {w : World} {x y : Value} {t : TypeId} {n : Nat} (hn : w.heap.size = n) : Box (w.alloc (.cells #[x, y] t)) n [x, y] := Box.new hn
theorem Box.new4 {w : World} {x y z u : Value} {t : TypeId} {n : Nat} (hn : w.heap.size = n) : Box (w.alloc (.cells #[x, y, z, u] t)) n [x, y, z, u] := Box.new hn
theorem Box.ext {w w' : World} {n : Nat} {vs : List Value} (h : Box w n vs) (k : Ext w w') : Box w' n vs :=
  fun i v hv => ⟨k.cellOf (h i v hv).1, k.thawOf (h i v hv).1 (h i v hv).2⟩
theorem Box.chg {w w' : World} {n B : Nat} {vs : List Value} (h : Box w n vs) (k : Chg B w w') (hB : n ≠ B) : Box w' n vs :=
  fun i v hv => ⟨k.cellOf hB (h i v hv).1, k.thawOf hB (h i v hv).1 (h i v hv).2⟩
theorem Box.alloc {w : World} {n : Nat} {vs : List Value} (h : Box w n vs) (o : Obj) : Box (w.alloc o) n vs := h.ext ((Ext.refl w).alloc o)
theorem Box.drew {w : World} {n : Nat} {vs : List Value} (h : Box w n vs) : Box w.drew n vs := h.ext (Ext.refl w).drew
theorem Box.drewN {w : World} {n : Nat} {vs : List Value} (h : Box w n vs) (k : Nat) : Box (w.drewN k) n vs := h.ext ((Ext.refl w).drewN k)
theorem Box.away {w : World} {n : Nat} {vs : List Value} (h : Box w n vs) {p : Addr} (hp : p.block ≠ n) (u : Value) : Box (w.setCell p u) n vs :=
  fun i v hv => ⟨by rw [World.cell?_setCell_other _ _ _ _ (fun he => hp (by rw [he]))]; exact (h i v hv).1, by rw [World.frozen?_setCell]; exact (h i v hv).2⟩
theorem Box.set {w : World} {n : Nat} {vs : List Value} (h : Box w n vs) (i : Nat) (hi : i < vs.length) (u : Value) : Box (w.setCell ⟨n, i, none⟩ u) n (vs.set i u) := by
  intro j v hv
  rw [List.getElem?_set] at hv
  by_cases hj : i = j
  · subst hj
    rw [if_pos rfl, if_pos hi] at hv
    cases hv
    exact ⟨World.cell?_setCell_same _ _ _ (h i _ (List.getElem?_eq_getElem hi)).1, by rw [World.frozen?_setCell]; exact (h i _ (List.getElem?_eq_getElem hi)).2⟩
  · rw [if_neg hj] at hv
    exact ⟨by rw [World.cell?_setCell_other _ _ _ _ (by simp)]; exact (h j v hv).1, by rw [World.frozen?_setCell]; exact (h j v hv).2⟩
theorem Box.set2 {w : World} {n : Nat} {x y u v : Value} (h : Box w n [x, y]) : Box ((w.setCell ⟨n, 0, none⟩ u).setCell ⟨n, 1, none⟩ v) n [u, v] := (h.set 0 (by simp) u).set 1 (by simp) v
theorem Box.set4 {w : World} {n : Nat} {x y z r a b c d : Value} (h : Box w n [x, y, z, r]) : Box ((((w.setCell ⟨n, 0, none⟩ a).setCell ⟨n, 1, none⟩ b).setCell ⟨n, 2, none⟩ c).setCell ⟨n, 3, none⟩ d) n [a, b, c, d] :=
  (((h.set 0 (by simp) a).set 1 (by simp) b).set 2 (by simp) c).set 3 (by simp) d
theorem Box.away2 {w : World} {n m i j : Nat} {vs : List Value} {u v : Value} (h : Box w n vs) (hm : m ≠ n) : Box ((w.setCell ⟨m, i, none⟩ u).setCell ⟨m, j, none⟩ v) n vs := (h.away hm u).away hm v
theorem Box.two {w : World} {n : Nat} {x y : Value} (h : Box w n [x, y]) : (w.cell? ⟨n, 0, none⟩ = some x ∧ w.cell? ⟨n, 1, none⟩ = some y) ∧ w.frozen? ⟨n, 0, none⟩ = false ∧ w.frozen? ⟨n, 1, none⟩ = false :=
  ⟨⟨(h 0 x rfl).1, (h 1 y rfl).1⟩, (h 0 x rfl).2, (h 1 y rfl).2⟩
theorem Box.four {w : World} {n : Nat} {x y z u : Value} (h : Box w n [x, y, z, u]) : (w.cell? ⟨n, 0, none⟩ = some x ∧ w.cell? ⟨n, 1, none⟩ = some y ∧ w.cell? ⟨n, 2, none⟩ = some z ∧ w.cell? ⟨n, 3, none⟩ = some u) ∧
    w.frozen? ⟨n, 0, none⟩ = false ∧ w.frozen? ⟨n, 1, none⟩ = false ∧ w.frozen? ⟨n, 2, none⟩ = false ∧ w.frozen? ⟨n, 3, none⟩ = false :=
  ⟨⟨(h 0 x rfl).1, (h 1 y rfl).1, (h 2 z rfl).1, (h 3 u rfl).1⟩, (h 0 x rfl).2, (h 1 y rfl).2, (h 2 z rfl).2, (h 3 u rfl).2⟩
theorem Box.lt {w : World} {n : Nat} {x : Value} {vs : List Value} (h : Box w n (x :: vs)) : n < w.heap.size := World.block_lt_of_cell? w _ (h 0 x rfl).1

theorem drew_size (w : World) : w.drew.heap.size = w.heap.size := rfl
/-- A pair of numbers that was made new ahead of a call. -/
theorem Ext.newBox {X w1 : World} {t : TypeId} {x y : Value} (h : Ext (X.alloc (.cells #[x, y] t)) w1) {m : Nat} (hm : m ≤ X.heap.size) : Box w1 X.heap.size [x, y] ∧ m ≤ X.heap.size := ⟨(Box.new2 rfl).ext h, hm⟩

end Go.Proofs.YtknelhceaoblhaaDoor.Kit
