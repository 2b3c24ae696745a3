/- Words on a result's box that is written while a region draws its order, of no program. -/
import Derived.Test.YtknelhceaoblhaaDoorCel
namespace Go.Proofs.YtknelhceaoblhaaDoor.Kit
open Go.ChangeShapes Go.WideShapes Go.ChangeAt Go.RowKit

/-- The world w' is W with new blocks; block n, none of W's, has k cells that may be written. -/
def Res (W : World) (n k : Nat) (w' : World) : Prop := Ext W w' ∧ W.heap.size ≤ n ∧ ∀ i, i < k → ∃ v, w'.cell? ⟨n, i, none⟩ = some v ∧ w'.frozen? ⟨n, i, none⟩ = false
theorem Res.new {W : World} {vs : List Value} {t : TypeId} {n : Nat} (hn : W.heap.size = n) (k : Nat) (hk : vs.length = k) : Res W n k (W.alloc (.cells vs.toArray t)) :=
  ⟨(Ext.refl W).alloc _, by omega, fun i hi => ⟨vs[i]'(by omega), boxed i (by simp) hn, thawed i hn⟩⟩
theorem Res.new2 {W : World} {x y : Value} {t : TypeId} : Res W W.heap.size 2 (W.alloc (.cells #[x, y] t)) := Res.new rfl 2 rfl
theorem Res.new4 {W : World} {x y z u : Value} {t : TypeId} : Res W W.heap.size 4 (W.alloc (.cells #[x, y, z, u] t)) := Res.new rfl 4 rfl
theorem Res.ext {W : World} {n k : Nat} {a b : World} (h : Res W n k a) (x : Ext a b) : Res W n k b :=
  ⟨h.1.trans x, h.2.1, fun i hi => by obtain ⟨v, c, f⟩ := h.2.2 i hi; exact ⟨v, x.cellOf c, x.thawOf c f⟩⟩
theorem Res.drew {W : World} {n k : Nat} {a : World} (h : Res W n k a) : Res W n k a.drew := h.ext (Ext.refl a).drew
theorem Res.set {W : World} {n k : Nat} {a : World} (h : Res W n k a) (i : Nat) (u : Value) : Res W n k (a.setCell ⟨n, i, none⟩ u) := by
  refine ⟨h.1.setNew h.2.1 u, h.2.1, fun j hj => ?_⟩
  obtain ⟨v, c, f⟩ := h.2.2 j hj
  by_cases e : i = j
  · subst e; exact ⟨u, World.cell?_setCell_same _ _ _ c, by rw [World.frozen?_setCell]; exact f⟩
  · exact ⟨v, by rw [World.cell?_setCell_other _ _ _ _ (by simp <;> omega)]; exact c, by rw [World.frozen?_setCell]; exact f⟩
theorem Res.two {W : World} {n : Nat} {a : World} (h : Res W n 2 a) : ∃ x y, Box a n [x, y] := by
  obtain ⟨x, c0, f0⟩ := h.2.2 0 (by omega)
  obtain ⟨y, c1, f1⟩ := h.2.2 1 (by omega)
  refine ⟨x, y, fun i v hv => ?_⟩
  match i, hv with
  | 0, hv => simp at hv; subst hv; exact ⟨c0, f0⟩
  | 1, hv => simp at hv; subst hv; exact ⟨c1, f1⟩
theorem Res.four {W : World} {n : Nat} {a : World} (h : Res W n 4 a) : ∃ x y z u, Box a n [x, y, z, u] := by
  obtain ⟨x, c0, f0⟩ := h.2.2 0 (by omega)
  obtain ⟨y, c1, f1⟩ := h.2.2 1 (by omega)
  obtain ⟨z, c2, f2⟩ := h.2.2 2 (by omega)
  obtain ⟨u, c3, f3⟩ := h.2.2 3 (by omega)
  refine ⟨x, y, z, u, fun i v hv => ?_⟩
  match i, hv with
  | 0, hv => simp at hv; subst hv; exact ⟨c0, f0⟩
  | 1, hv => simp at hv; subst hv; exact ⟨c1, f1⟩
  | 2, hv => simp at hv; subst hv; exact ⟨c2, f2⟩
  | 3, hv => simp at hv; subst hv; exact ⟨c3, f3⟩

/-- So, and a box m beside it holds the values vs. -/
def ResB (W : World) (n k m : Nat) (vs : List Value) (w' : World) : Prop := Res W n k w' ∧ m ≠ n ∧ Box w' m vs
theorem ResB.ext {W : World} {n k m : Nat} {vs : List Value} {a b : World} (h : ResB W n k m vs a) (x : Ext a b) : ResB W n k m vs b := ⟨h.1.ext x, h.2.1, h.2.2.ext x⟩
theorem ResB.drew {W : World} {n k m : Nat} {vs : List Value} {a : World} (h : ResB W n k m vs a) : ResB W n k m vs a.drew := h.ext (Ext.refl a).drew
theorem ResB.set {W : World} {n k m : Nat} {vs : List Value} {a : World} (h : ResB W n k m vs a) (i : Nat) (u : Value) : ResB W n k m vs (a.setCell ⟨n, i, none⟩ u) :=
  ⟨h.1.set i u, h.2.1, h.2.2.away (by simpa using fun e => h.2.1 e.symm) u⟩

/-- The world w' is WL but for block n and new blocks; block n has k cells that may be written. -/
def ResC (WL : World) (n k : Nat) (w' : World) : Prop := Chg n WL w' ∧ ∀ i, i < k → ∃ v, w'.cell? ⟨n, i, none⟩ = some v ∧ w'.frozen? ⟨n, i, none⟩ = false
theorem ResC.of2 {WL : World} {n : Nat} {x y : Value} (h : Box WL n [x, y]) : ResC WL n 2 WL :=
  ⟨Chg.refl _ _, fun i hi => match i, hi with
    | 0, _ => ⟨x, h 0 x rfl⟩
    | 1, _ => ⟨y, h 1 y rfl⟩⟩
theorem ResC.ext {WL : World} {n k : Nat} {a b : World} (h : ResC WL n k a) (x : Ext a b) : ResC WL n k b :=
  ⟨h.1.trans (Chg.of_ext x), fun i hi => by obtain ⟨v, c, f⟩ := h.2 i hi; exact ⟨v, x.cellOf c, x.thawOf c f⟩⟩
theorem ResC.drew {WL : World} {n k : Nat} {a : World} (h : ResC WL n k a) : ResC WL n k a.drew := h.ext (Ext.refl a).drew
theorem ResC.set {WL : World} {n k : Nat} {a : World} (h : ResC WL n k a) (i : Nat) (u : Value) : ResC WL n k (a.setCell ⟨n, i, none⟩ u) := by
  refine ⟨h.1.setCell i u, fun j hj => ?_⟩
  obtain ⟨v, c, f⟩ := h.2 j hj
  by_cases e : i = j
  · subst e; exact ⟨u, World.cell?_setCell_same _ _ _ c, by rw [World.frozen?_setCell]; exact f⟩
  · exact ⟨v, by rw [World.cell?_setCell_other _ _ _ _ (by simp <;> omega)]; exact c, by rw [World.frozen?_setCell]; exact f⟩
theorem ResC.cell {WL : World} {n k : Nat} {a : World} (h : ResC WL n k a) {p : Addr} {v : Value} (hp : p.block ≠ n) (hc : WL.cell? p = some v) : a.cell? p = some v := h.1.cellOf hp hc
theorem ResC.to {w WL : World} {n k : Nat} {a : World} (h : ResC WL n k a) (x : Ext w WL) (hn : w.heap.size ≤ n) : Ext w a := h.1.ext x hn
theorem ResC.two {WL : World} {n : Nat} {a : World} (h : ResC WL n 2 a) : ∃ x y, Box a n [x, y] := by
  obtain ⟨x, c0, f0⟩ := h.2 0 (by omega)
  obtain ⟨y, c1, f1⟩ := h.2 1 (by omega)
  refine ⟨x, y, fun i v hv => ?_⟩
  match i, hv with
  | 0, hv => simp at hv; subst hv; exact ⟨c0, f0⟩
  | 1, hv => simp at hv; subst hv; exact ⟨c1, f1⟩
theorem Box.new3 {w : World} {x y z : Value} {t : TypeId} {n : Nat} (hn : w.heap.size = n) : Box (w.alloc (.cells #[x, y, z] t)) n [x, y, z] := Box.new hn

end Go.Proofs.YtknelhceaoblhaaDoor.Kit
