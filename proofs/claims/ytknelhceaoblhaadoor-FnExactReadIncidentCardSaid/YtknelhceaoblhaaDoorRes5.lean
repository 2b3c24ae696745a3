/- Words on a result's box of three and of five cells, of no program. -/
import Derived.Test.YtknelhceaoblhaaDoorRes
namespace Go.Proofs.YtknelhceaoblhaaDoor.Kit
open Go.ChangeShapes Go.WideShapes Go.ChangeAt Go.RowKit

theorem Res.three {W : World} {n : Nat} {a : World} (h : Res W n 3 a) : ∃ x y z, Box a n [x, y, z] := by
  obtain ⟨x, c0, f0⟩ := h.2.2 0 (by omega)
  obtain ⟨y, c1, f1⟩ := h.2.2 1 (by omega)
  obtain ⟨z, c2, f2⟩ := h.2.2 2 (by omega)
  refine ⟨x, y, z, fun i v hv => ?_⟩
  match i, hv with
  | 0, hv => simp at hv; subst hv; exact ⟨c0, f0⟩
  | 1, hv => simp at hv; subst hv; exact ⟨c1, f1⟩
  | 2, hv => simp at hv; subst hv; exact ⟨c2, f2⟩
theorem Res.five {W : World} {n : Nat} {a : World} (h : Res W n 5 a) : ∃ x y z u r, Box a n [x, y, z, u, r] := by
  obtain ⟨x, c0, f0⟩ := h.2.2 0 (by omega)
  obtain ⟨y, c1, f1⟩ := h.2.2 1 (by omega)
  obtain ⟨z, c2, f2⟩ := h.2.2 2 (by omega)
  obtain ⟨u, c3, f3⟩ := h.2.2 3 (by omega)
  obtain ⟨r, c4, f4⟩ := h.2.2 4 (by omega)
  refine ⟨x, y, z, u, r, fun i v hv => ?_⟩
  match i, hv with
  | 0, hv => simp at hv; subst hv; exact ⟨c0, f0⟩
  | 1, hv => simp at hv; subst hv; exact ⟨c1, f1⟩
  | 2, hv => simp at hv; subst hv; exact ⟨c2, f2⟩
  | 3, hv => simp at hv; subst hv; exact ⟨c3, f3⟩
  | 4, hv => simp at hv; subst hv; exact ⟨c4, f4⟩
theorem Res.new3 {W : World} {x y z : Value} {t : TypeId} : Res W W.heap.size 3 (W.alloc (.cells #[x, y, z] t)) := Res.new rfl 3 rfl
theorem Res.new5 {W : World} {x y z u r : Value} {t : TypeId} : Res W W.heap.size 5 (W.alloc (.cells #[x, y, z, u, r] t)) := Res.new rfl 5 rfl
theorem Box.new5 {w : World} {x y z u r : Value} {t : TypeId} {n : Nat} (hn : w.heap.size = n) : Box (w.alloc (.cells #[x, y, z, u, r] t)) n [x, y, z, u, r] := Box.new hn
theorem Box.three' {w : World} {n : Nat} {x y z : Value} (h : Box w n [x, y, z]) : (w.cell? ⟨n, 0, none⟩ = some x ∧ w.cell? ⟨n, 1, none⟩ = some y ∧ w.cell? ⟨n, 2, none⟩ = some z) ∧ w.frozen? ⟨n, 0, none⟩ = false ∧ w.frozen? ⟨n, 1, none⟩ = false ∧ w.frozen? ⟨n, 2, none⟩ = false :=
  ⟨⟨(h 0 x rfl).1, (h 1 y rfl).1, (h 2 z rfl).1⟩, (h 0 x rfl).2, (h 1 y rfl).2, (h 2 z rfl).2⟩
theorem Box.five {w : World} {n : Nat} {x y z u r : Value} (h : Box w n [x, y, z, u, r]) : (w.cell? ⟨n, 0, none⟩ = some x ∧ w.cell? ⟨n, 1, none⟩ = some y ∧ w.cell? ⟨n, 2, none⟩ = some z ∧ w.cell? ⟨n, 3, none⟩ = some u ∧ w.cell? ⟨n, 4, none⟩ = some r) ∧
    w.frozen? ⟨n, 0, none⟩ = false ∧ w.frozen? ⟨n, 1, none⟩ = false ∧ w.frozen? ⟨n, 2, none⟩ = false ∧ w.frozen? ⟨n, 3, none⟩ = false ∧ w.frozen? ⟨n, 4, none⟩ = false :=
  ⟨⟨(h 0 x rfl).1, (h 1 y rfl).1, (h 2 z rfl).1, (h 3 u rfl).1, (h 4 r rfl).1⟩, (h 0 x rfl).2, (h 1 y rfl).2, (h 2 z rfl).2, (h 3 u rfl).2, (h 4 r rfl).2⟩
theorem Box.set3 {w : World} {n : Nat} {x y z a b c : Value} (h : Box w n [x, y, z]) : Box (((w.setCell ⟨n, 0, none⟩ a).setCell ⟨n, 1, none⟩ b).setCell ⟨n, 2, none⟩ c) n [a, b, c] :=
  ((h.set 0 (by simp) a).set 1 (by simp) b).set 2 (by simp) c
theorem Box.set5 {w : World} {n : Nat} {x y z u r a b c d e : Value} (h : Box w n [x, y, z, u, r]) : Box (((((w.setCell ⟨n, 0, none⟩ a).setCell ⟨n, 1, none⟩ b).setCell ⟨n, 2, none⟩ c).setCell ⟨n, 3, none⟩ d).setCell ⟨n, 4, none⟩ e) n [a, b, c, d, e] :=
  ((((h.set 0 (by simp) a).set 1 (by simp) b).set 2 (by simp) c).set 3 (by simp) d).set 4 (by simp) e

end Go.Proofs.YtknelhceaoblhaaDoor.Kit
