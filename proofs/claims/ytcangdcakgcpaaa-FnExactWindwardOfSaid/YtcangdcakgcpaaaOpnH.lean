/- Reading a hull that came in by value: two structs of two numbers each and a number. Of no program. -/
import Derived.Test.YtcangdcakgcpaaaOpn5
namespace Go.Proofs.Ytcangdcakgcpaaa.OpnH
open Go.ChangeShapes Go.WideShapes Go.ChangeAt Go.RowKit Go.Deep
open Go.Proofs.Ytcangdcakgcpaaa.Opn5
set_option linter.unusedVariables false

section
variable {H : Type} {enc : TypeId × Value → H} {P : Program} {w : World} {base : Nat} {spare : Nat → Bool} {held : Bool}

theorem open_hull {r : Reach} {b0 : Nat} {t : TypeId} {f0 f1 f2 g0 g1 : Field} {v : Value} {d : DataW H} {p : List MemPlace} (hs : P.underlying t = some (.struct #[f0, f1, f2])) (hC : P.cellsOf t = 5)
    (l0 : Lay P f0 0 2) (l1 : Lay P f1 2 2) (l2 : Lay P f2 4 1) (hp : P.underlying f0.type = some (.struct #[g0, g1])) (hq : P.underlying f1.type = some (.struct #[g0, g1]))
    (k0 : Lay P g0 0 1) (k1 : Lay P g1 1 1) (i2 : P.underlying f2.type = some (.int .i64)) (j0 : P.underlying g0.type = some (.int .i64)) (j1 : P.underlying g1.type = some (.int .i64))
    (hv : Value.okWide P w r b0 t v) (h : DataW.Trod enc P w base spare held t v d p) :
    ∃ a b c x y : Int, v = .agg #[.int .i64 a, .int .i64 b, .int .i64 c, .int .i64 x, .int .i64 y] := by
  obtain ⟨cs, rfl, hsz⟩ := okWide_struct hs hv
  obtain ⟨fuel, hf⟩ := h
  obtain ⟨xs, n, _, _, hcl, hxl, hg⟩ := DataW.trod_struct hs hf
  rw [hC] at hcl
  simp only [Value.cells] at hcl hg
  obtain ⟨c0, c1, c2, c3, c4, hcs⟩ : ∃ c0 c1 c2 c3 c4, cs.toList = [c0, c1, c2, c3, c4] := by
    match cs.toList, hcl with
    | [c0, c1, c2, c3, c4], _ => exact ⟨c0, c1, c2, c3, c4, rfl⟩
  rw [hcs] at hg
  obtain ⟨z, rfl⟩ := cut_int (i := 2) l2 i2 rfl hxl rfl hg
  have r0 := hg 0 f0 rfl
  have r1 := hg 1 f1 rfl
  simp at hxl
  rw [l0.1, l0.2, List.getElem?_eq_getElem (by omega)] at r0
  rw [l1.1, l1.2, List.getElem?_eq_getElem (by omega)] at r1
  obtain ⟨a, b, e0⟩ := open_pt hp l0.2 k0 k1 j0 j1 r0
  obtain ⟨x, y, e1⟩ := open_pt hq l1.2 k0 k1 j0 j1 r1
  simp at e0 e1
  obtain ⟨rfl, rfl⟩ := e0
  obtain ⟨rfl, rfl⟩ := e1
  refine ⟨a, b, x, y, z, ?_⟩
  rw [← Array.toArray_toList (xs := cs), hcs]

end
end Go.Proofs.Ytcangdcakgcpaaa.OpnH
