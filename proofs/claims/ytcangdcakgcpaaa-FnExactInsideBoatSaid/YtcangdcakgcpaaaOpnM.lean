/- Reading a mark that came in by value. Of no program. -/
import Derived.Test.YtcangdcakgcpaaaOpnC
namespace Go.Proofs.Ytcangdcakgcpaaa.Crs
open Go.ChangeShapes Go.WideShapes Go.ChangeAt Go.RowKit Go.Deep
open Go.Proofs.Ytcangdcakgcpaaa.Kit
set_option linter.unusedVariables false

section
variable {H : Type} {enc : TypeId × Value → H} {P : Program} {w : World} {base : Nat} {spare : Nat → Bool} {held : Bool}

theorem open_markv {r : Reach} {b0 : Nat} {t : TypeId} {f0 f1 f2 f3 g0 g1 : Field} {v : Value} {d : DataW H} {p : List MemPlace} (hs : P.underlying t = some (.struct #[f0, f1, f2, f3])) (hC : P.cellsOf t = 5)
    (l0 : Lay P f0 0 1) (l1 : Lay P f1 1 2) (l2 : Lay P f2 3 1) (l3 : Lay P f3 4 1) (hn : P.underlying f0.type = some .string) (hp : P.underlying f1.type = some (.struct #[g0, g1]))
    (k0 : Lay P g0 0 1) (k1 : Lay P g1 1 1) (i0 : P.underlying g0.type = some (.int .i64)) (i1 : P.underlying g1.type = some (.int .i64)) (i2 : P.underlying f2.type = some (.int .i64)) (i3 : P.underlying f3.type = some (.int .i64))
    (hv : Value.okWide P w r b0 t v) (h : DataW.Trod enc P w base spare held t v d p) :
    ∃ (n : ByteArray) (x y s z : Int), v = MkV n x y s z ∧ n.size ≤ maxLen := by
  obtain ⟨cs, rfl, hsz⟩ := okWide_struct hs hv
  obtain ⟨fuel, hf⟩ := h
  obtain ⟨m, hm, hl⟩ := open_mark hs hC l0 l1 l2 l3 hn hp k0 k1 i0 i1 i2 i3 hf
  refine ⟨m.n, m.x, m.y, m.s, m.z, ?_, hl⟩
  simp only [Value.cells] at hm
  rw [← Array.toArray_toList (xs := cs), hm]

end
end Go.Proofs.Ytcangdcakgcpaaa.Crs
