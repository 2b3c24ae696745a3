/- Reading a segment that came in by value: a struct of two structs of two numbers each. Of no program. -/
import Derived.Lib.SmallJoins
import Derived.OpenShut
namespace Go.Proofs.Ytcangdcakgcpaaa.Opn
open Go.ChangeShapes Go.WideShapes Go.ChangeAt Go.RowKit Go.Deep

theorem open_seg {H : Type} {enc : TypeId × Value → H} {P : Program} {w : World} {base : Nat} {spare : Nat → Bool} {held : Bool} {r : Reach} {b0 : Nat} {t : TypeId} {f0 f1 g0 g1 k0 k1 : Field} {v : Value} {d : DataW H} {p : List MemPlace}
    (hs : P.underlying t = some (.struct #[f0, f1])) (hs0 : P.underlying f0.type = some (.struct #[g0, g1])) (hs1 : P.underlying f1.type = some (.struct #[k0, k1]))
    (hC : P.cellsOf t = 4) (o0 : f0.offset = 0) (o1 : f1.offset = 2) (n0 : P.cellsOf f0.type = 2) (n1 : P.cellsOf f1.type = 2) (q0 : oneCellFields P #[g0, g1] = true) (q1 : oneCellFields P #[k0, k1] = true)
    (i0 : P.underlying g0.type = some (.int .i64)) (i1 : P.underlying g1.type = some (.int .i64)) (i2 : P.underlying k0.type = some (.int .i64)) (i3 : P.underlying k1.type = some (.int .i64))
    (hv : Value.okWide P w r b0 t v) (h : DataW.Trod enc P w base spare held t v d p) :
    ∃ a b c e : Int, v = .agg #[.int .i64 a, .int .i64 b, .int .i64 c, .int .i64 e] := by
  obtain ⟨cs, rfl, hsz⟩ := okWide_struct hs hv
  obtain ⟨c0, c1, c2, c3, rfl⟩ := Joins.array4 (hsz.trans hC)
  obtain ⟨fuel, hf⟩ := h
  obtain ⟨y0, y1, n, hx, _, h0, h1⟩ := trod_struct2 hs hf
  simp [Value.cells, o0, n0] at h0
  simp [Value.cells, o1, n1] at h1
  obtain ⟨z0, z1, m, _, _, h2, h3⟩ := trod_struct2 hs0 h0
  obtain ⟨z2, z3, m2, _, _, h4, h5⟩ := trod_struct2 hs1 h1
  obtain ⟨a0, b0⟩ := hone_of q0 0 g0 rfl
  obtain ⟨a1, b1⟩ := hone_of q0 1 g1 rfl
  obtain ⟨a2, b2⟩ := hone_of q1 0 k0 rfl
  obtain ⟨a3, b3⟩ := hone_of q1 1 k1 rfl
  simp [a0, b0] at h2
  simp [a1, b1] at h3
  simp [a2, b2] at h4
  simp [a3, b3] at h5
  obtain ⟨x0, e0, _, _⟩ := DataW.trod_int i0 h2
  obtain ⟨x1, e1, _, _⟩ := DataW.trod_int i1 h3
  obtain ⟨x2, e2, _, _⟩ := DataW.trod_int i2 h4
  obtain ⟨x3, e3, _, _⟩ := DataW.trod_int i3 h5
  simp at e0 e1 e2 e3
  subst e0 e1 e2 e3
  exact ⟨x0, x1, x2, x3, rfl⟩

end Go.Proofs.Ytcangdcakgcpaaa.Opn
