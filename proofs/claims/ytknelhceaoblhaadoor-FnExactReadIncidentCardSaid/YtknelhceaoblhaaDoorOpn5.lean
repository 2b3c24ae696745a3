/- Reading a crossing that came in by value: three numbers and a struct of two numbers. Of no program. -/
import Derived.Lib.SmallJoins
import Derived.OpenShut
import Derived.ChangeArms
namespace Go.Proofs.YtknelhceaoblhaaDoor.Opn5
open Go.ChangeShapes Go.WideShapes Go.ChangeAt Go.RowKit Go.Deep
set_option linter.unusedVariables false

section
variable {H : Type} {enc : TypeId × Value → H} {P : Program} {w : World} {base : Nat} {spare : Nat → Bool} {held : Bool}

/-- Where a field lies, and how many cells it has. -/
def Lay (P : Program) (f : Field) (o n : Nat) : Prop := f.offset = o ∧ P.cellsOf f.type = n

theorem cut_int {f : Field} {fs : Array Field} {cs : List Value} {xs : List (DataW H × List MemPlace)} {n i o : Nat} {c : Value}
    (hl : Lay P f o 1) (ht : P.underlying f.type = some (.int .i64)) (hi : fs[i]? = some f) (hx : xs.length = fs.size) (hc : cs[o]? = some c)
    (hg : ∀ (i : Nat) (f : Field), fs[i]? = some f → DataW.trod enc P w base spare held n f.type ((cs.drop f.offset).take (P.cellsOf f.type)) = xs[i]?) : ∃ z : Int, c = .int .i64 z := by
  have r := hg i f hi
  have hlt : i < xs.length := by rw [hx]; exact (Array.getElem?_eq_some_iff.1 hi).1
  rw [hl.1, hl.2, List.getElem?_eq_getElem hlt] at r
  have e : (cs.drop o).take 1 = [c] := by
    obtain ⟨h1, h2⟩ := List.getElem?_eq_some_iff.1 hc
    rw [List.drop_eq_getElem_cons h1, h2]; rfl
  rw [e] at r
  obtain ⟨z, hz, _⟩ := DataW.trod_int ht r
  simp at hz
  exact ⟨z, hz⟩

theorem open_pt {fuel : Nat} {t : TypeId} {g0 g1 : Field} {cs : List Value} {x : DataW H × List MemPlace} (hs : P.underlying t = some (.struct #[g0, g1])) (hC : P.cellsOf t = 2)
    (l0 : Lay P g0 0 1) (l1 : Lay P g1 1 1) (i0 : P.underlying g0.type = some (.int .i64)) (i1 : P.underlying g1.type = some (.int .i64))
    (h : DataW.trod enc P w base spare held fuel t cs = some x) : ∃ a b : Int, cs = [.int .i64 a, .int .i64 b] := by
  obtain ⟨xs, n, _, _, hcl, hxl, hg⟩ := DataW.trod_struct hs h
  rw [hC] at hcl
  obtain ⟨c0, c1, rfl⟩ : ∃ c0 c1, cs = [c0, c1] := by
    match cs, hcl with
    | [c0, c1], _ => exact ⟨c0, c1, rfl⟩
  obtain ⟨a, rfl⟩ := cut_int (i := 0) l0 i0 rfl hxl rfl hg
  obtain ⟨b, rfl⟩ := cut_int (i := 1) l1 i1 rfl hxl rfl hg
  exact ⟨a, b, rfl⟩

theorem open_crs {r : Reach} {b0 : Nat} {t : TypeId} {f0 f1 f2 f3 g0 g1 : Field} {v : Value} {d : DataW H} {p : List MemPlace} (hs : P.underlying t = some (.struct #[f0, f1, f2, f3])) (hC : P.cellsOf t = 5)
    (l0 : Lay P f0 0 1) (l1 : Lay P f1 1 1) (l2 : Lay P f2 2 1) (l3 : Lay P f3 3 2) (hp : P.underlying f3.type = some (.struct #[g0, g1]))
    (k0 : Lay P g0 0 1) (k1 : Lay P g1 1 1) (i0 : P.underlying f0.type = some (.int .i64)) (i1 : P.underlying f1.type = some (.int .i64)) (i2 : P.underlying f2.type = some (.int .i64)) (j0 : P.underlying g0.type = some (.int .i64)) (j1 : P.underlying g1.type = some (.int .i64))
    (hv : Value.okWide P w r b0 t v) (h : DataW.Trod enc P w base spare held t v d p) :
    ∃ a b c x y : Int, v = .agg #[.int .i64 a, .int .i64 b, .int .i64 c, .int .i64 x, .int .i64 y] := by
  obtain ⟨cs, rfl, hsz⟩ := okWide_struct hs hv
  obtain ⟨fuel, hf⟩ := h
  obtain ⟨xs, n, _, _, hcl, hxl, hg⟩ := DataW.trod_struct hs hf
  rw [hC] at hcl
  simp only [Value.cells] at hcl hg
  obtain ⟨c0, c1, c2, c3, c4, hcs⟩ : ∃ c0 c1 c2 c3 c4, cs.toList = [c0, c1, c2, c3, c4] := by
    match cs.toList, hcl with
    | [c0, c1, c2, c3, c4], _ => exact ⟨c0, c1, c2, c3, c4, rfl⟩
  rw [hcs] at hg
  obtain ⟨a, rfl⟩ := cut_int (i := 0) l0 i0 rfl hxl rfl hg
  obtain ⟨b, rfl⟩ := cut_int (i := 1) l1 i1 rfl hxl rfl hg
  obtain ⟨c, rfl⟩ := cut_int (i := 2) l2 i2 rfl hxl rfl hg
  have r3 := hg 3 f3 rfl
  simp at hxl
  rw [l3.1, l3.2, List.getElem?_eq_getElem (by omega)] at r3
  obtain ⟨x, y, e3⟩ := open_pt hp l3.2 k0 k1 j0 j1 r3
  simp at e3
  obtain ⟨rfl, rfl⟩ := e3
  refine ⟨a, b, c, x, y, ?_⟩
  rw [← Array.toArray_toList (xs := cs), hcs]

end
end Go.Proofs.YtknelhceaoblhaaDoor.Opn5
