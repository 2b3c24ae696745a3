import Derived.Test.YtknelhceaoblhaaGreatOpn5
import Derived.Test.YtknelhceaoblhaaGreatIv0
import Derived.Deep.Slices
import Derived.Deep.Fields
import Derived.ChangeSame
namespace Go.Proofs.YtknelhceaoblhaaGreat.OpnI
open Go.ChangeShapes Go.WideShapes Go.ChangeAt Go.RowKit Go.Deep
open Go.Proofs.YtknelhceaoblhaaGreat.Opn5 Go.Proofs.YtknelhceaoblhaaGreat.Iv
set_option linter.unusedVariables false
set_option linter.unusedSimpArgs false
section
variable {H : Type} {enc : TypeId × Value → H} {P : Program} {w : World} {base : Nat} {spare : Nat → Bool} {held : Bool}
theorem open_four {r : Reach} {b0 : Nat} {t : TypeId} {f0 f1 f2 f3 : Field} {v : Value} {d : DataW H} {p : List MemPlace} (hs : P.underlying t = some (.struct #[f0, f1, f2, f3])) (hC : P.cellsOf t = 4)
    (l0 : Lay P f0 0 1) (l1 : Lay P f1 1 1) (l2 : Lay P f2 2 1) (l3 : Lay P f3 3 1)
    (i0 : P.underlying f0.type = some (.int .i64)) (i1 : P.underlying f1.type = some (.int .i64)) (i2 : P.underlying f2.type = some (.int .i64)) (i3 : P.underlying f3.type = some (.int .i64))
    (hv : Value.okWide P w r b0 t v) (h : DataW.Trod enc P w base spare held t v d p) :
    ∃ a b c x : Int, v = .agg #[.int .i64 a, .int .i64 b, .int .i64 c, .int .i64 x] := by
  obtain ⟨cs, rfl, hsz⟩ := okWide_struct hs hv
  obtain ⟨fuel, hf⟩ := h
  obtain ⟨xs, n, _, _, hcl, hxl, hg⟩ := DataW.trod_struct hs hf
  rw [hC] at hcl
  simp only [Value.cells] at hcl hg
  obtain ⟨c0, c1, c2, c3, hcs⟩ : ∃ c0 c1 c2 c3, cs.toList = [c0, c1, c2, c3] := by
    match cs.toList, hcl with
    | [c0, c1, c2, c3], _ => exact ⟨c0, c1, c2, c3, rfl⟩
  rw [hcs] at hg
  obtain ⟨a, rfl⟩ := cut_int (i := 0) l0 i0 rfl hxl rfl hg
  obtain ⟨b, rfl⟩ := cut_int (i := 1) l1 i1 rfl hxl rfl hg
  obtain ⟨c, rfl⟩ := cut_int (i := 2) l2 i2 rfl hxl rfl hg
  obtain ⟨x, rfl⟩ := cut_int (i := 3) l3 i3 rfl hxl rfl hg
  refine ⟨a, b, c, x, ?_⟩
  rw [← Array.toArray_toList (xs := cs), hcs]
end
end Go.Proofs.YtknelhceaoblhaaGreat.OpnI
