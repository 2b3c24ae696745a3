import Derived.Lib.SmallJoins
import Derived.OpenShut
import Derived.ChangeArms
namespace Go.Proofs.YtknelhceaoblhaaGreat.Opn5
open Go.ChangeShapes Go.WideShapes Go.ChangeAt Go.RowKit Go.Deep
set_option linter.unusedVariables false
section
variable {H : Type} {enc : TypeId × Value → H} {P : Program} {w : World} {base : Nat} {spare : Nat → Bool} {held : Bool}
def Lay (P : Program) (f : Field) (o n : Nat) : Prop := f.offset = o ∧ P.cellsOf f.type = n
theorem cut_int {f : Field} {fs : Array Field} {cs : List Value} {xs : List (DataW H × List MemPlace)} {n i o : Nat} {c : Value}
    (hl : Lay P f o 1) (ht : P.underlying f.type = some (.int .i64)) (hi : fs[i]? = some f) (hx : xs.length = fs.size) (hc : cs[o]? = some c)
    (hg : ∀ (i : Nat) (f : Field), fs[i]? = some f → DataW.trod enc P w base spare held n f.type ((cs.drop f.offset).take (P.cellsOf f.type)) = xs[i]?) : ∃ z : Int, c = .int .i64 z := by
  have r := hg i f hi
  have hlt : i < xs.length := by rw [hx]; exact (Array.getElem?_eq_some_iff.1 hi).1
  rw [hl.1, hl.2, List.getElem?_eq_getElem hlt] at r
  have e : (cs.drop o).take 1 = [c] := by
    obtain ⟨h1, h2⟩ := List.getElem?_eq_some_iff.1 hc
    rw [List.drop_eq_getElem_cons h1, h2]; rfl
  rw [e] at r
  obtain ⟨z, hz, _⟩ := DataW.trod_int ht r
  simp at hz
  exact ⟨z, hz⟩
end
end Go.Proofs.YtknelhceaoblhaaGreat.Opn5
