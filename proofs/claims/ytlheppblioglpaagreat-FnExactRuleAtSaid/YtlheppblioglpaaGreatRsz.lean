/- A vector with another length (impl): both coordinates rounded down. -/
import Derived.Test.YtlheppblioglpaaGreatLth
import Derived.Test.YtlheppblioglpaaGreatCel
import Derived.Test.YtlheppblioglpaaGreatOrd
import Derived.Deep.DeepCutAuto
namespace Go.Proofs.YtlheppblioglpaaGreat.Rsz
open Go.ChangeShapes Go.WideShapes Go.ChangeAt Go.RowKit
open Go.Proofs.YtlheppblioglpaaGreat.Num Go.Proofs.YtlheppblioglpaaGreat.Kit Go.Proofs.YtlheppblioglpaaGreat.Pts Go.Proofs.YtlheppblioglpaaGreat.Rt Go.Proofs.YtlheppblioglpaaGreat.Root
open Go.Proofs.YtlheppblioglpaaGreat.Lth (ln2 ln2_pos length_any sqs_bd)
set_option linter.unusedVariables false
set_option linter.unusedSimpArgs false

theorem rz_in (a b : Int) (w : World) (h1 : 1 ≤ b) (h2 : b ≤ 1000000000000000000) (h3 : -1000000000000000000 ≤ a) (h4 : a ≤ 1000000000000000000) :
    Calls Tryz.prog 131 #[.int .i64 a, .int .i64 b] w fun e w' => e = .returned (.tuple #[.int .i64 (flo a b), .int .i64 0]) ∧ Ext w w' := by
  refine (floorDiv_impl a b w).mono ?_
  rintro e w' ⟨rfl, rfl⟩
  exact ⟨ret_int2 (by unfold fdQ; rw [if_pos ⟨h1, h2, h3, h4⟩]) (by unfold fdC; rw [if_pos ⟨h1, h2, h3, h4⟩]), Ext.refl _⟩

end Go.Proofs.YtlheppblioglpaaGreat.Rsz
