/- A vector with another length (impl): both coordinates rounded down. -/
import Derived.Test.YtlheppblioglpaaGreatDoorLth
import Derived.Test.YtlheppblioglpaaGreatDoorCel
import Derived.Test.YtlheppblioglpaaGreatDoorOrd
import Derived.Deep.DeepCutAuto
namespace Go.Proofs.YtlheppblioglpaaGreatDoor.Rsz
open Go.ChangeShapes Go.WideShapes Go.ChangeAt Go.RowKit
open Go.Proofs.YtlheppblioglpaaGreatDoor.Num Go.Proofs.YtlheppblioglpaaGreatDoor.Kit Go.Proofs.YtlheppblioglpaaGreatDoor.Pts Go.Proofs.YtlheppblioglpaaGreatDoor.Rt Go.Proofs.YtlheppblioglpaaGreatDoor.Root
open Go.Proofs.YtlheppblioglpaaGreatDoor.Lth (ln2 ln2_pos sqs_bd)
set_option linter.unusedVariables false
set_option linter.unusedSimpArgs false

end Go.Proofs.YtlheppblioglpaaGreatDoor.Rsz
