import Derived.Test.YtmlojndkpnhalaaGreatNum
namespace Go.Proofs.YtmlojndkpnhalaaGreat.RmT
open Go.Proofs.YtmlojndkpnhalaaGreat.Num
set_option linter.unusedVariables false
set_option linter.unusedSimpArgs false
end Go.Proofs.YtmlojndkpnhalaaGreat.RmT
