/- Zones of marks: the legs that touch a zone (spec). -/
import Derived.Test.YteljjmellbgnlaaMZon2
import Derived.Test.YteljjmellbgnlaaZon4
namespace Go.Proofs.Yteljjmellbgnlaa.Crs
open Go.ChangeShapes Go.WideShapes Go.ChangeAt Go.RowKit Go.PlainAid
open Go.Proofs.Yteljjmellbgnlaa.Num Go.Proofs.Yteljjmellbgnlaa.Kit Go.Proofs.Yteljjmellbgnlaa.Pts Go.Proofs.Yteljjmellbgnlaa.Seg Go.Proofs.Yteljjmellbgnlaa.Div Go.Proofs.Yteljjmellbgnlaa.Root Go.Proofs.Yteljjmellbgnlaa.Rt Go.Proofs.Yteljjmellbgnlaa.Gcd
open Go.Proofs.Yteljjmellbgnlaa.Trk (F3 Fxs Tr trB fx lastB legOf pkX pkY)
open Go.Proofs.Yteljjmellbgnlaa.Win (wiB)
set_option linter.unusedVariables false
set_option linter.unusedSimpArgs false

end Go.Proofs.Yteljjmellbgnlaa.Crs
