import Derived.Test.YtknelhceaoblhaaGreatMWnd2
import Derived.Test.YtknelhceaoblhaaGreatHead
namespace Go.Proofs.YtknelhceaoblhaaGreat.Wnd
open Go.ChangeShapes Go.WideShapes Go.ChangeAt Go.RowKit
open Go.Proofs.YtknelhceaoblhaaGreat.Num Go.Proofs.YtknelhceaoblhaaGreat.Kit Go.Proofs.YtknelhceaoblhaaGreat.Pts Go.Proofs.YtknelhceaoblhaaGreat.Seg Go.Proofs.YtknelhceaoblhaaGreat.Gcd
open Go.Proofs.YtknelhceaoblhaaGreat.Trk (F3 Fxs Tr trB fx hdX hdY heX heY heC headingAt_impl headingAt_spec isTrack_spec leg_bounds legOf legOf_lt trB_yes ctI ctI_zero he_no he_zero he_yes hzB)
set_option linter.unusedVariables false
set_option linter.unusedSimpArgs false
end Go.Proofs.YtknelhceaoblhaaGreat.Wnd
