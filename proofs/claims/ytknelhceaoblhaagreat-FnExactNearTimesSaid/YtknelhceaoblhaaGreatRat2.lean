import Derived.Test.YtknelhceaoblhaaGreatRat
namespace Go.Proofs.YtknelhceaoblhaaGreat.Cmp
open Go.ChangeShapes Go.WideShapes Go.ChangeAt Go.RowKit
open Go.Proofs.YtknelhceaoblhaaGreat.Num Go.Proofs.YtknelhceaoblhaaGreat.Kit Go.Proofs.YtknelhceaoblhaaGreat.Pts
set_option linter.unusedVariables false
set_option linter.unusedSimpArgs false
theorem compareProducts_int (a b c d : Int) (w : World) (a0 : 0 ≤ a) (ha : a ≤ 1000000000000000000) (b0 : 0 ≤ b) (hb : b ≤ 1000000000000000000) (c0 : 0 ≤ c) (hc : c ≤ 1000000000000000000) (d0 : 0 ≤ d) (hd : d ≤ 1000000000000000000) :
    Calls Tryz.prog 189 #[.int .i64 a, .int .i64 b, .int .i64 c, .int .i64 d] w fun e w' => e = .returned (.int .i64 (cmpZ (a * b) (c * d))) ∧ Ext w w' := by
  obtain ⟨a, rfl⟩ := Int.eq_ofNat_of_zero_le a0
  obtain ⟨b, rfl⟩ := Int.eq_ofNat_of_zero_le b0
  obtain ⟨c, rfl⟩ := Int.eq_ofNat_of_zero_le c0
  obtain ⟨d, rfl⟩ := Int.eq_ofNat_of_zero_le d0
  exact compareProducts_any a b c d w (by omega) (by omega) (by omega) (by omega)
end Go.Proofs.YtknelhceaoblhaaGreat.Cmp
