import Derived.Test.YtplbahdomjeekaaGreatZon
namespace Go.Proofs.YtplbahdomjeekaaGreat.Crs
open Go.ChangeShapes Go.WideShapes Go.ChangeAt Go.RowKit Go.PlainAid
open Go.Proofs.YtplbahdomjeekaaGreat.Num Go.Proofs.YtplbahdomjeekaaGreat.Kit Go.Proofs.YtplbahdomjeekaaGreat.Pts Go.Proofs.YtplbahdomjeekaaGreat.Seg Go.Proofs.YtplbahdomjeekaaGreat.Div Go.Proofs.YtplbahdomjeekaaGreat.Root Go.Proofs.YtplbahdomjeekaaGreat.Rt Go.Proofs.YtplbahdomjeekaaGreat.Gcd
open Go.Proofs.YtplbahdomjeekaaGreat.Trk (F3 Fxs Tr trB fx lastB legOf pkX pkY)
open Go.Proofs.YtplbahdomjeekaaGreat.Win (wiB)
set_option linter.unusedVariables false
set_option linter.unusedSimpArgs false
theorem to_ends {m : M5} {a b c d : Int} (ha : Co a) (hb : Co b) (hc : Co c) (hd : Co d) (h : izB m a b = true ∨ izB m c d = true) : toB m a b c d = true := by
  unfold toB
  by_cases e : a = c ∧ b = d
  · rw [if_pos e]
    rcases h with h | h
    · exact h
    · rw [← e.1, ← e.2] at h; exact h
  · rw [if_neg e]
    obtain ⟨M1, M2⟩ := sqL_bd ha hb hc hd e
    rw [Win.wiB_spec a b c d m.x m.y m.z M1]
    unfold izB at h
    rcases h with h | h <;> rw [h] <;> simp
end Go.Proofs.YtplbahdomjeekaaGreat.Crs
