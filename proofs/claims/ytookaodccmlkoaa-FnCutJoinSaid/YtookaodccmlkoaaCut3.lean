/- CutTrack (impl, spec): both answers in one word each. -/
import Derived.Test.YtookaodccmlkoaaCutS2
namespace Go.Proofs.Ytookaodccmlkoaa.Trk
open Go.ChangeShapes Go.WideShapes Go.ChangeAt Go.RowKit
open Go.Proofs.Ytookaodccmlkoaa.Num Go.Proofs.Ytookaodccmlkoaa.Kit Go.Proofs.Ytookaodccmlkoaa.Pts Go.Proofs.Ytookaodccmlkoaa.Seg Go.Proofs.Ytookaodccmlkoaa.Div
set_option linter.unusedVariables false

def ctF (fs : List F3) (f t : Int) : List F3 := if ckI fs f t = 0 then cutF fs f t else []
theorem ckI_zero {fs : List F3} {f t : Int} (h : ckI fs f t = 0) : trB fs = true ∧ f < t ∧ lastB fs f = true ∧ lastB fs t = true := by
  unfold ckI at h
  split at h
  · rename_i hv
    split at h
    · rename_i hr; exact ⟨hv, hr.1, hr.2.1, hr.2.2⟩
    · exact absurd h (by decide)
  · exact absurd h (by decide)
theorem ctF_len (fs : List F3) (f t : Int) : (ctF fs f t).length ≤ 42 := by
  unfold ctF
  split
  · rename_i h
    obtain ⟨hv, _⟩ := ckI_zero h
    have h40 := (trB_yes hv).1.2
    have hm := midF_len fs f t fs.length
    rw [List.take_length] at hm
    simp [cutF]
    omega
  · simp

theorem cut_impl (a : Option Addr) (cap : Nat) (fs : List F3) (f t : Int) (w : World) (hf : Fxs w a fs) (hcap : fs.length ≤ cap) :
    Calls Try.prog 32 #[Tr (.slice a fs.length cap), .int .i64 f, .int .i64 t] w fun e w' => ∃ v, e = .returned (.tuple #[Tr v, .int .i64 (ckI fs f t)]) ∧ OwnF w' w.heap.size v (ctF fs f t) ∧ Ext w w' := by
  by_cases hk : ckI fs f t = 0
  · obtain ⟨hv, hft, h1, h2⟩ := ckI_zero hk
    rw [show ctF fs f t = cutF fs f t from if_pos hk, hk]
    exact cut_good a cap fs f t w hf hcap hv hft h1 h2
  · rw [show ctF fs f t = [] from if_neg hk]
    exact (cut_bad a cap fs f t w hf hcap hk).mono fun e w' ⟨he, hx⟩ => ⟨_, he, OwnF.nil _ _, hx⟩

theorem cut_spec (a : Option Addr) (cap : Nat) (fs : List F3) (f t : Int) (w : World) (hf : Fxs w a fs) :
    Calls Try.prog 33 #[Tr (.slice a fs.length cap), .int .i64 f, .int .i64 t] w fun e w' => ∃ v, e = .returned (.tuple #[Tr v, .int .i64 (ckI fs f t)]) ∧ OwnF w' w.heap.size v (ctF fs f t) ∧ Ext w w' := by
  by_cases hk : ckI fs f t = 0
  · obtain ⟨hv, hft, h1, h2⟩ := ckI_zero hk
    rw [show ctF fs f t = cutF fs f t from if_pos hk, hk]
    exact cutS_good a cap fs f t w hf hv hft h1 h2
  · rw [show ctF fs f t = [] from if_neg hk]
    exact (cutS_bad a cap fs f t w hf hk).mono fun e w' ⟨he, hx⟩ => ⟨_, he, OwnF.nil _ _, hx⟩

end Go.Proofs.Ytookaodccmlkoaa.Trk
