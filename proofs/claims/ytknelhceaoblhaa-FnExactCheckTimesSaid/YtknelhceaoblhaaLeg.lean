/- Contracts of the search for the leg at a time (impl, spec), and of the checks ahead of it. -/
import Derived.Test.YtknelhceaoblhaaTrk
namespace Go.Proofs.Ytknelhceaoblhaa.Trk
open Go.ChangeShapes Go.WideShapes Go.ChangeAt Go.RowKit
open Go.Proofs.Ytknelhceaoblhaa.Num Go.Proofs.Ytknelhceaoblhaa.Kit Go.Proofs.Ytknelhceaoblhaa.Pts
set_option linter.unusedVariables false
set_option linter.unusedSimpArgs false

abbrev FxV (f : F3) : Value := Fx f.t f.x f.y

theorem wrap_pred {n : Nat} (h1 : 1 ≤ n) (hm : n ≤ maxLen) : IntKind.i64.wrap ((n : Int) - 1) = (n : Int) - 1 := IntWalk.i64_in _ (by unfold maxLen at hm; omega)
theorem wrap_succ {n : Nat} (hm : n ≤ 1000000) : IntKind.i64.wrap ((n : Int) + 1) = (n : Int) + 1 := IntWalk.i64_in _ (by omega)
/-- A cell behind two new blocks. -/
theorem two_on {w : World} {p : Addr} {v : Value} (h : w.cell? p = some v) : ∀ A B, ((w.alloc A).alloc B).cell? p = some v := fun A B => (((Ext.refl w).alloc A).alloc B).cellOf h
theorem one_on {w : World} {p : Addr} {v : Value} (h : w.cell? p = some v) : ∀ A, (w.alloc A).cell? p = some v := fun A => ((Ext.refl w).alloc A).cellOf h

theorem first_any (a : Option Addr) (cap : Nat) (fs : List F3) (w : World) (hf : Fxs w a fs) (h0 : 0 < fs.length) : Calls Try.prog 43 #[Tr (.slice a fs.length cap)] w fun e w' => e = .returned (FxV (fx fs 0)) ∧ Ext w w' := by
  rcases hf.2 with h | ⟨b, off, rfl, hb⟩
  · rw [h] at h0; simp at h0
  obtain ⟨c0, c1, c2⟩ := hb 0 h0
  rw [Nat.zero_mul, Nat.add_zero] at c0 c1 c2
  have i1 : (0 : Int) < (fs.length : Int) := by omega
  replace c0 := two_on c0
  replace c1 := two_on c1
  replace c2 := two_on c2
  clear hb hf
  go_enter Try.func43, Try.ntmps43
  go_wp2
  exact bodyPost_ret (v := FxV (fx fs 0)) (by simp [results, Try.results43, go_sem]) rfl ⟨rfl, (by repeat (first | exact Ext.refl _ | assumption | apply Ext.alloc | apply Ext.drew | (refine Ext.trans ?_ (by assumption)) | (refine Ext.setNew ?_ (by simp <;> omega) _)))⟩

theorem last_any (a : Option Addr) (cap : Nat) (fs : List F3) (w : World) (hf : Fxs w a fs) (h0 : 0 < fs.length) : Calls Try.prog 44 #[Tr (.slice a fs.length cap)] w fun e w' => e = .returned (FxV (fx fs (fs.length - 1))) ∧ Ext w w' := by
  have hm := hf.1
  rcases hf.2 with h | ⟨b, off, rfl, hb⟩
  · rw [h] at h0; simp at h0
  obtain ⟨c0, c1, c2⟩ := hb (fs.length - 1) (by omega)
  have i0 : (0 : Int) ≤ (fs.length : Int) - 1 := by omega
  have i2 : (1 : Int) ≤ (fs.length : Int) := by omega
  have i1 : (fs.length : Int) - 1 < (fs.length : Int) := by omega
  have T0 := wrap_pred h0 hm
  have T1 : ((fs.length : Int) - 1).toNat = fs.length - 1 := by omega
  unfold maxLen at hm
  replace c0 := two_on c0
  replace c1 := two_on c1
  replace c2 := two_on c2
  clear hb hf
  go_enter Try.func44, Try.ntmps44
  go_wp2
  exact bodyPost_ret (v := FxV (fx fs (fs.length - 1))) (by simp [results, Try.results44, go_sem]) rfl ⟨rfl, (by repeat (first | exact Ext.refl _ | assumption | apply Ext.alloc | apply Ext.drew | (refine Ext.trans ?_ (by assumption)) | (refine Ext.setNew ?_ (by simp <;> omega) _)))⟩

/-- A field of a fix that a call returned. -/
theorem fieldT (f : F3) (w : World) : (Instr.field 73 (.agg #[.int .i64 f.t, .int .i64 f.x, .int .i64 f.y]) 0).run Try.prog w = .ok (.int .i64 f.t) w := by kernel_rfl

/-- Does a track of that list last at a time? -/
def lastB (fs : List F3) (t : Int) : Bool := inB t (fx fs 0).t (fx fs (fs.length - 1)).t

end Go.Proofs.Ytknelhceaoblhaa.Trk
