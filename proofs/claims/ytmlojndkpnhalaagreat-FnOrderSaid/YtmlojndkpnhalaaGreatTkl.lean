import Derived.Test.YtmlojndkpnhalaaGreatTkr
import Derived.Test.YtmlojndkpnhalaaGreatOpnT
namespace Go.Proofs.YtmlojndkpnhalaaGreat.Crs
open Go.ChangeShapes Go.WideShapes Go.ChangeAt Go.RowKit Go.PlainAid Go.Deep
open Go.Proofs.YtmlojndkpnhalaaGreat.Num Go.Proofs.YtmlojndkpnhalaaGreat.Kit Go.Proofs.YtmlojndkpnhalaaGreat.Pts Go.Proofs.YtmlojndkpnhalaaGreat.Seg Go.Proofs.YtmlojndkpnhalaaGreat.Root Go.Proofs.YtmlojndkpnhalaaGreat.Rt
open Go.Proofs.YtmlojndkpnhalaaGreat.Trk (F3 Fxs Tr trB)
set_option linter.unusedVariables false
set_option linter.unusedSimpArgs false
theorem tk_snoc (ts : List T1) (t : T1) (i : Nat) : tk (ts ++ [t]) i = if i < ts.length then tk ts i else if i = ts.length then t else ⟨none, 0, []⟩ := by
  unfold tk
  rw [List.getD_eq_getElem?_getD, List.getD_eq_getElem?_getD, List.getElem?_append]
  by_cases h : i < ts.length
  · rw [if_pos h, if_pos h]
  · rw [if_neg h, if_neg h]
    by_cases h2 : i = ts.length
    · subst h2; simp
    · rw [if_neg h2, List.getElem?_eq_none (by simp; omega)]; rfl
def OT (w : World) (B : Nat) (t : T1) : Prop := ∃ g, t.a = some ⟨g, 0, none⟩ ∧ g ≠ B ∧ t.c = t.fs.length ∧ Trk.Own w g t.fs
theorem OT.ext {w w' : World} {B : Nat} {t : T1} (h : OT w B t) (k : Ext w w') : OT w' B t := by
  obtain ⟨g, a, b, c, d⟩ := h; exact ⟨g, a, b, c, d.ext k⟩
theorem OT.chg {w w' : World} {B : Nat} {t : T1} (h : OT w B t) (k : Chg B w w') : OT w' B t := by
  obtain ⟨g, a, b, c, d⟩ := h; exact ⟨g, a, b, c, d.away k b⟩
theorem OT.fxs {w : World} {B : Nat} {t : T1} (h : OT w B t) (hl : t.fs.length ≤ maxLen) : Fxs w t.a t.fs := by
  obtain ⟨g, a, b, c, d⟩ := h; rw [a]; exact d.fxs hl
def RelTs (w : World) (ts : List T1) (i : Value) (wr : World) : Prop :=
  ∃ (k : Nat) (us : List T1), i = .int .i64 k ∧ k ≤ ts.length ∧ us.length = k ∧ (∀ j, j < ts.length → (∃ v, wr.cell? ⟨w.heap.size, j, none⟩ = some v) ∧ wr.frozen? ⟨w.heap.size, j, none⟩ = false) ∧
    (∀ j, j < k → wr.cell? ⟨w.heap.size, j, none⟩ = some (TV (tk us j)) ∧ (tk us j).fs = (tk ts j).fs ∧ OT wr w.heap.size (tk us j)) ∧ Ext w wr
theorem RelTs.step {w wr w2 : World} {ts us : List T1} {k : Nat} {t : T1} (hk : k < ts.length) (hu : us.length = k) (hc : ∀ j, j < ts.length → (∃ v, wr.cell? ⟨w.heap.size, j, none⟩ = some v) ∧ wr.frozen? ⟨w.heap.size, j, none⟩ = false)
    (hd : ∀ j, j < k → wr.cell? ⟨w.heap.size, j, none⟩ = some (TV (tk us j)) ∧ (tk us j).fs = (tk ts j).fs ∧ OT wr w.heap.size (tk us j)) (hx : Ext w wr) (hy : Ext wr w2) (hT : OT w2 w.heap.size t) (hs : t.fs = (tk ts k).fs) :
    RelTs w ts (.int .i64 (k + 1)) (w2.setCell ⟨w.heap.size, k, none⟩ (TV t)) := by
  obtain ⟨⟨v0, d0⟩, f0⟩ := hc k hk
  have hS : Chg w.heap.size w2 (w2.setCell ⟨w.heap.size, k, none⟩ (TV t)) := (Chg.refl _ _).setCell _ _
  refine ⟨k + 1, us ++ [t], by go_num, by omega, by simp [hu], fun j hj => ?_, fun j hj => ?_, (hx.trans hy).setNew (Nat.le_refl _) _⟩
  · obtain ⟨⟨v, hv⟩, hf⟩ := hc j hj
    refine ⟨?_, by simp only [World.frozen?_setCell]; exact hy.thawOf hv hf⟩
    by_cases h0 : k = j
    · subst h0; exact ⟨_, World.cell?_setCell_same _ _ _ (hy.cellOf d0)⟩
    · rw [World.cell?_setCell_other _ _ _ _ (by simp <;> omega)]; exact ⟨_, hy.cellOf hv⟩
  · rw [tk_snoc]
    by_cases h : j = k
    · subst h
      rw [if_neg (by omega), if_pos hu.symm]
      exact ⟨World.cell?_setCell_same _ _ _ (hy.cellOf d0), hs, hT.chg hS⟩
    · rw [if_pos (by omega)]
      obtain ⟨g0, g1, g2⟩ := hd j (by omega)
      refine ⟨?_, g1, (g2.ext hy).chg hS⟩
      rw [World.cell?_setCell_other _ _ _ _ (by simp <;> omega)]; exact hy.cellOf g0
theorem trackInfo : (Tryz.prog.info? 33).map (fun i => (i.zero, i.size, i.bytes)) = some (some (Tr (.slice none 0 0)), 1, 24) := by kernel_rfl
end Go.Proofs.YtmlojndkpnhalaaGreat.Crs
