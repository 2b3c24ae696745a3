/- Contracts of the draws of tracks, continued: l03Draw, l03DrawAny. -/
import Derived.Test.YtlheppblioglpaaDrawK
import Derived.Outline
import Derived.Deep.RegionLaw
namespace Go.Proofs.Ytlheppblioglpaa.Trk
open Go.ChangeShapes Go.WideShapes Go.ChangeAt Go.RowKit
open Go.Proofs.Ytlheppblioglpaa.Num Go.Proofs.Ytlheppblioglpaa.Kit Go.Proofs.Ytlheppblioglpaa.Pts Go.Proofs.Ytlheppblioglpaa.Draw
set_option linter.unusedVariables false
set_option linter.unusedSimpArgs false

/-- The cells of n fixes of block g hold numbers, and may be written. -/
def IntRow (w : World) (g n : Nat) : Prop := ∀ j, j < n * 3 → (∃ z : Int, w.cell? ⟨g, j, none⟩ = some (.int .i64 z)) ∧ w.frozen? ⟨g, j, none⟩ = false
theorem Own.ints {w : World} {g : Nat} {fs : List F3} (h : Own w g fs) : IntRow w g fs.length := by
  intro j hj
  obtain ⟨⟨c0, c1, c2⟩, f0, f1, f2⟩ := h (j / 3) (by omega)
  rcases (show j = j / 3 * 3 ∨ j = j / 3 * 3 + 1 ∨ j = j / 3 * 3 + 2 by omega) with e | e | e
  · rw [e]; exact ⟨⟨_, c0⟩, f0⟩
  · rw [e]; exact ⟨⟨_, c1⟩, f1⟩
  · rw [e]; exact ⟨⟨_, c2⟩, f2⟩
theorem IntRow.ext {w w' : World} {g n : Nat} (h : IntRow w g n) (k : Ext w w') : IntRow w' g n := fun j hj => by
  obtain ⟨⟨z, c⟩, f⟩ := h j hj
  exact ⟨⟨z, k.cellOf c⟩, k.thawOf c f⟩
theorem IntRow.chg {w w' : World} {g n B : Nat} (h : IntRow w g n) (k : Chg B w w') (hB : g ≠ B) : IntRow w' g n := fun j hj => by
  obtain ⟨⟨z, c⟩, f⟩ := h j hj
  exact ⟨⟨z, k.cellOf hB c⟩, k.thawOf hB c f⟩
theorem IntRow.set {w : World} {g n : Nat} (h : IntRow w g n) (i : Nat) (v : Int) : IntRow (w.setCell ⟨g, i, none⟩ (.int .i64 v)) g n := fun j hj => by
  obtain ⟨⟨z, c⟩, f⟩ := h j hj
  refine ⟨?_, by rw [World.frozen?_setCell]; exact f⟩
  by_cases e : i = j
  · subst e; exact ⟨v, World.cell?_setCell_same _ _ _ c⟩
  · exact ⟨z, by rw [World.cell?_setCell_other _ _ _ _ (by simp <;> omega)]; exact c⟩
theorem IntRow.less {w : World} {g n m : Nat} (h : IntRow w g n) (hm : m ≤ n) : IntRow w g m := fun j hj => h j (by omega)
theorem IntRow.own {w : World} {g : Nat} : ∀ n : Nat, IntRow w g n → ∃ fs : List F3, fs.length = n ∧ Own w g fs
  | 0, _ => ⟨[], rfl, fun i hi => absurd hi (by simp)⟩
  | n + 1, h => by
    obtain ⟨fs, hl, hf⟩ := IntRow.own n (h.less (by omega))
    obtain ⟨⟨x, c0⟩, f0⟩ := h (n * 3) (by omega)
    obtain ⟨⟨y, c1⟩, f1⟩ := h (n * 3 + 1) (by omega)
    obtain ⟨⟨z, c2⟩, f2⟩ := h (n * 3 + 2) (by omega)
    refine ⟨fs ++ [⟨x, y, z⟩], by simp [hl], fun i hi => ?_⟩
    by_cases e : i < n
    · have e1 : fx (fs ++ [⟨x, y, z⟩]) i = fx fs i := by
        unfold fx
        rw [List.getD_eq_getElem?_getD, List.getD_eq_getElem?_getD, List.getElem?_append_left (by omega)]
      rw [e1]; exact hf i (by omega)
    · obtain rfl : i = n := by simp [hl] at hi; omega
      have e1 : fx (fs ++ [⟨x, y, z⟩]) i = ⟨x, y, z⟩ := by
        unfold fx
        rw [List.getD_eq_getElem?_getD, List.getElem?_append_right (by omega), hl]; simp
      rw [e1]; exact ⟨⟨c0, c1, c2⟩, f0, f1, f2⟩

/-- A track that a draw made, valid or not. -/
def AnyT (B : Nat) (w : World) (e : Ending) (w' : World) : Prop :=
  ∃ (g cap n : Nat), e = .returned (Tr (.slice (some ⟨g, 0, none⟩) n cap)) ∧ 1 ≤ n ∧ n ≤ 41 ∧ n ≤ cap ∧ w.heap.size ≤ g ∧ IntRow w' g n ∧ Src w' B ∧ Chg B w w'

theorem draw_any (B : Nat) (w : World) (hs : Src w B) : Calls Try.prog 89 #[.pointer (some ⟨B, 0, none⟩)] w (ATr B w) := by
  have hB := hs.lt
  have hn0 : w.heap.size ≠ B := by omega
  go_enter Try.func89, Try.ntmps89
  go_wp2_with fail
  refine (next_pos _ _ _ (by repeat (first | with_reducible assumption | with_reducible apply Src.alloc | with_reducible apply Src.drew | with_reducible apply Src.drewN)) (by omega)).mono ?_
  rintro e w1 ⟨r, rfl, r0, r1, hs1, hc1⟩
  have R := ((Box.new (w := w) (vs := [.slice none 0 0]) (t := 46) rfl).chg hc1 hn0)
  go_wp2_with fail
  refine (drawFrom_any _ _ _ hs1 r0 (by omega)).mono ?_
  rintro e w2 ⟨v, fs, rfl, h2, h8, hO, hs2, hc2⟩
  have R2 := R.chg hc2 hn0
  obtain ⟨q0, qf⟩ := R2 0 _ rfl
  have z1 := hc1.size
  simp at z1
  have hC := (((Chg.refl B w).alloc (.cells #[.slice none 0 0] 46)).trans hc1).trans hc2
  obtain ⟨a, cap, rfl, hcap, hF, hg⟩ := hO.fxs
  clear hc1 hc2 R R2 hs1
  go_wp2
  have g0 : (w2.setCell ⟨w.heap.size, 0, none⟩ (.slice a fs.length cap)).cell? ⟨w.heap.size, 0, none⟩ = some (.slice a fs.length cap) := World.cell?_setCell_same _ _ _ q0
  exact bodyPost_ret (v := Tr (.slice a fs.length cap)) (by simp [results, Try.results89, go_sem, g0]) rfl
    ⟨_, fs, rfl, h2, h8, (hO.chg ((Chg.refl _ _).setCell 0 _) (hO.block (by omega))).mono (by omega), hs2.setCell hB _, hC.setNew (Nat.le_refl _) _⟩

theorem anyT_done {B n g cap : Nat} {w F : World} {tmps : Array Value} {q0 : Value} (hq : F.cell? ⟨w.heap.size, 0, none⟩ = some q0) (hB : B < w.heap.size) (h1 : 1 ≤ n) (h2 : n ≤ 41) (h3 : n ≤ cap) (hg : w.heap.size < g) (hI : IntRow F g n) (hs : Src F B) (hC : Chg B w F)
    (ha : tmps[2]? = some (.pointer (some ⟨w.heap.size, 0, none⟩))) :
    bodyPost Try.prog Try.f51 (AnyT B w) Exit.ret ⟨tmps, []⟩ (F.setCell ⟨w.heap.size, 0, none⟩ (.slice (some ⟨g, 0, none⟩) n cap)) := by
  have g0 : (F.setCell ⟨w.heap.size, 0, none⟩ (.slice (some ⟨g, 0, none⟩) n cap)).cell? ⟨w.heap.size, 0, none⟩ = some (.slice (some ⟨g, 0, none⟩) n cap) := World.cell?_setCell_same _ _ _ hq
  exact bodyPost_ret (v := Tr (.slice (some ⟨g, 0, none⟩) n cap)) (by simp [results, Try.results51, go_sem, ha, g0]) rfl
    ⟨g, cap, n, rfl, h1, h2, h3, by omega, hI.chg ((Chg.refl _ _).setCell 0 _) (by omega), hs.setCell hB _, hC.setNew (Nat.le_refl _) _⟩

end Go.Proofs.Ytlheppblioglpaa.Trk
