import Derived.Test.YtknelhceaoblhaaGreatMPts
import Derived.Test.YtknelhceaoblhaaGreatRes
import Derived.IntWalk
import Derived.Deep.LoopGhost
namespace Go.Proofs.YtknelhceaoblhaaGreat.Trk
open Go.ChangeShapes Go.WideShapes Go.ChangeAt Go.RowKit
open Go.Proofs.YtknelhceaoblhaaGreat.Num Go.Proofs.YtknelhceaoblhaaGreat.Kit Go.Proofs.YtknelhceaoblhaaGreat.Pts
set_option linter.unusedVariables false
set_option linter.unusedSimpArgs false
def cellsF (fs : List F3) : List Value := fs.flatMap fun f => [.int .i64 f.t, .int .i64 f.x, .int .i64 f.y]
theorem cellsF_app (fs : List F3) (f : F3) : cellsF fs ++ [.int .i64 f.t, .int .i64 f.x, .int .i64 f.y] = cellsF (fs ++ [f]) := by simp [cellsF]
theorem cellsF_get : ∀ (fs : List F3) (i : Nat), i < fs.length → (cellsF fs)[i * 3]? = some (.int .i64 (fx fs i).t) ∧ (cellsF fs)[i * 3 + 1]? = some (.int .i64 (fx fs i).x) ∧ (cellsF fs)[i * 3 + 2]? = some (.int .i64 (fx fs i).y)
  | [], i, h => absurd h (by simp)
  | f :: fs, 0, _ => by simp [cellsF, fx]
  | f :: fs, i + 1, h => by
    have := cellsF_get fs i (by simpa using h)
    have e : cellsF (f :: fs) = .int .i64 f.t :: .int .i64 f.x :: .int .i64 f.y :: cellsF fs := by simp [cellsF]
    rw [e, show (i + 1) * 3 = i * 3 + 3 by omega]
    simpa [fx] using this
def OwnF (w : World) (base : Nat) (v : Value) (fs : List F3) : Prop := w.ownsRow base 103 3 v fs.length (cellsF fs)
theorem OwnF.fxs {w : World} {base : Nat} {v : Value} {fs : List F3} (h : OwnF w base v fs) : ∃ a cap, v = .slice a fs.length cap ∧ fs.length ≤ cap ∧ Fxs w a fs ∧ (fs = [] ∨ ∃ g, a = some ⟨g, 0, none⟩ ∧ base ≤ g ∧ Own w g fs) := by
  have h0 := h
  rcases h.2 with ⟨hv, hn⟩ | ⟨g, cap, cur, hv, hb, hg, hc, hm, hs, ht⟩
  · have e : fs = [] := List.length_eq_zero_iff.1 hn
    subst e
    exact ⟨none, 0, hv, Nat.le_refl _, ⟨by simp [maxLen], .inl rfl⟩, .inl rfl⟩
  · rw [hv] at h0
    have hO : Own w g fs := fun i hi => by
      obtain ⟨c0, c1, c2⟩ := cellsF_get fs i hi
      exact ⟨⟨by rw [h0.cellAt (i * 3) (by omega)]; exact c0, by rw [h0.cellAt (i * 3 + 1) (by omega)]; exact c1, by rw [h0.cellAt (i * 3 + 2) (by omega)]; exact c2⟩, h0.frozenAt _, h0.frozenAt _, h0.frozenAt _⟩
    exact ⟨some ⟨g, 0, none⟩, cap, hv, hc, hO.fxs (by omega), .inr ⟨g, rfl, hb, hO⟩⟩
theorem OwnF.nil (w : World) (base : Nat) : OwnF w base (.slice none 0 0) [] := World.ownsRow_nil w base _ 3
theorem OwnF.chg {w w' : World} {base B : Nat} {v : Value} {fs : List F3} (h : OwnF w base v fs) (k : Chg B w w') (hB : v.ownBlock ≠ some B) : OwnF w' base v fs :=
  World.ownsRow.kept h (row := some B) ⟨k.os, k.tape, k.output, k.size, fun i hi hne => k.block i hi (fun e => hne (by rw [e]))⟩ (.inr hB)
theorem OwnF.ext {w w' : World} {base : Nat} {v : Value} {fs : List F3} (h : OwnF w base v fs) (k : Ext w w') : OwnF w' base v fs := by
  refine World.ownsRow.kept h (row := none) ⟨Below.os k, Below.tape k, Below.output k, Below.size k, fun i hi _ => Below.block k i hi⟩ ?_
  cases v.ownBlock with
  | none => exact .inl rfl
  | some g => exact .inr (by simp)
theorem OwnF.block {w : World} {base : Nat} {v : Value} {fs : List F3} (h : OwnF w base v fs) {B : Nat} (hB : B < base) : v.ownBlock ≠ some B := fun e => by have := (World.ownsRow.lt h B e).1; omega
theorem OwnF.mono {w : World} {base b2 : Nat} {v : Value} {fs : List F3} (h : OwnF w base v fs) (hb : b2 ≤ base) : OwnF w b2 v fs := by
  refine ⟨h.1, ?_⟩
  rcases h.2 with h1 | ⟨g, cap, cur, hv, hg, r⟩
  · exact .inl h1
  · exact .inr ⟨g, cap, cur, hv, by omega, r⟩
theorem OwnF.snoc {w : World} {base : Nat} {v : Value} {fs : List F3} {t x y : Int} (h : w.ownsRow base 103 3 v (fs.length + 1) (cellsF fs ++ [.int .i64 t, .int .i64 x, .int .i64 y])) : OwnF w base v (fs ++ [⟨t, x, y⟩]) := by
  rw [cellsF_app fs ⟨t, x, y⟩] at h
  unfold OwnF
  rw [List.length_append]
  exact h
end Go.Proofs.YtknelhceaoblhaaGreat.Trk
namespace Go.Proofs.YtknelhceaoblhaaGreat.Trk
open Go.ChangeShapes Go.WideShapes Go.ChangeAt Go.RowKit
open Go.Proofs.YtknelhceaoblhaaGreat.Num Go.Proofs.YtknelhceaoblhaaGreat.Kit Go.Proofs.YtknelhceaoblhaaGreat.Pts
set_option linter.unusedVariables false
set_option linter.unusedSimpArgs false
def mkF (k : Int) (i : Nat) : F3 := ⟨k + 3 * i, k + 3 * i + 1, k + 3 * i + 2⟩
def Marked (w : World) (g : Nat) (k : Int) (j : Nat) : Prop := ∀ i, i < j → At w g (i * 3) (mkF k i)
def Room (w : World) (g n : Nat) : Prop := ∀ j, j < n * 3 → (∃ v, w.cell? ⟨g, j, none⟩ = some v) ∧ w.frozen? ⟨g, j, none⟩ = false
theorem Own.room {w : World} {g : Nat} {fs : List F3} (h : Own w g fs) : Room w g fs.length := by
  intro j hj
  obtain ⟨⟨c0, c1, c2⟩, f0, f1, f2⟩ := h (j / 3) (by omega)
  rcases (show j = j / 3 * 3 ∨ j = j / 3 * 3 + 1 ∨ j = j / 3 * 3 + 2 by omega) with e | e | e
  · rw [e]; exact ⟨⟨_, c0⟩, f0⟩
  · rw [e]; exact ⟨⟨_, c1⟩, f1⟩
  · rw [e]; exact ⟨⟨_, c2⟩, f2⟩
theorem Room.ext {w w' : World} {g n : Nat} (h : Room w g n) (k : Ext w w') : Room w' g n := fun j hj => by
  obtain ⟨⟨v, c⟩, f⟩ := h j hj
  exact ⟨⟨v, k.cellOf c⟩, k.thawOf c f⟩
def RelM (w : World) (g n : Nat) (k : Int) (s i : Value) (wr : World) : Prop :=
  ∃ j : Nat, i = .int .i64 j ∧ s = .int .i64 (k + 3 * j) ∧ j ≤ n ∧ Room wr g n ∧ Marked wr g k j ∧ Chg g w wr
theorem RelM.step {w wr : World} {g n : Nat} {k : Int} {j : Nat} (hj : j < n) (hr : Room wr g n) (hm : Marked wr g k j) (hx : Chg g w wr) :
    RelM w g n k (.int .i64 (k + 3 * j + 1 + 1 + 1)) (.int .i64 (j + 1)) (((wr.setCell ⟨g, j * 3, none⟩ (.int .i64 (k + 3 * j))).setCell ⟨g, j * 3 + 1, none⟩ (.int .i64 (k + 3 * j + 1))).setCell ⟨g, j * 3 + 2, none⟩ (.int .i64 (k + 3 * j + 1 + 1))) := by
  obtain ⟨⟨v0, d0⟩, f0⟩ := hr (j * 3) (by omega)
  obtain ⟨⟨v1, d1⟩, f1⟩ := hr (j * 3 + 1) (by omega)
  obtain ⟨⟨v2, d2⟩, f2⟩ := hr (j * 3 + 2) (by omega)
  have other : ∀ (W : World) (p q : Nat) (u : Value), p ≠ q → (W.setCell ⟨g, p, none⟩ u).cell? ⟨g, q, none⟩ = W.cell? ⟨g, q, none⟩ := fun W p q u h => World.cell?_setCell_other _ _ _ _ (by simp <;> omega)
  refine ⟨j + 1, by go_num, by congr 1; omega, by omega, fun i hi => ?_, fun i hi => ?_, ((hx.setCell _ _).setCell _ _).setCell _ _⟩
  · obtain ⟨⟨v, hv⟩, hf⟩ := hr i hi
    refine ⟨?_, by simp only [World.frozen?_setCell]; exact hf⟩
    by_cases h2 : j * 3 + 2 = i
    · subst h2; exact ⟨_, World.cell?_setCell_same _ _ _ (by rw [other _ _ _ _ (by omega), other _ _ _ _ (by omega)]; exact d2)⟩
    · rw [other _ _ _ _ h2]
      by_cases h1 : j * 3 + 1 = i
      · subst h1; exact ⟨_, World.cell?_setCell_same _ _ _ (by rw [other _ _ _ _ (by omega)]; exact d1)⟩
      · rw [other _ _ _ _ h1]
        by_cases h0 : j * 3 = i
        · subst h0; exact ⟨_, World.cell?_setCell_same _ _ _ d0⟩
        · rw [other _ _ _ _ h0]; exact ⟨_, hv⟩
  · by_cases h : i = j
    · subst h
      refine ⟨?_, ?_, ?_⟩
      · rw [other _ _ _ _ (by omega), other _ _ _ _ (by omega)]; exact World.cell?_setCell_same _ _ _ d0
      · rw [other _ _ _ _ (by omega)]; exact World.cell?_setCell_same _ _ _ (by rw [other _ _ _ _ (by omega)]; exact d1)
      · rw [show (mkF k i).y = k + 3 * i + 1 + 1 by simp [mkF]; omega]
        exact World.cell?_setCell_same _ _ _ (by rw [other _ _ _ _ (by omega), other _ _ _ _ (by omega)]; exact d2)
    · obtain ⟨g0, g1, g2⟩ := hm i (by omega)
      refine ⟨?_, ?_, ?_⟩
      all_goals
        rw [other _ _ _ _ (by omega), other _ _ _ _ (by omega), other _ _ _ _ (by omega)]; assumption
set_option maxHeartbeats 400000 in
theorem markFixS_any (g cap n : Nat) (k : Int) (w : World) (hr : Room w g n) (hn : n ≤ 1048576) (k0 : 0 ≤ k) (k1 : k ≤ 10000000) :
    Calls Tryz.prog 49 #[.slice (some ⟨g, 0, none⟩) n cap, .int .i64 k] w fun e w' => e = .returned (.int .i64 (k + 3 * n)) ∧ Room w' g n ∧ Marked w' g k n ∧ Chg g w w' := by
  have HR := Lib.hid hr
  clear hr
  go_enter Tryz.func49, Tryz.ntmps49
  go_wp2
  go_loopw [1, 5] (fun s i wr => RelM w g n k s i wr) (fun s i _ => n - (intOf i).toNat)
  case atStart => exact ⟨0, rfl, by simp, Nat.zero_le _, HR.out, fun i hi => absurd hi (by omega), Chg.refl _ _⟩
  case round =>
    obtain ⟨j, rfl, rfl, hj, hr, hm, hx⟩ := hrel
    have HR2 := Lib.hid hr
    have HM := Lib.hid hm
    have HX := Lib.hid hx
    clear hr hm hx
    by_cases hj1 : j < n
    · obtain ⟨⟨v0, d0⟩, f0⟩ := HR2.out (j * 3) (by omega)
      obtain ⟨⟨v1, d1⟩, f1⟩ := HR2.out (j * 3 + 1) (by omega)
      obtain ⟨⟨v2, d2⟩, f2⟩ := HR2.out (j * 3 + 2) (by omega)
      have i0 : (0 : Int) ≤ (j : Int) := by omega
      have i1 : (j : Int) < (n : Int) := by omega
      have T0 : IntKind.i64.wrap ((j : Int) + 1) = (j : Int) + 1 := IntWalk.i64_in _ (by omega)
      have T1 : IntKind.i64.wrap (k + 3 * (j : Int) + 1) = k + 3 * (j : Int) + 1 := IntWalk.i64_in _ (by omega)
      have T2 : IntKind.i64.wrap (k + 3 * (j : Int) + 1 + 1) = k + 3 * (j : Int) + 1 + 1 := IntWalk.i64_in _ (by omega)
      have T3 : IntKind.i64.wrap (k + 3 * (j : Int) + 1 + 1 + 1) = k + 3 * (j : Int) + 1 + 1 + 1 := IntWalk.i64_in _ (by omega)
      have z0 : decide ((j : Int) < (n : Int)) = true := decide_eq_true i1
      go_wp2
      go_roundw
      case rel => exact RelM.step hj1 HR2.out HM.out HX.out
      case measure => simp [intOf]; omega
    · obtain rfl : j = n := by omega
      go_wp2
      go_ret
      exact ⟨rfl, HR2.out, HM.out, HX.out⟩
theorem markTrack_any (g cap n : Nat) (k : Int) (w : World) (hr : Room w g n) (hn : n ≤ 1048576) (k0 : 0 ≤ k) (k1 : k ≤ 10000000) :
    Calls Tryz.prog 21 #[Tr (.slice (some ⟨g, 0, none⟩) n cap), .int .i64 k] w fun e w' => e = .returned (.int .i64 (k + 3 * n)) ∧ Room w' g n ∧ Marked w' g k n ∧ Chg g w w' := by
  have HR := Lib.hid hr
  clear hr
  go_enter Tryz.func21, Tryz.ntmps21
  go_wp2_with fail
  refine (markFixS_any _ _ _ _ _ (HR.out.ext (by repeat (first | exact Ext.refl _ | assumption | apply Ext.alloc | apply Ext.drew | (refine Ext.trans ?_ (by assumption)) | (refine Ext.setNew ?_ (by simp <;> omega) _)))) hn k0 k1).mono ?_
  rintro e w1 ⟨rfl, h1, h2, h3⟩
  have H := Lib.hid (And.intro h1 (And.intro h2 ((Chg.of_ext ((Ext.refl w).alloc _)).trans h3)))
  clear h1 h2 h3
  go_wp2
  go_ret
  exact ⟨rfl, H.out⟩
end Go.Proofs.YtknelhceaoblhaaGreat.Trk
namespace Go.Proofs.YtknelhceaoblhaaGreat.Trk
open Go.ChangeShapes Go.WideShapes Go.ChangeAt Go.RowKit
open Go.Proofs.YtknelhceaoblhaaGreat.Num Go.Proofs.YtknelhceaoblhaaGreat.Kit Go.Proofs.YtknelhceaoblhaaGreat.Pts
set_option linter.unusedVariables false
set_option linter.unusedSimpArgs false
theorem OwnF.cases {w : World} {base : Nat} {v : Value} {fs : List F3} (h : OwnF w base v fs) :
    (v = .slice none 0 0 ∧ fs = []) ∨ ∃ g cap, v = .slice (some ⟨g, 0, none⟩) fs.length cap ∧ base ≤ g ∧ Own w g fs ∧ v.ownBlock = some g := by
  have h0 := h
  rcases h.2 with ⟨hv, hn⟩ | ⟨g, cap, cur, hv, hb, hg, hc, hm, hs, ht⟩
  · exact .inl ⟨hv, List.length_eq_zero_iff.1 hn⟩
  · rw [hv] at h0
    refine .inr ⟨g, cap, hv, hb, fun i hi => ?_, by rw [hv]; rfl⟩
    obtain ⟨c0, c1, c2⟩ := cellsF_get fs i hi
    exact ⟨⟨by rw [h0.cellAt (i * 3) (by omega)]; exact c0, by rw [h0.cellAt (i * 3 + 1) (by omega)]; exact c1, by rw [h0.cellAt (i * 3 + 2) (by omega)]; exact c2⟩, h0.frozenAt _, h0.frozenAt _, h0.frozenAt _⟩
def ChgV (v : Value) (base : Nat) (w w' : World) : Prop := Ext w w' ∨ ∃ B, base ≤ B ∧ v.ownBlock = some B ∧ Chg B w w'
theorem ChgV.ext {v : Value} {base : Nat} {W w w' : World} (h : ChgV v base w w') (k : Ext W w) (hW : W.heap.size ≤ base) : Ext W w' := by
  rcases h with h | ⟨B, hB, _, h⟩
  · exact k.trans h
  · exact h.ext k (by omega)
theorem ChgV.cellOf {v : Value} {base : Nat} {w w' : World} (h : ChgV v base w w') {p : Addr} {x : Value} (hp : v.ownBlock ≠ some p.block) (hc : w.cell? p = some x) : w'.cell? p = some x := by
  rcases h with h | ⟨B, hB, e, h⟩
  · exact h.cellOf hc
  · exact h.cellOf (fun q => hp (by rw [q]; exact e)) hc
def Held (w : World) (v : Value) (k : Int) (n : Nat) : Prop := (v = .slice none 0 0 ∧ n = 0) ∨ ∃ g cap, v = .slice (some ⟨g, 0, none⟩) n cap ∧ Marked w g k n
theorem Held.ext {w w' : World} {v : Value} {k : Int} {n : Nat} (h : Held w v k n) (x : Ext w w') : Held w' v k n := by
  rcases h with h | ⟨g, cap, e, h⟩
  · exact .inl h
  · exact .inr ⟨g, cap, e, fun i hi => (h i hi).ext x⟩
theorem markTrack_zero (a : Option Addr) (cap : Nat) (k : Int) (w : World) : Calls Tryz.prog 21 #[Tr (.slice a 0 cap), .int .i64 k] w fun e w' => e = .returned (.int .i64 k) ∧ Ext w w' := by
  have h : Calls Tryz.prog 49 #[.slice a 0 cap, .int .i64 k] (w.alloc (.cells #[.slice a 0 cap] 30)) fun e w' => e = .returned (.int .i64 k) ∧ (w.alloc (.cells #[.slice a 0 cap] 30)) = w' := by
    go_enter Tryz.func49, Tryz.ntmps49
    go_wp2
    go_loopw [1, 5] (fun s i wr => i = .int .i64 0 ∧ s = .int .i64 k ∧ wr = (w.alloc (.cells #[.slice a 0 cap] 30))) (fun s i _ => 0)
    case atStart => exact ⟨rfl, rfl, rfl⟩
    case round =>
      obtain ⟨rfl, rfl, rfl⟩ := hrel
      go_wp2
      go_ret
      exact ⟨rfl, rfl⟩
  have H := Lib.hid h
  clear h
  go_enter Tryz.func21, Tryz.ntmps21
  go_wp2_with fail
  refine H.out.mono ?_
  rintro e w1 ⟨rfl, rfl⟩
  go_wp2
  go_ret
  exact ⟨rfl, (by repeat (first | exact Ext.refl _ | assumption | apply Ext.alloc | apply Ext.drew | (refine Ext.trans ?_ (by assumption)) | (refine Ext.setNew ?_ (by simp <;> omega) _)))⟩
end Go.Proofs.YtknelhceaoblhaaGreat.Trk
