/- Rows of fixes in memory, and the contracts of the conversions and comparisons of tracks that the exact laws use. -/
import Derived.Test.YtknelhceaoblhaaPts
import Derived.Test.YtknelhceaoblhaaCel
import Derived.Deep.QuietTactic
import Derived.BigQuiet
import Derived.Deep.LoopGhost
import Derived.OwnWalk
import Derived.Laws.OwnMore
namespace Go.Proofs.Ytknelhceaoblhaa.Trk
open Go.ChangeShapes Go.WideShapes Go.ChangeAt Go.RowKit
open Go.Proofs.Ytknelhceaoblhaa.Num Go.Proofs.Ytknelhceaoblhaa.Kit Go.Proofs.Ytknelhceaoblhaa.Pts
set_option linter.unusedVariables false
set_option linter.unusedSimpArgs false

/-- A fix: its time and its point. -/
structure F3 where
  t : Int
  x : Int
  y : Int
deriving DecidableEq

abbrev Fx (t x y : Int) : Value := .agg #[.int .i64 t, .int .i64 x, .int .i64 y]
abbrev Tr (s : Value) : Value := .agg #[s]

/-- The fix number i of a list. -/
def fx (fs : List F3) (i : Nat) : F3 := fs.getD i ⟨0, 0, 0⟩

/-- Three cells from an address on hold a fix. -/
def At (w : World) (b o : Nat) (f : F3) : Prop := w.cell? ⟨b, o, none⟩ = some (.int .i64 f.t) ∧ w.cell? ⟨b, o + 1, none⟩ = some (.int .i64 f.x) ∧ w.cell? ⟨b, o + 2, none⟩ = some (.int .i64 f.y)
theorem At.ext {w w' : World} {b o : Nat} {f : F3} (h : At w b o f) (k : Ext w w') : At w' b o f := ⟨k.cellOf h.1, k.cellOf h.2.1, k.cellOf h.2.2⟩

/-- A slice that reads as a list of fixes. -/
def Fxs (w : World) (a : Option Addr) (fs : List F3) : Prop :=
  fs.length ≤ maxLen ∧ (fs = [] ∨ ∃ b off, a = some ⟨b, off, none⟩ ∧ ∀ i, i < fs.length → At w b (off + i * 3) (fx fs i))
theorem Fxs.ext {w w' : World} {a : Option Addr} {fs : List F3} (h : Fxs w a fs) (k : Ext w w') : Fxs w' a fs := by
  refine ⟨h.1, ?_⟩
  rcases h.2 with h | ⟨b, off, ha, h⟩
  · exact .inl h
  · exact .inr ⟨b, off, ha, fun i hi => (h i hi).ext k⟩

/-- Block B holds the fixes of a list one behind the other, and may be written. -/
def Own (w : World) (B : Nat) (fs : List F3) : Prop := ∀ i, i < fs.length → At w B (i * 3) (fx fs i) ∧ w.frozen? ⟨B, i * 3, none⟩ = false ∧ w.frozen? ⟨B, i * 3 + 1, none⟩ = false ∧ w.frozen? ⟨B, i * 3 + 2, none⟩ = false

/-- What is left of a bound behind a slice's length. -/
def szL (m : Int) (len : Nat) : Int := if m - len < 0 then -1 else m - len
theorem szL_neg {m : Int} {len : Nat} (h : m - len < 0) : szL m len = -1 := if_pos h
theorem szL_pos {m : Int} {len : Nat} (h : ¬ m - len < 0) : szL m len = m - len := if_neg h

theorem szFixS_any (a : Option Addr) (len cap : Nat) (m : Int) (w : World) (hl : len ≤ maxLen) (h0 : 0 ≤ m) (hm : m ≤ 1048576) :
    Calls Try.prog 26 #[.slice a len cap, .int .i64 m] w fun e w' => e = .returned (.int .i64 (szL m len)) ∧ w = w' := by
  unfold maxLen at hl
  by_cases h : m - len < 0
  · have H := Lib.hid (szL_neg h)
    go_enter Try.func26, Try.ntmps26
    go_wp2
    go_ret
    exact ⟨ret_int H.out, rfl⟩
  · have H := Lib.hid (szL_pos h)
    go_enter Try.func26, Try.ntmps26
    go_wp2
    go_ret
    exact ⟨ret_int H.out, rfl⟩

theorem szTrack_any (a : Option Addr) (len cap : Nat) (m : Int) (w : World) (hl : len ≤ maxLen) (h0 : 0 ≤ m) (hm : m ≤ 1048576) :
    Calls Try.prog 9 #[Tr (.slice a len cap), .int .i64 m] w fun e w' => e = .returned (.int .i64 (szL m len)) ∧ Ext w w' := by
  have HL := Lib.hid hl
  by_cases h : m - len < 0
  · have H := Lib.hid (szL_neg h)
    go_enter Try.func9, Try.ntmps9
    go_wp2_with (go_at_call 26; refine (szFixS_any _ _ _ _ _ HL.out h0 hm).mono ?_; rw [H.out]; rintro e w1 ⟨rfl, rfl⟩)
    go_ret
    exact ⟨ret_int H.out, (by repeat (first | exact Ext.refl _ | assumption | apply Ext.alloc | apply Ext.drew | (refine Ext.trans ?_ (by assumption)) | (refine Ext.setNew ?_ (by simp <;> omega) _)))⟩
  · have H := Lib.hid (szL_pos h)
    go_enter Try.func9, Try.ntmps9
    go_wp2_with (go_at_call 26; refine (szFixS_any _ _ _ _ _ HL.out h0 hm).mono ?_; rw [H.out]; rintro e w1 ⟨rfl, rfl⟩)
    go_ret
    exact ⟨ret_int H.out, (by repeat (first | exact Ext.refl _ | assumption | apply Ext.alloc | apply Ext.drew | (refine Ext.trans ?_ (by assumption)) | (refine Ext.setNew ?_ (by simp <;> omega) _)))⟩

theorem toFix_any (t x y : Int) (w : World) : Calls Try.prog 40 #[Fx t x y] w fun e w' => e = .returned (Fx t x y) ∧ Ext w w' := by
  go_enter Try.func40, Try.ntmps40
  go_wp2
  exact bodyPost_ret (v := Fx t x y) (by simp [results, Try.results40, go_sem]) rfl ⟨rfl, (by repeat (first | exact Ext.refl _ | assumption | apply Ext.alloc | apply Ext.drew | (refine Ext.trans ?_ (by assumption)) | (refine Ext.setNew ?_ (by simp <;> omega) _)))⟩

/-- Are two fixes equal? -/
def eqF (f g : F3) : Bool := (f.t == g.t) && ((f.x == g.x) && (f.y == g.y))

theorem eqFix_any (t x y u p q : Int) (w : World) : Calls Try.prog 46 #[Fx t x y, Fx u p q] w fun e w' => e = .returned (.bool (eqF ⟨t, x, y⟩ ⟨u, p, q⟩)) ∧ Ext w w' := by
  have H := Lib.hid (show eqF ⟨t, x, y⟩ ⟨u, p, q⟩ = ((t == u) && ((x == p) && (y == q))) from rfl)
  cases h1 : (t == u)
  · rw [h1] at H
    have h1' : (t != u) = true := by simp [bne, h1]
    go_enter Try.func46, Try.ntmps46
    go_wp2
    go_ret
    exact ⟨ret_bool H.out, (by repeat (first | exact Ext.refl _ | assumption | apply Ext.alloc | apply Ext.drew | (refine Ext.trans ?_ (by assumption)) | (refine Ext.setNew ?_ (by simp <;> omega) _)))⟩
  · rw [h1] at H
    have h1' : (t != u) = false := by simp [bne, h1]
    cases h2 : (x == p)
    · rw [h2] at H
      have h2' : (x != p) = true := by simp [bne, h2]
      go_enter Try.func46, Try.ntmps46
      go_wp2
      go_ret
      exact ⟨ret_bool H.out, (by repeat (first | exact Ext.refl _ | assumption | apply Ext.alloc | apply Ext.drew | (refine Ext.trans ?_ (by assumption)) | (refine Ext.setNew ?_ (by simp <;> omega) _)))⟩
    · rw [h2] at H
      have h2' : (x != p) = false := by simp [bne, h2]
      cases h3 : (y == q)
      · rw [h3] at H
        have h3' : (y != q) = true := by simp [bne, h3]
        go_enter Try.func46, Try.ntmps46
        go_wp2
        go_ret
        exact ⟨ret_bool H.out, (by repeat (first | exact Ext.refl _ | assumption | apply Ext.alloc | apply Ext.drew | (refine Ext.trans ?_ (by assumption)) | (refine Ext.setNew ?_ (by simp <;> omega) _)))⟩
      · rw [h3] at H
        have h3' : (y != q) = false := by simp [bne, h3]
        go_enter Try.func46, Try.ntmps46
        go_wp2
        go_ret
        exact ⟨ret_bool H.out, (by repeat (first | exact Ext.refl _ | assumption | apply Ext.alloc | apply Ext.drew | (refine Ext.trans ?_ (by assumption)) | (refine Ext.setNew ?_ (by simp <;> omega) _)))⟩

/-- What toFixS leaves: a new row of the same fixes. -/
def NewF (w : World) (fs : List F3) (e : Ending) (w' : World) : Prop := ∃ B, e = .returned (.slice (some ⟨B, 0, none⟩) fs.length fs.length) ∧ w.heap.size ≤ B ∧ Own w' B fs ∧ Ext w w'

/-- What its loop keeps: the block's cells are there and may be written; the first fixes are copied. -/
def RelT (w : World) (fs : List F3) (i : Value) (wr : World) : Prop :=
  ∃ k : Nat, i = .int .i64 k ∧ k ≤ fs.length ∧ (∀ j, j < fs.length * 3 → (∃ v, wr.cell? ⟨w.heap.size, j, none⟩ = some v) ∧ wr.frozen? ⟨w.heap.size, j, none⟩ = false) ∧ (∀ j, j < k → At wr w.heap.size (j * 3) (fx fs j)) ∧ Ext w wr

theorem RelT.step {w wr w2 : World} {fs : List F3} {k : Nat} (hk : k < fs.length) (hc : ∀ j, j < fs.length * 3 → (∃ v, wr.cell? ⟨w.heap.size, j, none⟩ = some v) ∧ wr.frozen? ⟨w.heap.size, j, none⟩ = false)
    (hd : ∀ j, j < k → At wr w.heap.size (j * 3) (fx fs j)) (hx : Ext w wr) (hy : Ext wr w2) :
    RelT w fs (.int .i64 (k + 1)) (((w2.setCell ⟨w.heap.size, k * 3, none⟩ (.int .i64 (fx fs k).t)).setCell ⟨w.heap.size, k * 3 + 1, none⟩ (.int .i64 (fx fs k).x)).setCell ⟨w.heap.size, k * 3 + 2, none⟩ (.int .i64 (fx fs k).y)) := by
  obtain ⟨⟨v0, d0⟩, f0⟩ := hc (k * 3) (by omega)
  obtain ⟨⟨v1, d1⟩, f1⟩ := hc (k * 3 + 1) (by omega)
  obtain ⟨⟨v2, d2⟩, f2⟩ := hc (k * 3 + 2) (by omega)
  have other : ∀ (W : World) (p q : Nat) (u : Value), p ≠ q → (W.setCell ⟨w.heap.size, p, none⟩ u).cell? ⟨w.heap.size, q, none⟩ = W.cell? ⟨w.heap.size, q, none⟩ := fun W p q u h => World.cell?_setCell_other _ _ _ _ (by simp <;> omega)
  refine ⟨k + 1, by go_num, by omega, fun j hj => ?_, fun j hj => ?_, ?_⟩
  · obtain ⟨⟨v, hv⟩, hf⟩ := hc j hj
    refine ⟨?_, by simp only [World.frozen?_setCell]; exact hy.thawOf hv hf⟩
    by_cases h2 : k * 3 + 2 = j
    · subst h2; exact ⟨_, World.cell?_setCell_same _ _ _ (by rw [other _ _ _ _ (by omega), other _ _ _ _ (by omega)]; exact hy.cellOf d2)⟩
    · rw [other _ _ _ _ h2]
      by_cases h1 : k * 3 + 1 = j
      · subst h1; exact ⟨_, World.cell?_setCell_same _ _ _ (by rw [other _ _ _ _ (by omega)]; exact hy.cellOf d1)⟩
      · rw [other _ _ _ _ h1]
        by_cases h0 : k * 3 = j
        · subst h0; exact ⟨_, World.cell?_setCell_same _ _ _ (hy.cellOf d0)⟩
        · rw [other _ _ _ _ h0]; exact ⟨_, hy.cellOf hv⟩
  · by_cases h : j = k
    · subst h
      refine ⟨?_, ?_, ?_⟩
      · rw [other _ _ _ _ (by omega), other _ _ _ _ (by omega)]; exact World.cell?_setCell_same _ _ _ (hy.cellOf d0)
      · rw [other _ _ _ _ (by omega)]; exact World.cell?_setCell_same _ _ _ (by rw [other _ _ _ _ (by omega)]; exact hy.cellOf d1)
      · exact World.cell?_setCell_same _ _ _ (by rw [other _ _ _ _ (by omega), other _ _ _ _ (by omega)]; exact hy.cellOf d2)
    · obtain ⟨g0, g1, g2⟩ := (hd j (by omega)).ext hy
      refine ⟨?_, ?_, ?_⟩
      all_goals
        rw [other _ _ _ _ (by omega), other _ _ _ _ (by omega), other _ _ _ _ (by omega)]; assumption
  · exact (((hx.trans hy).setNew (Nat.le_refl _) _).setNew (Nat.le_refl _) _).setNew (Nat.le_refl _) _

theorem fixInfo : (Try.prog.info? 73).map (fun i => (i.zero, i.size, i.bytes)) = some (some (Fx 0 0 0), 3, 24) := by kernel_rfl

theorem Ext.grown {w w' : World} (h : w.grownBy w' none) : Ext w w' := by
  obtain ⟨h1, h2, h3, h4, h5⟩ := h
  exact ⟨h1, h2, h3, h4, fun i hi => h5 i hi (by simp)⟩

theorem madeAt {w' : World} {e : TypeId} {n b g : Nat} {z : Value} (h : w'.ownsRow b e 3 (.slice (some ⟨g, 0, none⟩) n n) n (madeCells z.cells (n * 3)).toList) (j : Nat) (hj : j < n * 3) :
    (∃ v, w'.cell? ⟨g, j, none⟩ = some v) ∧ w'.frozen? ⟨g, j, none⟩ = false := by
  refine ⟨?_, h.frozenAt j⟩
  rw [h.cellAt j hj]
  exact ⟨_, List.getElem?_eq_getElem (by simpa [size_madeCells] using hj)⟩

set_option maxHeartbeats 400000 in
theorem toFixS_any (a : Option Addr) (cap : Nat) (fs : List F3) (w : World) (hf : Fxs w a fs) (hl : fs.length ≤ 1048576) : Calls Try.prog 29 #[.slice a fs.length cap] w (NewF w fs) := by
  have HF := Lib.hid hf
  have hm : fs.length ≤ 1000000000 := by omega
  clear hf hl
  obtain ⟨i0, hi, hz0, hz1, hz2⟩ := info_parts fixInfo
  go_enter Try.func29, Try.ntmps29
  go_wp2_with (at_make; refine wpList_make_full _ rfl _ _ 35 rfl w.heap.size 73 i0 (Fx 0 0 0) 3 Try.underlying35 hi hz0 hz1 _ _ _ _ fs.length rfl rfl rfl rfl (by rw [hz2]; omega) (by unfold maxLen; omega) (Nat.le_refl _) ?_; intro w1 hown hgrow)
  have HO := Lib.hid hown
  have HG := Lib.hid (Ext.grown hgrow)
  clear hown hgrow
  go_loopw [4] (fun i wr => RelT w fs i wr) (fun i _ => fs.length - (intOf i).toNat)
  case atStart => exact ⟨0, rfl, Nat.zero_le _, fun j hj => madeAt HO.out j hj, fun j hj => absurd hj (by omega), HG.out⟩
  case round =>
    obtain ⟨k, rfl, hk, hc, hd, hx⟩ := hrel
    have HC := Lib.hid hc
    have HD := Lib.hid hd
    have HX := Lib.hid hx
    clear hc hd hx
    by_cases hk1 : k < fs.length
    · rcases HF.out.2 with h0 | ⟨b, off, rfl, hb⟩
      · rw [h0] at hk1; simp at hk1
      have HB := Lib.hid hb
      clear hb
      obtain ⟨c0, c1, c2⟩ := (HB.out k hk1).ext HX.out
      go_wp2_with fail
      refine (toFix_any _ _ _ _).mono ?_
      rintro e w2 ⟨rfl, hy⟩
      obtain ⟨⟨v0, d0⟩, f0⟩ := HC.out (k * 3) (by omega)
      obtain ⟨⟨v1, d1⟩, f1⟩ := HC.out (k * 3 + 1) (by omega)
      obtain ⟨⟨v2, d2⟩, f2⟩ := HC.out (k * 3 + 2) (by omega)
      replace f0 := hy.thawOf d0 f0
      replace f1 := hy.thawOf d1 f1
      replace f2 := hy.thawOf d2 f2
      replace d0 := hy.cellOf d0
      replace d1 := hy.cellOf d1
      replace d2 := hy.cellOf d2
      have HY := Lib.hid hy
      clear hy c0 c1 c2
      go_wp2
      go_roundw
      case rel => exact RelT.step hk1 HC.out HD.out HX.out HY.out
      case measure => simp [intOf]; omega
    · obtain rfl : k = fs.length := by omega
      go_wp2
      go_ret
      exact ⟨w.heap.size, rfl, Nat.le_refl _, fun j hj => ⟨HD.out j hj, (HC.out _ (by omega)).2, (HC.out _ (by omega)).2, (HC.out _ (by omega)).2⟩, HX.out⟩

/-- What toTrack leaves: a track with a new row of the same fixes. -/
def NewT (w : World) (fs : List F3) (e : Ending) (w' : World) : Prop := ∃ B, e = .returned (Tr (.slice (some ⟨B, 0, none⟩) fs.length fs.length)) ∧ w.heap.size ≤ B ∧ Own w' B fs ∧ Ext w w'

theorem Own.ext {w w' : World} {B : Nat} {fs : List F3} (h : Own w B fs) (k : Ext w w') : Own w' B fs :=
  fun i hi => ⟨(h i hi).1.ext k, k.thawOf (h i hi).1.1 (h i hi).2.1, k.thawOf (h i hi).1.2.1 (h i hi).2.2.1, k.thawOf (h i hi).1.2.2 (h i hi).2.2.2⟩
theorem Own.fxs {w : World} {B : Nat} {fs : List F3} (h : Own w B fs) (hl : fs.length ≤ maxLen) : Fxs w (some ⟨B, 0, none⟩) fs :=
  ⟨hl, .inr ⟨B, 0, rfl, fun i hi => by rw [Nat.zero_add]; exact (h i hi).1⟩⟩

theorem Own.away {w w' : World} {B n : Nat} {fs : List F3} (h : Own w B fs) (k : Chg n w w') (hn : B ≠ n) : Own w' B fs :=
  fun i hi => ⟨⟨k.cellOf hn (h i hi).1.1, k.cellOf hn (h i hi).1.2.1, k.cellOf hn (h i hi).1.2.2⟩, k.thawOf hn (h i hi).1.1 (h i hi).2.1, k.thawOf hn (h i hi).1.2.1 (h i hi).2.2.1, k.thawOf hn (h i hi).1.2.2 (h i hi).2.2.2⟩

theorem toTrack_any (a : Option Addr) (cap : Nat) (fs : List F3) (w : World) (hf : Fxs w a fs) (hl : fs.length ≤ 1048576) : Calls Try.prog 11 #[Tr (.slice a fs.length cap)] w (NewT w fs) := by
  have HF := Lib.hid hf
  have HL := Lib.hid hl
  clear hf hl
  go_enter Try.func11, Try.ntmps11
  go_wp2_with fail
  refine (toFixS_any _ _ _ _ (HF.out.ext (by repeat (first | exact Ext.refl _ | assumption | apply Ext.alloc | apply Ext.drew | (refine Ext.trans ?_ (by assumption)) | (refine Ext.setNew ?_ (by simp <;> omega) _)))) HL.out).mono ?_
  rintro e w1 ⟨B, rfl, hB, hO, hx⟩
  have HO := Lib.hid hO
  have HX := Lib.hid hx
  simp at hB
  clear hO
  obtain ⟨hc, hf⟩ := hx.facts; have hz := hx.size; (try simp at hz); (try (have hz0 : w.heap.size < w1.heap.size := by omega)); (try (have hz1 : w.heap.size + 1 < w1.heap.size := by omega)); (try (have hz2 : w.heap.size + 1 + 1 < w1.heap.size := by omega)); (try (have hz3 : w.heap.size + 1 + 1 + 1 < w1.heap.size := by omega))
  clear hx
  go_wp2
  have HB := Lib.hid hB
  clear hB
  have g0 : w1.cell? ⟨w.heap.size + 1, 0, none⟩ = some (.slice none 0 0) := HX.out.cellOf (((Ext.refl _).alloc _).cellOf (boxed 0 rfl (by simp)))
  refine bodyPost_ret (v := Tr (.slice (some ⟨B, 0, none⟩) fs.length fs.length)) (by simp [results, Try.results11, go_sem, g0]) rfl ⟨B, rfl, by have := HB.out; omega, ?_, ?_⟩
  · exact (HO.out.away ((Chg.refl _ _).setCell 0 _) (by have := HB.out; omega)).away ((Chg.refl _ _).setCell 0 _) (by have := HB.out; omega)
  · exact ((((((Ext.refl w).alloc _).alloc _).alloc _).trans HX.out).setNew (p := ⟨w.heap.size + 1 + 1, 0, none⟩) (by simp <;> omega) _).setNew (p := ⟨w.heap.size + 1, 0, none⟩) (by simp) _

/-- What eqFixS keeps. -/
def RelE (w : World) (n : Nat) (i : Value) (wr : World) : Prop := ∃ k : Nat, i = .int .i64 k ∧ k ≤ n ∧ Ext w wr

theorem eqF_refl (f : F3) : eqF ⟨f.t, f.x, f.y⟩ ⟨f.t, f.x, f.y⟩ = true := by simp [eqF]
theorem eqFix_same (t x y : Int) (w : World) : Calls Try.prog 46 #[Fx t x y, Fx t x y] w fun e w' => e = .returned (.bool true) ∧ Ext w w' := by
  have h := eqFix_any t x y t x y w
  rw [show eqF ⟨t, x, y⟩ ⟨t, x, y⟩ = true by simp [eqF]] at h
  exact h

theorem eqFixS_same (a b : Option Addr) (cap cap' : Nat) (fs : List F3) (w : World) (ha : Fxs w a fs) (hb : Fxs w b fs) : Calls Try.prog 32 #[.slice a fs.length cap, .slice b fs.length cap'] w fun e w' => e = .returned (.bool true) ∧ Ext w w' := by
  have hm := ha.1
  unfold maxLen at hm
  have HA := Lib.hid ha
  have HB := Lib.hid hb
  clear ha hb
  go_enter Try.func32, Try.ntmps32
  go_wp2
  go_loopw [5] (fun i wr => RelE w fs.length i wr) (fun i _ => fs.length - (intOf i).toNat)
  case atStart => exact ⟨0, rfl, Nat.zero_le _, Ext.refl _⟩
  case round =>
    obtain ⟨k, rfl, hk, hx⟩ := hrel
    have HX := Lib.hid hx
    clear hx
    by_cases hk1 : k < fs.length
    · rcases HA.out.2 with h0 | ⟨b1, o1, rfl, h1⟩
      · rw [h0] at hk1; simp at hk1
      rcases HB.out.2 with h0 | ⟨b2, o2, rfl, h2⟩
      · rw [h0] at hk1; simp at hk1
      obtain ⟨c0, c1, c2⟩ := (h1 k hk1).ext HX.out
      obtain ⟨d0, d1, d2⟩ := (h2 k hk1).ext HX.out
      clear h1 h2
      have i0 : (0 : Int) ≤ (k : Int) := by omega
      have i1 : (k : Int) < (fs.length : Int) := by omega
      go_wp2_with fail
      go_region_held3 (fun w' => w'.cell? ⟨b1, o1 + k * 3, none⟩ = some (.int .i64 (fx fs k).t) ∧ w'.cell? ⟨b1, o1 + k * 3 + 1, none⟩ = some (.int .i64 (fx fs k).x) ∧ w'.cell? ⟨b1, o1 + k * 3 + 2, none⟩ = some (.int .i64 (fx fs k).y) ∧ w'.cell? ⟨b2, o2 + k * 3, none⟩ = some (.int .i64 (fx fs k).t) ∧ w'.cell? ⟨b2, o2 + k * 3 + 1, none⟩ = some (.int .i64 (fx fs k).x) ∧ w'.cell? ⟨b2, o2 + k * 3 + 2, none⟩ = some (.int .i64 (fx fs k).y))
        (first | go_keep | (go_split_ands; refine ⟨?_, ?_, ?_, ?_, ?_, ?_⟩ <;> exact Ext.cellOf hy (by assumption)))
        (first | (go_at_call 46; refine (eqFix_same _ _ _ _).mono ?_; rintro e w1 ⟨rfl, hy⟩))
      have HX2 := Lib.hid (HX.out.drew.trans hy)
      clear hy c0 c1 c2 d0 d1 d2
      go_wp2
      go_roundw
      case rel => exact ⟨k + 1, by go_num, by omega, HX2.out⟩
      case measure => simp [intOf]; omega
    · obtain rfl : k = fs.length := by omega
      go_wp2
      go_ret
      exact ⟨rfl, HX.out⟩

theorem eqTrack_same (a b : Option Addr) (cap cap' : Nat) (fs : List F3) (w : World) (ha : Fxs w a fs) (hb : Fxs w b fs) : Calls Try.prog 14 #[Tr (.slice a fs.length cap), Tr (.slice b fs.length cap')] w fun e w' => e = .returned (.bool true) ∧ Ext w w' := by
  have HA := Lib.hid ha
  have HB := Lib.hid hb
  clear ha hb
  go_enter Try.func14, Try.ntmps14
  go_wp2_with fail
  refine (eqFixS_same _ _ _ _ _ _ (HA.out.ext (by repeat (first | exact Ext.refl _ | assumption | apply Ext.alloc | apply Ext.drew | (refine Ext.trans ?_ (by assumption)) | (refine Ext.setNew ?_ (by simp <;> omega) _)))) (HB.out.ext (by repeat (first | exact Ext.refl _ | assumption | apply Ext.alloc | apply Ext.drew | (refine Ext.trans ?_ (by assumption)) | (refine Ext.setNew ?_ (by simp <;> omega) _))))).mono ?_
  rintro e w1 ⟨rfl, hx⟩
  go_wp2
  go_ret
  exact ⟨rfl, (by repeat (first | exact Ext.refl _ | assumption | apply Ext.alloc | apply Ext.drew | (refine Ext.trans ?_ (by assumption)) | (refine Ext.setNew ?_ (by simp <;> omega) _)))⟩

end Go.Proofs.Ytknelhceaoblhaa.Trk
