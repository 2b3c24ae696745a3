/- FirstCrossing of both; comparing two equal crossings (laws). -/
import Derived.Test.YtccggjhmnbebbaaItr3
import Derived.Test.YtccggjhmnbebbaaCnt
import Derived.Test.YtccggjhmnbebbaaCrc
namespace Go.Proofs.Ytccggjhmnbebbaa.Rwk
open Go.ChangeShapes Go.WideShapes Go.ChangeAt Go.RowKit
open Go.Proofs.Ytccggjhmnbebbaa.Num Go.Proofs.Ytccggjhmnbebbaa.Kit Go.Proofs.Ytccggjhmnbebbaa.Pts Go.Proofs.Ytccggjhmnbebbaa.Seg Go.Proofs.Ytccggjhmnbebbaa.Gcd Go.Proofs.Ytccggjhmnbebbaa.Crs Go.Proofs.Ytccggjhmnbebbaa.Trk
set_option linter.unusedVariables false
set_option linter.unusedSimpArgs false

/-- What FirstCrossing answers. -/
def fiO (fs : List F3) (a b c d g : Int) : Bool := vCr fs a b c d && (g == 1 || g == -1)
def fiV (fs : List F3) (a b c d g f : Int) : C5 := if fiO fs a b c d g = true then fcV (crL fs a b c d (fs.length - 1)) g f else ⟨0, 0, 0, 0, 0⟩
def fiC (fs : List F3) (a b c d g f : Int) : Int := if vCr fs a b c d = true then (if g = 1 ∨ g = -1 then fcC (crL fs a b c d (fs.length - 1)) g f else 2) else 1
theorem fi_no {fs : List F3} {a b c d g f : Int} (h : vCr fs a b c d = false) : fiV fs a b c d g f = ⟨0, 0, 0, 0, 0⟩ ∧ fiC fs a b c d g f = 1 := by
  unfold fiV fiC fiO
  rw [h]; exact ⟨rfl, rfl⟩
theorem fi_bad {fs : List F3} {a b c d g f : Int} (h : vCr fs a b c d = true) (h1 : ¬ g = 1) (h2 : ¬ g = -1) : fiV fs a b c d g f = ⟨0, 0, 0, 0, 0⟩ ∧ fiC fs a b c d g f = 2 := by
  refine ⟨?_, (if_pos h).trans (if_neg (by omega))⟩
  unfold fiV fiO
  rw [h, beq_eq_false_iff_ne.2 h1, beq_eq_false_iff_ne.2 h2]; rfl
theorem fi_yes {fs : List F3} {a b c d g f : Int} (h : vCr fs a b c d = true) (h1 : g = 1 ∨ g = -1) : fiV fs a b c d g f = fcV (crL fs a b c d (fs.length - 1)) g f ∧ fiC fs a b c d g f = fcC (crL fs a b c d (fs.length - 1)) g f := by
  refine ⟨?_, (if_pos h).trans (if_pos h1)⟩
  unfold fiV fiO
  rw [h]
  rcases h1 with e | e <;> rw [e] <;> rfl
theorem vCr_no1 {fs : List F3} {a b c d : Int} (h : trB fs = false) : vCr fs a b c d = false := by unfold vCr; rw [h]; rfl
theorem vCr_no2 {fs : List F3} {a b c d : Int} (h : sgB a b c d = false) : vCr fs a b c d = false := by unfold vCr; rw [h, Bool.and_false]
theorem vCr_yes {fs : List F3} {a b c d : Int} (h1 : trB fs = true) (h2 : sgB a b c d = true) : vCr fs a b c d = true := by unfold vCr; rw [h1, h2]; rfl

abbrev FW (w : World) (sl : Value) (a b c d g f : Int) : World := (((((w.alloc (.cells #[sl] 26)).alloc (.cells #[.int .i64 a, .int .i64 b, .int .i64 c, .int .i64 d] 30)).alloc (.cells #[.int .i64 g] 2)).alloc (.cells #[.int .i64 f] 2)).alloc (.cells #[.int .i64 0, .int .i64 0, .int .i64 0, .int .i64 0, .int .i64 0] 42)).alloc (.cells #[.int .i64 0] 2)

theorem fi_done {fn : Nat} {n m : Nat} {w F : World} {tmps : Array Value} {ck : Int} (B : Box F n [.int .i64 0, .int .i64 0, .int .i64 0, .int .i64 0, .int .i64 0]) (C : Box F m [.int .i64 ck]) (hC : Ext w F) (ha : tmps[8]? = some (.pointer (some ⟨n, 0, none⟩))) (hb : tmps[9]? = some (.pointer (some ⟨m, 0, none⟩))) :
    bodyPost Try.prog Try.f15 (fun e w' => e = .returned (.tuple #[CrV ⟨0, 0, 0, 0, 0⟩, .int .i64 ck]) ∧ Ext w w') Exit.ret ⟨tmps, []⟩ F := by
  obtain ⟨⟨g0, g1, g2, g3, g4⟩, _⟩ := B.five
  have q0 := (C 0 _ rfl).1
  exact bodyPost_ret (v := .tuple #[CrV ⟨0, 0, 0, 0, 0⟩, .int .i64 ck]) (by simp [results, Try.f15, go_sem, ha, hb, g0, g1, g2, g3, g4, q0]) rfl ⟨rfl, hC⟩

set_option maxRecDepth 100000 in
set_option maxHeartbeats 2000000 in
theorem first_bad (a0 : Option Addr) (cap : Nat) (fs : List F3) (a b c d g f : Int) (w : World) (hf : Fxs w a0 fs) (ck : Int) (hck : (ck = 1 ∧ vCr fs a b c d = false) ∨ (ck = 2 ∧ vCr fs a b c d = true ∧ ¬ g = 1 ∧ ¬ g = -1)) :
    Calls Try.prog 15 #[Tr (.slice a0 fs.length cap), Sg a b c d, .int .i64 g, .int .i64 f] w fun e w' => e = .returned (.tuple #[CrV ⟨0, 0, 0, 0, 0⟩, .int .i64 ck]) ∧ Ext w w' := by
  obtain ⟨W0, hW0⟩ : ∃ W0, W0 = FW w (.slice a0 fs.length cap) a b c d g f := ⟨_, rfl⟩
  unfold FW at hW0
  have hX : Ext w W0 := hW0 ▸ ((((((Ext.refl w).alloc _).alloc _).alloc _).alloc _).alloc _).alloc _
  have c0 : W0.cell? ⟨w.heap.size, 0, none⟩ = some (.slice a0 fs.length cap) := by rw [hW0]; exact ((((((Ext.refl _).alloc _).alloc _).alloc _).alloc _).alloc _).cellOf (boxed 0 rfl rfl)
  have cl : ∀ i v, (#[.int .i64 a, .int .i64 b, .int .i64 c, .int .i64 d] : Array Value)[i]? = some v → W0.cell? ⟨w.heap.size + 1, i, none⟩ = some v := fun i v hv => by rw [hW0]; exact (((((Ext.refl _).alloc _).alloc _).alloc _).alloc _).cellOf (boxed i hv (by simp))
  have c1 : W0.cell? ⟨w.heap.size + 1, 0, none⟩ = some (.int .i64 a) := cl 0 _ rfl
  have c2 : W0.cell? ⟨w.heap.size + 1, 1, none⟩ = some (.int .i64 b) := cl 1 _ rfl
  have c3 : W0.cell? ⟨w.heap.size + 1, 2, none⟩ = some (.int .i64 c) := cl 2 _ rfl
  have c4 : W0.cell? ⟨w.heap.size + 1, 3, none⟩ = some (.int .i64 d) := cl 3 _ rfl
  have cg : W0.cell? ⟨w.heap.size + 1 + 1, 0, none⟩ = some (.int .i64 g) := by rw [hW0]; exact ((((Ext.refl _).alloc _).alloc _).alloc _).cellOf (boxed 0 rfl (by simp))
  have bR : Box W0 (w.heap.size + 1 + 1 + 1 + 1) [.int .i64 0, .int .i64 0, .int .i64 0, .int .i64 0, .int .i64 0] := by rw [hW0]; exact (Box.new5 (by simp)).alloc _
  have bC : Box W0 (w.heap.size + 1 + 1 + 1 + 1 + 1) [.int .i64 0] := by rw [hW0]; exact Box.new (by simp)
  have HF := Lib.hid (hf.ext hX)
  have hs0 : W0.heap.size = w.heap.size + 6 := by rw [hW0]; simp
  clear cl hf
  have fin : ∀ (F : World), Ext w F → Box F (w.heap.size + 1 + 1 + 1 + 1) [.int .i64 0, .int .i64 0, .int .i64 0, .int .i64 0, .int .i64 0] → Box F (w.heap.size + 1 + 1 + 1 + 1 + 1) [.int .i64 0] →
      Ext w ((((((F.setCell ⟨w.heap.size + 1 + 1 + 1 + 1, 0, none⟩ (.int .i64 0)).setCell ⟨w.heap.size + 1 + 1 + 1 + 1, 1, none⟩ (.int .i64 0)).setCell ⟨w.heap.size + 1 + 1 + 1 + 1, 2, none⟩ (.int .i64 0)).setCell ⟨w.heap.size + 1 + 1 + 1 + 1, 3, none⟩ (.int .i64 0)).setCell ⟨w.heap.size + 1 + 1 + 1 + 1, 4, none⟩ (.int .i64 0)).setCell ⟨w.heap.size + 1 + 1 + 1 + 1 + 1, 0, none⟩ (.int .i64 ck)) ∧
      Box ((((((F.setCell ⟨w.heap.size + 1 + 1 + 1 + 1, 0, none⟩ (.int .i64 0)).setCell ⟨w.heap.size + 1 + 1 + 1 + 1, 1, none⟩ (.int .i64 0)).setCell ⟨w.heap.size + 1 + 1 + 1 + 1, 2, none⟩ (.int .i64 0)).setCell ⟨w.heap.size + 1 + 1 + 1 + 1, 3, none⟩ (.int .i64 0)).setCell ⟨w.heap.size + 1 + 1 + 1 + 1, 4, none⟩ (.int .i64 0)).setCell ⟨w.heap.size + 1 + 1 + 1 + 1 + 1, 0, none⟩ (.int .i64 ck)) (w.heap.size + 1 + 1 + 1 + 1) [.int .i64 0, .int .i64 0, .int .i64 0, .int .i64 0, .int .i64 0] ∧
      Box ((((((F.setCell ⟨w.heap.size + 1 + 1 + 1 + 1, 0, none⟩ (.int .i64 0)).setCell ⟨w.heap.size + 1 + 1 + 1 + 1, 1, none⟩ (.int .i64 0)).setCell ⟨w.heap.size + 1 + 1 + 1 + 1, 2, none⟩ (.int .i64 0)).setCell ⟨w.heap.size + 1 + 1 + 1 + 1, 3, none⟩ (.int .i64 0)).setCell ⟨w.heap.size + 1 + 1 + 1 + 1, 4, none⟩ (.int .i64 0)).setCell ⟨w.heap.size + 1 + 1 + 1 + 1 + 1, 0, none⟩ (.int .i64 ck)) (w.heap.size + 1 + 1 + 1 + 1 + 1) [.int .i64 ck] := fun F h b k =>
    ⟨(((((h.setNew (by simp; omega) _).setNew (by simp; omega) _).setNew (by simp; omega) _).setNew (by simp; omega) _).setNew (by simp; omega) _).setNew (by simp; omega) _,
     (b.set5).away (by simp) _, ((((((k.away (by simp) _).away (by simp) _).away (by simp) _).away (by simp) _).away (by simp) _).set 0 (by simp) _)⟩
  have FIN := Lib.hid fin
  clear fin
  have RB := Lib.hid (And.intro bR bC)
  obtain ⟨⟨r0, r1, r2, r3, r4⟩, s0, s1, s2, s3, s4⟩ := bR.five
  have q0 := (bC 0 _ rfl).1
  have q1 := (bC 0 _ rfl).2
  clear bR bC
  cases hv : trB fs
  · obtain rfl : ck = 1 := by
      rcases hck with ⟨h, _⟩ | ⟨_, h, _⟩
      · exact h
      · rw [vCr_no1 hv] at h; cases h
    clear hck
    go_enter Try.func15, Try.ntmps15
    go_wp2_with fail
    rw [← hW0]
    clear hW0
    refine (trackValid_any _ _ _ _ HF.out).mono ?_
    rintro e w1 ⟨rfl, hx⟩
    rw [hv]
    replace r0 := hx.cellOf r0; replace r1 := hx.cellOf r1; replace r2 := hx.cellOf r2; replace r3 := hx.cellOf r3; replace r4 := hx.cellOf r4; replace q0 := hx.cellOf q0
    have bR := RB.out.1.ext hx
    have bC := RB.out.2.ext hx
    obtain ⟨_, s0, s1, s2, s3, s4⟩ := bR.five
    have q1 := (bC 0 _ rfl).2
    have RB2 := Lib.hid (And.intro bR bC)
    clear bR bC
    go_wp2
    obtain ⟨h1, h2, h3⟩ := FIN.out w1 (hX.trans hx) RB2.out.1 RB2.out.2
    exact fi_done (fn := 0) h2 h3 h1 rfl rfl
  · cases hs : sgB a b c d
    · obtain rfl : ck = 1 := by
        rcases hck with ⟨h, _⟩ | ⟨_, h, _⟩
        · exact h
        · rw [vCr_no2 hs] at h; cases h
      clear hck
      go_enter Try.func15, Try.ntmps15
      go_wp2_with fail
      rw [← hW0]
      clear hW0
      refine (trackValid_any _ _ _ _ HF.out).mono ?_
      rintro e w1 ⟨rfl, hx⟩
      rw [hv]
      replace c1 := hx.cellOf c1; replace c2 := hx.cellOf c2; replace c3 := hx.cellOf c3; replace c4 := hx.cellOf c4
      go_wp2_with fail
      refine (lineValid_any _ _ _ _ _).mono ?_
      rintro e w2 ⟨rfl, hy⟩
      rw [hs]
      replace hx := hx.trans hy
      replace r0 := hx.cellOf r0; replace r1 := hx.cellOf r1; replace r2 := hx.cellOf r2; replace r3 := hx.cellOf r3; replace r4 := hx.cellOf r4; replace q0 := hx.cellOf q0
      have bR := RB.out.1.ext hx
      have bC := RB.out.2.ext hx
      obtain ⟨_, s0, s1, s2, s3, s4⟩ := bR.five
      have q1 := (bC 0 _ rfl).2
      have RB2 := Lib.hid (And.intro bR bC)
      clear bR bC
      go_wp2
      obtain ⟨h1, h2, h3⟩ := FIN.out w2 (hX.trans hx) RB2.out.1 RB2.out.2
      exact fi_done (fn := 0) h2 h3 h1 rfl rfl
    · obtain ⟨rfl, g1, g2⟩ : ck = 2 ∧ ¬ g = 1 ∧ ¬ g = -1 := by
        rcases hck with ⟨_, h⟩ | ⟨h, _, h2⟩
        · rw [vCr_yes hv hs] at h; cases h
        · exact ⟨h, h2⟩
      have b1 : (g != 1) = true := by simp [g1]
      have b2 : (g != -1) = true := by simp [g2]
      have b3 : (g != 1 && g != -1) = true := by rw [b1, b2]; rfl
      clear hck
      go_enter Try.func15, Try.ntmps15
      go_wp2_with fail
      rw [← hW0]
      clear hW0
      refine (trackValid_any _ _ _ _ HF.out).mono ?_
      rintro e w1 ⟨rfl, hx⟩
      rw [hv]
      replace c1 := hx.cellOf c1; replace c2 := hx.cellOf c2; replace c3 := hx.cellOf c3; replace c4 := hx.cellOf c4
      go_wp2_with fail
      refine (lineValid_any _ _ _ _ _).mono ?_
      rintro e w2 ⟨rfl, hy⟩
      rw [hs]
      replace hx := hx.trans hy
      replace cg := hx.cellOf cg
      replace r0 := hx.cellOf r0; replace r1 := hx.cellOf r1; replace r2 := hx.cellOf r2; replace r3 := hx.cellOf r3; replace r4 := hx.cellOf r4; replace q0 := hx.cellOf q0
      have bR := RB.out.1.ext hx
      have bC := RB.out.2.ext hx
      obtain ⟨_, s0, s1, s2, s3, s4⟩ := bR.five
      have q1 := (bC 0 _ rfl).2
      have RB2 := Lib.hid (And.intro bR bC)
      clear bR bC
      go_wp2
      obtain ⟨h1, h2, h3⟩ := FIN.out w2 (hX.trans hx) RB2.out.1 RB2.out.2
      exact fi_done (fn := 0) h2 h3 h1 rfl rfl

theorem first_impl (a0 : Option Addr) (cap : Nat) (fs : List F3) (a b c d g f : Int) (w : World) (hf : Fxs w a0 fs) :
    Calls Try.prog 15 #[Tr (.slice a0 fs.length cap), Sg a b c d, .int .i64 g, .int .i64 f] w fun e w' => e = .returned (.tuple #[CrV (fiV fs a b c d g f), .int .i64 (fiC fs a b c d g f)]) ∧ Ext w w' := by
  cases h : vCr fs a b c d
  · obtain ⟨e1, e2⟩ := fi_no (g := g) (f := f) h
    rw [e1, e2]
    exact first_bad a0 cap fs a b c d g f w hf 1 (.inl ⟨rfl, h⟩)
  · by_cases h1 : g = 1
    · obtain ⟨e1, e2⟩ := fi_yes (f := f) h (.inl h1)
      have hb := h
      unfold vCr at hb
      rw [Bool.and_eq_true] at hb
      rw [e1, e2, h1]
      exact first_fwd a0 cap fs a b c d f w hf hb.1 hb.2
    · by_cases h2 : g = -1
      · obtain ⟨e1, e2⟩ := fi_yes (f := f) h (.inr h2)
        have hb := h
        unfold vCr at hb
        rw [Bool.and_eq_true] at hb
        rw [e1, e2, h2]
        exact first_bwd a0 cap fs a b c d f w hf hb.1 hb.2
      · obtain ⟨e1, e2⟩ := fi_bad (f := f) h h1 h2
        rw [e1, e2]
        exact first_bad a0 cap fs a b c d g f w hf 2 (.inr ⟨rfl, h, h1, h2⟩)

end Go.Proofs.Ytccggjhmnbebbaa.Rwk
