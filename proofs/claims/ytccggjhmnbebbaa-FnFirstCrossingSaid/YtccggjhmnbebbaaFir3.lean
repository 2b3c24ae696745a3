/- FirstCrossing (spec). -/
import Derived.Test.YtccggjhmnbebbaaFir2
namespace Go.Proofs.Ytccggjhmnbebbaa.Rwk
open Go.ChangeShapes Go.WideShapes Go.ChangeAt Go.RowKit
open Go.Proofs.Ytccggjhmnbebbaa.Num Go.Proofs.Ytccggjhmnbebbaa.Kit Go.Proofs.Ytccggjhmnbebbaa.Pts Go.Proofs.Ytccggjhmnbebbaa.Seg Go.Proofs.Ytccggjhmnbebbaa.Gcd Go.Proofs.Ytccggjhmnbebbaa.Crs Go.Proofs.Ytccggjhmnbebbaa.Trk
set_option linter.unusedVariables false
set_option linter.unusedSimpArgs false

set_option maxRecDepth 100000 in
set_option maxHeartbeats 4000000 in
theorem first_spec (a0 : Option Addr) (cap : Nat) (fs : List F3) (a b c d g f : Int) (w : World) (hf : Fxs w a0 fs) :
    Calls Try.prog 16 #[Tr (.slice a0 fs.length cap), Sg a b c d, .int .i64 g, .int .i64 f] w fun e w' => e = .returned (.tuple #[CrV (fiV fs a b c d g f), .int .i64 (fiC fs a b c d g f)]) ∧ Ext w w' := by
  obtain ⟨W0, hW0⟩ : ∃ W0, W0 = ((w.alloc (.cells #[.slice a0 fs.length cap] 26)).alloc (.cells #[.int .i64 a, .int .i64 b, .int .i64 c, .int .i64 d] 30)).alloc (.cells #[.int .i64 0, .int .i64 0, .int .i64 0, .int .i64 0, .int .i64 0] 42) := ⟨_, rfl⟩
  have hX : Ext w W0 := hW0 ▸ (((Ext.refl w).alloc _).alloc _).alloc _
  have c0 : W0.cell? ⟨w.heap.size, 0, none⟩ = some (.slice a0 fs.length cap) := by rw [hW0]; exact (((Ext.refl _).alloc _).alloc _).cellOf (boxed 0 rfl rfl)
  have cl : ∀ i v, (#[.int .i64 a, .int .i64 b, .int .i64 c, .int .i64 d] : Array Value)[i]? = some v → W0.cell? ⟨w.heap.size + 1, i, none⟩ = some v := fun i v hv => by rw [hW0]; exact ((Ext.refl _).alloc _).cellOf (boxed i hv (by simp))
  have c1 : W0.cell? ⟨w.heap.size + 1, 0, none⟩ = some (.int .i64 a) := cl 0 _ rfl
  have c2 : W0.cell? ⟨w.heap.size + 1, 1, none⟩ = some (.int .i64 b) := cl 1 _ rfl
  have c3 : W0.cell? ⟨w.heap.size + 1, 2, none⟩ = some (.int .i64 c) := cl 2 _ rfl
  have c4 : W0.cell? ⟨w.heap.size + 1, 3, none⟩ = some (.int .i64 d) := cl 3 _ rfl
  have bR : Box W0 (w.heap.size + 1 + 1) [.int .i64 0, .int .i64 0, .int .i64 0, .int .i64 0, .int .i64 0] := by rw [hW0]; exact Box.new5 (by simp)
  have RB := Lib.hid bR
  have HF := Lib.hid (hf.ext hX)
  have HX := Lib.hid hX
  clear cl hf bR hX
  go_enter Try.func16, Try.ntmps16
  go_wp2_with fail
  rw [← hW0]
  clear hW0
  refine (isTrack_spec _ _ _ _ HF.out).mono ?_
  rintro e w1 ⟨rfl, hx⟩
  cases hv : trB fs
  · obtain ⟨E1, E2⟩ := fi_no (g := g) (f := f) (vCr_no1 (a := a) (b := b) (c := c) (d := d) hv)
    have HE := Lib.hid (And.intro E1 E2)
    clear E1 E2
    have RB3 := Lib.hid (RB.out.ext hx)
    obtain ⟨⟨r0, r1, r2, r3, r4⟩, s0, s1, s2, s3, s4⟩ := RB3.out.five
    go_wp2
    rw [HE.out.1, HE.out.2]
    obtain ⟨h1, h2⟩ := put5_ok (HX.out.trans hx) (by omega) RB3.out ⟨0, 0, 0, 0, 0⟩
    exact f1_done h2 h1 rfl rfl
  · replace c0 := hx.cellOf c0; replace c1 := hx.cellOf c1; replace c2 := hx.cellOf c2; replace c3 := hx.cellOf c3; replace c4 := hx.cellOf c4
    go_wp2_with fail
    refine (isLine_spec _ _ _ _ _).mono ?_
    rintro e w2 ⟨rfl, hy⟩
    replace hx := hx.trans hy
    replace c0 := hy.cellOf c0; replace c1 := hy.cellOf c1; replace c2 := hy.cellOf c2; replace c3 := hy.cellOf c3; replace c4 := hy.cellOf c4
    have RB3 := Lib.hid (RB.out.ext hx)
    obtain ⟨⟨r0, r1, r2, r3, r4⟩, s0, s1, s2, s3, s4⟩ := RB3.out.five
    clear hy
    cases hs : sgB a b c d
    · obtain ⟨E1, E2⟩ := fi_no (g := g) (f := f) (vCr_no2 (fs := fs) hs)
      have HE := Lib.hid (And.intro E1 E2)
      clear E1 E2
      go_wp2
      rw [HE.out.1, HE.out.2]
      obtain ⟨h1, h2⟩ := put5_ok (HX.out.trans hx) (by omega) RB3.out ⟨0, 0, 0, 0, 0⟩
      exact f1_done h2 h1 rfl rfl
    · have HG := Lib.hid (vCr_yes (fs := fs) hv hs)
      have HL := Lib.hid (l05First_spec a0 cap fs a b c d g f w2 (HF.out.ext hx) hv hs)
      by_cases g1 : g = 1
      · obtain rfl := g1
        obtain ⟨E1, E2⟩ := fi_yes (f := f) HG.out (.inl rfl)
        have HE := Lib.hid (And.intro E1 E2)
        clear E1 E2
        generalize crL fs a b c d (fs.length - 1) = cs at *
        cases hd : fdB cs 1 f
        · have HV := Lib.hid (And.intro (fv_of hd) (show fcC cs 1 f = 4 by rw [fc_of, hd]; rfl))
          rw [hd] at HL
          go_wp2_with fail
          refine HL.out.mono ?_
          rintro e w3 ⟨rfl, hy⟩
          have hy2 := hy.alloc (.cells #[.int .i64 (fcV cs 1 f).t, .int .i64 (fcV cs 1 f).l, .int .i64 (fcV cs 1 f).g, .int .i64 (fcV cs 1 f).x, .int .i64 (fcV cs 1 f).y] 42)
          have RB4 := Lib.hid (RB3.out.ext hy2)
          obtain ⟨⟨r0, r1, r2, r3, r4⟩, s0, s1, s2, s3, s4⟩ := RB4.out.five
          go_wp2
          rw [HE.out.1, HE.out.2, HV.out.1, HV.out.2]
          obtain ⟨h1, h2⟩ := put5_ok (HX.out.trans (hx.trans hy2)) (by omega) RB4.out ⟨0, 0, 0, 0, 0⟩
          rw [HV.out.1] at h1 h2
          exact f1_done h2 h1 rfl rfl
        · have HV := Lib.hid (show fcC cs 1 f = 0 by rw [fc_of, hd]; rfl)
          rw [hd] at HL
          go_wp2_with fail
          refine HL.out.mono ?_
          rintro e w3 ⟨rfl, hy⟩
          have hy2 := hy.alloc (.cells #[.int .i64 (fcV cs 1 f).t, .int .i64 (fcV cs 1 f).l, .int .i64 (fcV cs 1 f).g, .int .i64 (fcV cs 1 f).x, .int .i64 (fcV cs 1 f).y] 42)
          have RB4 := Lib.hid (RB3.out.ext hy2)
          obtain ⟨⟨r0, r1, r2, r3, r4⟩, s0, s1, s2, s3, s4⟩ := RB4.out.five
          go_wp2
          rw [HE.out.1, HE.out.2, HV.out]
          obtain ⟨h1, h2⟩ := put5_ok (HX.out.trans (hx.trans hy2)) (by omega) RB4.out (fcV cs 1 f)
          exact f1_done h2 h1 rfl rfl
      · by_cases g2 : g = -1
        · obtain rfl := g2
          obtain ⟨E1, E2⟩ := fi_yes (f := f) HG.out (.inr rfl)
          have HE := Lib.hid (And.intro E1 E2)
          clear E1 E2
          generalize crL fs a b c d (fs.length - 1) = cs at *
          cases hd : fdB cs (-1) f
          · have HV := Lib.hid (And.intro (fv_of hd) (show fcC cs (-1) f = 4 by rw [fc_of, hd]; rfl))
            rw [hd] at HL
            go_wp2_with fail
            refine HL.out.mono ?_
            rintro e w3 ⟨rfl, hy⟩
            have hy2 := hy.alloc (.cells #[.int .i64 (fcV cs (-1) f).t, .int .i64 (fcV cs (-1) f).l, .int .i64 (fcV cs (-1) f).g, .int .i64 (fcV cs (-1) f).x, .int .i64 (fcV cs (-1) f).y] 42)
            have RB4 := Lib.hid (RB3.out.ext hy2)
            obtain ⟨⟨r0, r1, r2, r3, r4⟩, s0, s1, s2, s3, s4⟩ := RB4.out.five
            go_wp2
            rw [HE.out.1, HE.out.2, HV.out.1, HV.out.2]
            obtain ⟨h1, h2⟩ := put5_ok (HX.out.trans (hx.trans hy2)) (by omega) RB4.out ⟨0, 0, 0, 0, 0⟩
            rw [HV.out.1] at h1 h2
            exact f1_done h2 h1 rfl rfl
          · have HV := Lib.hid (show fcC cs (-1) f = 0 by rw [fc_of, hd]; rfl)
            rw [hd] at HL
            go_wp2_with fail
            refine HL.out.mono ?_
            rintro e w3 ⟨rfl, hy⟩
            have hy2 := hy.alloc (.cells #[.int .i64 (fcV cs (-1) f).t, .int .i64 (fcV cs (-1) f).l, .int .i64 (fcV cs (-1) f).g, .int .i64 (fcV cs (-1) f).x, .int .i64 (fcV cs (-1) f).y] 42)
            have RB4 := Lib.hid (RB3.out.ext hy2)
            obtain ⟨⟨r0, r1, r2, r3, r4⟩, s0, s1, s2, s3, s4⟩ := RB4.out.five
            go_wp2
            rw [HE.out.1, HE.out.2, HV.out]
            obtain ⟨h1, h2⟩ := put5_ok (HX.out.trans (hx.trans hy2)) (by omega) RB4.out (fcV cs (-1) f)
            exact f1_done h2 h1 rfl rfl
        · obtain ⟨E1, E2⟩ := fi_bad (f := f) HG.out g1 g2
          have HE := Lib.hid (And.intro E1 E2)
          have b1 : (g != 1) = true := by simp [g1]
          have b2 : (g != -1) = true := by simp [g2]
          have b3 : (g != 1 && g != -1) = true := by rw [b1, b2]; rfl
          clear E1 E2 HL
          go_wp2
          rw [HE.out.1, HE.out.2]
          obtain ⟨h1, h2⟩ := put5_ok (HX.out.trans hx) (by omega) RB3.out ⟨0, 0, 0, 0, 0⟩
          exact f1_done h2 h1 rfl rfl

end Go.Proofs.Ytccggjhmnbebbaa.Rwk
