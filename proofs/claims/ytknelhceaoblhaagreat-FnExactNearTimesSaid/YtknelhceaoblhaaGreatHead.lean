import Derived.Test.YtknelhceaoblhaaGreatSpd
import Derived.Deep.DeepCutAuto
namespace Go.Proofs.YtknelhceaoblhaaGreat.Trk
open Go.ChangeShapes Go.WideShapes Go.ChangeAt Go.RowKit
open Go.Proofs.YtknelhceaoblhaaGreat.Num Go.Proofs.YtknelhceaoblhaaGreat.Kit Go.Proofs.YtknelhceaoblhaaGreat.Pts Go.Proofs.YtknelhceaoblhaaGreat.Seg
set_option linter.unusedVariables false
set_option linter.unusedSimpArgs false
def hzB (fs : List F3) (t : Int) : Bool := (hdX fs (legOf fs t) == 0) && (hdY fs (legOf fs t) == 0)
def heC (fs : List F3) (t : Int) : Int := if ctI fs t = 0 then (if hzB fs t = true then 5 else 0) else ctI fs t
def heX (fs : List F3) (t : Int) : Int := if heC fs t = 0 then hdX fs (legOf fs t) else 0
def heY (fs : List F3) (t : Int) : Int := if heC fs t = 0 then hdY fs (legOf fs t) else 0
theorem he_no {fs : List F3} {t : Int} (h : ctI fs t ≠ 0) : heC fs t = ctI fs t ∧ heX fs t = 0 ∧ heY fs t = 0 := by
  have e : heC fs t = ctI fs t := by unfold heC; rw [if_neg h]
  exact ⟨e, by unfold heX; rw [e, if_neg h], by unfold heY; rw [e, if_neg h]⟩
theorem he_zero {fs : List F3} {t : Int} (h : ctI fs t = 0) (g : hzB fs t = true) : heC fs t = 5 ∧ heX fs t = 0 ∧ heY fs t = 0 := by
  have e : heC fs t = 5 := by unfold heC; rw [if_pos h, if_pos g]
  exact ⟨e, by unfold heX; rw [e]; rfl, by unfold heY; rw [e]; rfl⟩
theorem he_yes {fs : List F3} {t : Int} (h : ctI fs t = 0) (g : hzB fs t = false) : heC fs t = 0 ∧ heX fs t = hdX fs (legOf fs t) ∧ heY fs t = hdY fs (legOf fs t) := by
  have e : heC fs t = 0 := by unfold heC; rw [if_pos h, g]; rfl
  exact ⟨e, by unfold heX; rw [e]; rfl, by unfold heY; rw [e]; rfl⟩
theorem ctI_zero {fs : List F3} {t : Int} (h : ctI fs t = 0) : trB fs = true ∧ lastB fs t = true := by
  unfold ctI at h
  split at h
  · rename_i g
    split at h
    · exact ⟨g, by assumption⟩
    · cases h
  · cases h
theorem legOf_lt {fs : List F3} (t : Int) (h2 : 2 ≤ fs.length) : legOf fs t + 1 < fs.length := by
  have := legUp_lt fs t (fs.length - 1) (by omega)
  unfold legOf; omega
set_option maxHeartbeats 2000000 in
theorem headingAt_impl (a : Option Addr) (cap : Nat) (fs : List F3) (t : Int) (w : World) (hf : Fxs w a fs) (hcap : fs.length ≤ cap) :
    Calls Tryz.prog 119 #[Tr (.slice a fs.length cap), .int .i64 t] w fun e w' => e = .returned (.tuple #[Pt (heX fs t) (heY fs t), .int .i64 (heC fs t)]) ∧ Ext w w' := by
  have HF := Lib.hid hf
  clear hf
  go_enter Tryz.func119, Tryz.ntmps119
  go_wp2_with fail
  refine (checkTime_any _ _ _ _ _ (HF.out.ext (by repeat (first | exact Ext.refl _ | assumption | apply Ext.alloc | apply Ext.drew | (refine Ext.trans ?_ (by assumption)) | (refine Ext.setNew ?_ (by simp <;> omega) _))))).mono ?_
  rintro e w1 ⟨rfl, h⟩
  have X := Lib.hid ((((Ext.refl w).alloc _).alloc _).trans h)
  have B := Lib.hid ((Box.new2 (w := w.alloc (.cells #[.slice a fs.length cap] 30)) (n := w.heap.size + 1) (x := .int .i64 0) (y := .int .i64 0) (t := 113) (by simp)).ext h)
  have bt : w1.cell? ⟨w.heap.size, 0, none⟩ = some (.slice a fs.length cap) := h.cellOf (((Ext.refl _).alloc _).cellOf (boxed 0 rfl rfl))
  clear h
  by_cases hc : ctI fs t = 0
  · obtain ⟨hv, hl⟩ := ctI_zero hc
    rw [hc]
    obtain ⟨⟨h2, h40⟩, _⟩ := trB_yes hv
    have hk := legOf_lt t h2
    obtain ⟨⟨ca, cb, cc, cd⟩, _, _⟩ := leg_bounds hv hk
    have HCo := Lib.hid (And.intro ca (And.intro cb (And.intro cc cd)))
    have HV := Lib.hid (And.intro hv hl)
    have et : ∀ w', Ext w1 w' → w'.cell? ⟨w.heap.size, 0, none⟩ = some (.slice a fs.length cap) := fun w' h => h.cellOf bt
    clear ca cb cc cd hv hl bt
    go_upto_region 4 with fail
    go_cut [7] (fun s wx => (∃ B, s = .pointer (some ⟨B, 0, none⟩) ∧ Box wx B [.int .i64 (hdX fs (legOf fs t)), .int .i64 (hdY fs (legOf fs t))]) ∧ Ext w1 wx)
    case first =>
      go_region_held3 (fun w' => Ext w1 w')
        (first | exact (Ext.refl _).drew | exact Ext.trans (by assumption) hy | exact Ext.alloc (by assumption) _ | exact Ext.alloc hS _ | exact Ext.setNew (Ext.setNew (by assumption) A1 _) A1 _)
        (first | (go_at_call 159; refine (legAt_any _ _ _ _ _ (HF.out.ext (X.out.trans (by assumption))) hcap HV.out.1 HV.out.2).mono ?_; rintro e wz ⟨rfl, hy⟩; (first | (replace A0 := Box.ext A0 hy; obtain ⟨⟨a0, a1⟩, a2, a3⟩ := A0.two) | (have AB : Box wz (w1).heap.size [.int .i64 0, .int .i64 0] ∧ (w1).heap.size ≤ w1.heap.size := ⟨(Box.new2 (t := 113) (by simp)).drew.ext hy, by simp⟩; obtain ⟨A0, A1⟩ := AB; obtain ⟨⟨a0, a1⟩, a2, a3⟩ := A0.two) | (have AB := Ext.newBox (t := 113) (x := .int .i64 0) (y := .int .i64 0) (m := (w1).heap.size) hy (by first | exact Nat.le_refl _ | exact Ext.size hS | exact Ext.size (by assumption)); obtain ⟨A0, A1⟩ := AB; obtain ⟨⟨a0, a1⟩, a2, a3⟩ := A0.two) | skip); (try clear hS); have hS : Ext w1 wz := Ext.trans (by assumption) hy) | (go_at_call 158; refine (leg_any _ _ _ _ _ (HF.out.ext (X.out.trans (by assumption))) hk (by omega)).mono ?_; rintro e wz ⟨rfl, hy⟩; (first | (replace A0 := Box.ext A0 hy; obtain ⟨⟨a0, a1⟩, a2, a3⟩ := A0.two) | (have AB : Box wz (w1).heap.size [.int .i64 0, .int .i64 0] ∧ (w1).heap.size ≤ w1.heap.size := ⟨(Box.new2 (t := 113) (by simp)).drew.ext hy, by simp⟩; obtain ⟨A0, A1⟩ := AB; obtain ⟨⟨a0, a1⟩, a2, a3⟩ := A0.two) | (have AB := Ext.newBox (t := 113) (x := .int .i64 0) (y := .int .i64 0) (m := (w1).heap.size) hy (by first | exact Nat.le_refl _ | exact Ext.size hS | exact Ext.size (by assumption)); obtain ⟨A0, A1⟩ := AB; obtain ⟨⟨a0, a1⟩, a2, a3⟩ := A0.two) | skip); (try clear hS); have hS : Ext w1 wz := Ext.trans (by assumption) hy) | (go_at_call 160; refine (vector_any _ _ _ _ _ HCo.out.1 HCo.out.2.1 HCo.out.2.2.1 HCo.out.2.2.2).mono ?_; rintro e wz ⟨rfl, hy⟩; (first | (replace A0 := Box.ext A0 hy; obtain ⟨⟨a0, a1⟩, a2, a3⟩ := A0.two) | (have AB : Box wz (w1).heap.size [.int .i64 0, .int .i64 0] ∧ (w1).heap.size ≤ w1.heap.size := ⟨(Box.new2 (t := 113) (by simp)).drew.ext hy, by simp⟩; obtain ⟨A0, A1⟩ := AB; obtain ⟨⟨a0, a1⟩, a2, a3⟩ := A0.two) | (have AB := Ext.newBox (t := 113) (x := .int .i64 0) (y := .int .i64 0) (m := (w1).heap.size) hy (by first | exact Nat.le_refl _ | exact Ext.size hS | exact Ext.size (by assumption)); obtain ⟨A0, A1⟩ := AB; obtain ⟨⟨a0, a1⟩, a2, a3⟩ := A0.two) | skip); (try clear hS); have hS : Ext w1 wz := Ext.trans (by assumption) hy))
      all_goals
        go_wp2_with fail
        go_meet
        exact ⟨⟨_, rfl, (by first | exact Box.new2 rfl | exact Box.set2 A0)⟩, (by assumption)⟩
    case rest =>
      obtain ⟨⟨B2, rfl, HB2⟩, hx2⟩ := hcut
      replace B := Lib.hid (B.out.ext hx2)
      replace X := Lib.hid (X.out.trans hx2)
      obtain ⟨⟨g0, g1⟩, g2, g3⟩ := B.out.two
      obtain ⟨⟨d0, d1⟩, _, _⟩ := HB2.two
      clear hx2 et HB2
      cases hz : hzB fs t
      · obtain ⟨H, G, K⟩ := he_yes hc hz
        have HC := Lib.hid (And.intro H (And.intro G K))
        clear H G K
        unfold hzB at hz
        generalize hdX fs (legOf fs t) = p at *
        generalize hdY fs (legOf fs t) = q at *
        by_cases hp : p = 0
        · subst hp
          have hq : ¬ q = 0 := by intro h; subst h; simp at hz
          clear hz
          go_wp2
          obtain ⟨⟨r0, r1⟩, _⟩ := (B.out.set2 (u := .int .i64 0) (v := .int .i64 q)).two
          rw [HC.out.1, HC.out.2.1, HC.out.2.2]
          exact bodyPost_ret (v := .tuple #[Pt 0 q, .int .i64 0]) (by simp [results, Tryz.results119, go_sem, r0, r1]) rfl ⟨rfl, (X.out.setNew (p := ⟨w.heap.size + 1, 0, none⟩) (by simp) _).setNew (p := ⟨w.heap.size + 1, 1, none⟩) (by simp) _⟩
        · clear hz
          go_wp2
          obtain ⟨⟨r0, r1⟩, _⟩ := (B.out.set2 (u := .int .i64 p) (v := .int .i64 q)).two
          rw [HC.out.1, HC.out.2.1, HC.out.2.2]
          exact bodyPost_ret (v := .tuple #[Pt p q, .int .i64 0]) (by simp [results, Tryz.results119, go_sem, r0, r1]) rfl ⟨rfl, (X.out.setNew (p := ⟨w.heap.size + 1, 0, none⟩) (by simp) _).setNew (p := ⟨w.heap.size + 1, 1, none⟩) (by simp) _⟩
      · obtain ⟨H, G, K⟩ := he_zero hc hz
        have HC := Lib.hid (And.intro H (And.intro G K))
        clear H G K
        unfold hzB at hz
        generalize hdX fs (legOf fs t) = p at *
        generalize hdY fs (legOf fs t) = q at *
        obtain rfl : p = 0 := by simp at hz; exact hz.1
        obtain rfl : q = 0 := by simp at hz; exact hz
        clear hz
        go_wp2
        obtain ⟨⟨r0, r1⟩, _⟩ := (B.out.set2 (u := .int .i64 0) (v := .int .i64 0)).two
        rw [HC.out.1, HC.out.2.1, HC.out.2.2]
        exact bodyPost_ret (v := .tuple #[Pt 0 0, .int .i64 5]) (by simp [results, Tryz.results119, go_sem, r0, r1]) rfl ⟨rfl, (X.out.setNew (p := ⟨w.heap.size + 1, 0, none⟩) (by simp) _).setNew (p := ⟨w.heap.size + 1, 1, none⟩) (by simp) _⟩
  · obtain ⟨H, G, K⟩ := he_no hc
    have HC := Lib.hid (And.intro H (And.intro G K))
    have hc2 : (ctI fs t != 0) = true := by simpa using hc
    obtain ⟨⟨g0, g1⟩, g2, g3⟩ := B.out.two
    clear H G K
    go_wp2
    obtain ⟨⟨r0, r1⟩, _⟩ := (B.out.set2 (u := .int .i64 0) (v := .int .i64 0)).two
    rw [HC.out.1, HC.out.2.1, HC.out.2.2]
    exact bodyPost_ret (v := .tuple #[Pt 0 0, .int .i64 (ctI fs t)]) (by simp [results, Tryz.results119, go_sem, r0, r1]) rfl ⟨rfl, (X.out.setNew (p := ⟨w.heap.size + 1, 0, none⟩) (by simp) _).setNew (p := ⟨w.heap.size + 1, 1, none⟩) (by simp) _⟩
set_option maxHeartbeats 2000000 in
theorem headingAt_spec (a : Option Addr) (cap : Nat) (fs : List F3) (t : Int) (w : World) (hf : Fxs w a fs) :
    Calls Tryz.prog 93 #[Tr (.slice a fs.length cap), .int .i64 t] w fun e w' => e = .returned (.tuple #[Pt (heX fs t) (heY fs t), .int .i64 (heC fs t)]) ∧ Ext w w' := by
  have HF := Lib.hid hf
  clear hf
  go_enter Tryz.func93, Tryz.ntmps93
  go_wp2_with fail
  refine (legAt_spec _ _ _ _ _ (HF.out.ext (by repeat (first | exact Ext.refl _ | assumption | apply Ext.alloc | apply Ext.drew | (refine Ext.trans ?_ (by assumption)) | (refine Ext.setNew ?_ (by simp <;> omega) _))))).mono ?_
  rintro e w1 ⟨rfl, h⟩
  have X := Lib.hid ((((Ext.refl w).alloc _).alloc _).trans h)
  have B := Lib.hid ((Box.new2 (w := w.alloc (.cells #[.slice a fs.length cap] 30)) (n := w.heap.size + 1) (x := .int .i64 0) (y := .int .i64 0) (t := 113) (by simp)).ext h)
  have bt : w1.cell? ⟨w.heap.size, 0, none⟩ = some (.slice a fs.length cap) := h.cellOf (((Ext.refl _).alloc _).cellOf (boxed 0 rfl rfl))
  clear h
  by_cases hc : ctI fs t = 0
  · obtain ⟨hv, hl⟩ := ctI_zero hc
    have L := Lib.hid (show lgI fs t = (legOf fs t : Int) by unfold lgI; rw [if_pos hc])
    rw [hc, L.out]
    obtain ⟨⟨h2, h40⟩, _⟩ := trB_yes hv
    have hk := legOf_lt t h2
    go_wp2_with fail
    refine (heading_spec _ _ _ _ _ (HF.out.ext (X.out.trans (by repeat (first | exact Ext.refl _ | assumption | apply Ext.alloc | apply Ext.drew | (refine Ext.trans ?_ (by assumption)) | (refine Ext.setNew ?_ (by simp <;> omega) _))))) hk hv).mono ?_
    rintro e w2 ⟨rfl, h⟩
    replace B := Lib.hid ((B.out.ext h).alloc (.cells #[.int .i64 (hdX fs (legOf fs t)), .int .i64 (hdY fs (legOf fs t))] 113))
    replace X := Lib.hid ((X.out.trans h).alloc (.cells #[.int .i64 (hdX fs (legOf fs t)), .int .i64 (hdY fs (legOf fs t))] 113))
    obtain ⟨⟨g0, g1⟩, g2, g3⟩ := B.out.two
    clear h bt
    cases hz : hzB fs t
    · obtain ⟨H, G, K⟩ := he_yes hc hz
      have HC := Lib.hid (And.intro H (And.intro G K))
      clear H G K
      unfold hzB at hz
      generalize hdX fs (legOf fs t) = p at *
      generalize hdY fs (legOf fs t) = q at *
      by_cases hp : p = 0
      · subst hp
        have hq : ¬ q = 0 := by intro h; subst h; simp at hz
        clear hz
        go_wp2
        obtain ⟨⟨r0, r1⟩, _⟩ := (B.out.set2 (u := .int .i64 0) (v := .int .i64 q)).two
        rw [HC.out.1, HC.out.2.1, HC.out.2.2]
        exact bodyPost_ret (v := .tuple #[Pt 0 q, .int .i64 0]) (by simp [results, Tryz.results93, go_sem, r0, r1]) rfl ⟨rfl, (X.out.setNew (p := ⟨w.heap.size + 1, 0, none⟩) (by simp) _).setNew (p := ⟨w.heap.size + 1, 1, none⟩) (by simp) _⟩
      · clear hz
        go_wp2
        obtain ⟨⟨r0, r1⟩, _⟩ := (B.out.set2 (u := .int .i64 p) (v := .int .i64 q)).two
        rw [HC.out.1, HC.out.2.1, HC.out.2.2]
        exact bodyPost_ret (v := .tuple #[Pt p q, .int .i64 0]) (by simp [results, Tryz.results93, go_sem, r0, r1]) rfl ⟨rfl, (X.out.setNew (p := ⟨w.heap.size + 1, 0, none⟩) (by simp) _).setNew (p := ⟨w.heap.size + 1, 1, none⟩) (by simp) _⟩
    · obtain ⟨H, G, K⟩ := he_zero hc hz
      have HC := Lib.hid (And.intro H (And.intro G K))
      clear H G K
      unfold hzB at hz
      generalize hdX fs (legOf fs t) = p at *
      generalize hdY fs (legOf fs t) = q at *
      obtain rfl : p = 0 := by simp at hz; exact hz.1
      obtain rfl : q = 0 := by simp at hz; exact hz
      clear hz
      go_wp2
      obtain ⟨⟨r0, r1⟩, _⟩ := (B.out.set2 (u := .int .i64 0) (v := .int .i64 0)).two
      rw [HC.out.1, HC.out.2.1, HC.out.2.2]
      exact bodyPost_ret (v := .tuple #[Pt 0 0, .int .i64 5]) (by simp [results, Tryz.results93, go_sem, r0, r1]) rfl ⟨rfl, (X.out.setNew (p := ⟨w.heap.size + 1, 0, none⟩) (by simp) _).setNew (p := ⟨w.heap.size + 1, 1, none⟩) (by simp) _⟩
  · obtain ⟨H, G, K⟩ := he_no hc
    have HC := Lib.hid (And.intro H (And.intro G K))
    have hc2 : (ctI fs t != 0) = true := by simpa using hc
    obtain ⟨⟨g0, g1⟩, g2, g3⟩ := B.out.two
    clear H G K
    go_wp2
    obtain ⟨⟨r0, r1⟩, _⟩ := (B.out.set2 (u := .int .i64 0) (v := .int .i64 0)).two
    rw [HC.out.1, HC.out.2.1, HC.out.2.2]
    exact bodyPost_ret (v := .tuple #[Pt 0 0, .int .i64 (ctI fs t)]) (by simp [results, Tryz.results93, go_sem, r0, r1]) rfl ⟨rfl, (X.out.setNew (p := ⟨w.heap.size + 1, 0, none⟩) (by simp) _).setNew (p := ⟨w.heap.size + 1, 1, none⟩) (by simp) _⟩
end Go.Proofs.YtknelhceaoblhaaGreat.Trk
