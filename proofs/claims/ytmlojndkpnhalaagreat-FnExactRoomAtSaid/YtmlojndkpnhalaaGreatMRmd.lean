import Derived.Test.YtmlojndkpnhalaaGreatMRma
import Derived.Test.YtmlojndkpnhalaaGreatMRm1
import Derived.Test.YtmlojndkpnhalaaGreatHulA
import Derived.Test.YtmlojndkpnhalaaGreatMAt
import Derived.Test.YtmlojndkpnhalaaGreatMKit
namespace Go.Proofs.YtmlojndkpnhalaaGreat.Rmd
open Go.ChangeShapes Go.WideShapes Go.ChangeAt Go.RowKit
open Go.Proofs.YtmlojndkpnhalaaGreat.Num Go.Proofs.YtmlojndkpnhalaaGreat.Kit Go.Proofs.YtmlojndkpnhalaaGreat.Pts Go.Proofs.YtmlojndkpnhalaaGreat.Seg Go.Proofs.YtmlojndkpnhalaaGreat.Wnd Go.Proofs.YtmlojndkpnhalaaGreat.Hul Go.Proofs.YtmlojndkpnhalaaGreat.Trk Go.Proofs.YtmlojndkpnhalaaGreat.Rom
open Go.Proofs.YtmlojndkpnhalaaGreat.Gcd
open Go.Proofs.YtmlojndkpnhalaaGreat.Crs (MkV MV M5 mkB mk_yes ftB ftT r2B r2T r2S r2_neg r2_pos r2_time roomTime_any time_spec)
set_option linter.unusedVariables false
set_option linter.unusedSimpArgs false
theorem ha_valid {fs : List F3} {t l : Int} (h : haC fs t l = 0) : hlB (pkX fs t (legOf fs t)) (pkY fs t (legOf fs t)) (heX fs t) (heY fs t) l = true := by
  unfold haC at h
  have hv : trB fs = true := Classical.byContradiction fun hn => by rw [if_neg hn] at h; cases h
  rw [if_pos hv] at h
  have hin : inB l 1 1000 = true := Classical.byContradiction fun hn => by rw [if_neg hn] at h; cases h
  rw [if_pos hin] at h
  have hct := he_in h
  have hl := (ctI_zero hct).2
  obtain ⟨⟨h2, _⟩, _⟩ := trB_yes hv
  have hk := legOf_lt t h2
  obtain ⟨⟨ca, cb, cc, cd⟩, _⟩ := leg_bounds hv hk
  obtain ⟨hx, hy⟩ := pk_between hv hl
  obtain ⟨b1, b2⟩ := hd_bd hv hk
  have hz : hzB fs t = false := by
    cases hz : hzB fs t
    · rfl
    · unfold heC at h; rw [if_pos hct, if_pos hz] at h; cases h
  unfold heX heY
  rw [if_pos h, if_pos h]
  have hp : ptB (pkX fs t (legOf fs t)) (pkY fs t (legOf fs t)) = true := by
    unfold ptB coB
    rw [Bool.and_eq_true]
    exact ⟨inB_yes (by omega) (by omega), inB_yes (by omega) (by omega)⟩
  have hd : hdB (hdX fs (legOf fs t)) (hdY fs (legOf fs t)) = true := by
    unfold hdB
    rw [inB_yes b1.1 b1.2, inB_yes b2.1 b2.2, show ((hdX fs (legOf fs t) == 0) && (hdY fs (legOf fs t) == 0)) = false from hz]
    rfl
  unfold Hul.hlB
  rw [hp, hd, hin]
  rfl
def hrG (x y : Int) (m : M5) (fs gs : List F3) (t l : Int) : Int := rmG x y m.x m.y (pkX fs t (legOf fs t)) (pkY fs t (legOf fs t)) (heX fs t) (heY fs t) l (pkX gs t (legOf gs t)) (pkY gs t (legOf gs t)) (heX gs t) (heY gs t) l
def hrR (x y : Int) (m : M5) (fs gs : List F3) (t l : Int) : Int := rmR x y m.x m.y (pkX fs t (legOf fs t)) (pkY fs t (legOf fs t)) (heX fs t) (heY fs t) l (pkX gs t (legOf gs t)) (pkY gs t (legOf gs t)) (heX gs t) (heY gs t) l
def arB (m : M5) (fs gs : List F3) (l : Int) : Bool := r2B m fs gs && ((haC fs (r2T m fs gs) l == 0) && (haC gs (r2T m fs gs) l == 0))
def arG (x y : Int) (m : M5) (fs gs : List F3) (l : Int) : Int := if arB m fs gs l = true then hrG x y m fs gs (r2T m fs gs) l else 0
def arR (x y : Int) (m : M5) (fs gs : List F3) (l : Int) : Int := if arB m fs gs l = true then hrR x y m fs gs (r2T m fs gs) l else 0
theorem ar_no {x y : Int} {m : M5} {fs gs : List F3} {l : Int} (h : arB m fs gs l = false) : arG x y m fs gs l = 0 ∧ arR x y m fs gs l = 0 := ⟨if_neg (by simp [h]), if_neg (by simp [h])⟩
theorem ar_yes {x y : Int} {m : M5} {fs gs : List F3} {l : Int} (h : arB m fs gs l = true) : arG x y m fs gs l = hrG x y m fs gs (r2T m fs gs) l ∧ arR x y m fs gs l = hrR x y m fs gs (r2T m fs gs) l := ⟨if_pos h, if_pos h⟩
theorem ra11_done {n : Nat} {w F : World} {tmps : Array Value} {a b : Int} (B : Box F n [.int .i64 a, .int .i64 b]) (hC : Ext w F) (h6 : tmps[10]? = some (.pointer (some ⟨n, 0, none⟩))) (X Y : Int) (hX : X = a) (hY : Y = b) :
    bodyPost Tryz.prog Tryz.f113 (fun e w' => e = .returned (Pt X Y) ∧ Ext w w') Exit.ret ⟨tmps, []⟩ F := by
  subst hX; subst hY
  obtain ⟨⟨g0, g1⟩, _⟩ := B.two
  exact bodyPost_ret (v := Pt X Y) (by simp [results, Tryz.results113, go_sem, h6, g0, g1]) rfl ⟨rfl, hC⟩
set_option maxRecDepth 100000 in
set_option maxHeartbeats 8000000 in
theorem roomAt_any (x y : Int) (m : M5) (a0 b0 : Option Addr) (ca cb : Nat) (fs gs : List F3) (l : Int) (w : World) (hf : Fxs w a0 fs) (hg : Fxs w b0 gs) (hc1 : fs.length ≤ ca) (hc2 : gs.length ≤ cb) (hw : wdB x y = true) (hm : mkB m = true) (hv : trB fs = true) (hu : trB gs = true) :
    Calls Tryz.prog 113 #[Pt x y, MV m, Tr (.slice a0 fs.length ca), Tr (.slice b0 gs.length cb), .int .i64 l] w fun e w' => e = .returned (Pt (arG x y m fs gs l) (arR x y m fs gs l)) ∧ Ext w w' := by
  have HF := Lib.hid hf
  have HG := Lib.hid hg
  have KT := Lib.hid (fun w' h h' => roomTime_any m a0 b0 ca cb fs gs w' h h' hv hu hm)
  obtain ⟨⟨m1, m2⟩, _⟩ := mk_yes hm
  have hpt : ptB m.x m.y = true := by
    unfold ptB coB
    unfold Co at m1 m2
    rw [Bool.and_eq_true]
    exact ⟨inB_yes (by omega) (by omega), inB_yes (by omega) (by omega)⟩
  have KA := Lib.hid (fun (t : Int) (w : World) (h : Fxs w a0 fs) => hullAt_impl a0 ca fs t l w h hc1)
  have KB := Lib.hid (fun (t : Int) (w : World) (h : Fxs w b0 gs) => hullAt_impl b0 cb gs t l w h hc2)
  have KR := Lib.hid (fun (t : Int) (h1 : haC fs t l = 0) (h2 : haC gs t l = 0) (w : World) => between_any x y m.n m.x m.y m.s m.z (pkX fs t (legOf fs t)) (pkY fs t (legOf fs t)) (heX fs t) (heY fs t) l (pkX gs t (legOf gs t)) (pkY gs t (legOf gs t)) (heX gs t) (heY gs t) l w hw hpt (ha_valid h1) (ha_valid h2))
  have HN := Lib.hid (fun h => ar_no (x := x) (y := y) (m := m) (fs := fs) (gs := gs) (l := l) h)
  have HY := Lib.hid (fun h => ar_yes (x := x) (y := y) (m := m) (fs := fs) (gs := gs) (l := l) h)
  have hAB : arB m fs gs l = (r2B m fs gs && ((haC fs (r2T m fs gs) l == 0) && (haC gs (r2T m fs gs) l == 0))) := rfl
  generalize arB m fs gs l = AB at *
  generalize arG x y m fs gs l = AG at *
  generalize arR x y m fs gs l = AR at *
  clear hf hg hw hm hv hu m1 m2 hpt
  obtain ⟨W0, hW0⟩ : ∃ W0, W0 = ((((w.alloc (.cells #[.int .i64 x, .int .i64 y] 54)).alloc (.cells #[.string m.n, .int .i64 m.x, .int .i64 m.y, .int .i64 m.s, .int .i64 m.z] 145)).alloc (.cells #[.slice a0 fs.length ca] 33)).alloc (.cells #[.slice b0 gs.length cb] 33)).alloc (.cells #[.int .i64 0, .int .i64 0] 102) := ⟨_, rfl⟩
  have hX : Ext w W0 := hW0 ▸ ((((((Ext.refl w).alloc _).alloc _).alloc _).alloc _).alloc _)
  have hs0 : W0.heap.size = w.heap.size + 1 + 1 + 1 + 1 + 1 := by rw [hW0]; simp
  have e00 : ∀ w', (Ext W0) w' → w'.cell? ⟨w.heap.size, 0, none⟩ = some (.int .i64 x) := fun w' h => h.cellOf (by rw [hW0]; exact (((((Ext.refl _).alloc _).alloc _).alloc _).alloc _).cellOf (boxed 0 rfl (by simp)))
  have e01 : ∀ w', (Ext W0) w' → w'.cell? ⟨w.heap.size, 1, none⟩ = some (.int .i64 y) := fun w' h => h.cellOf (by rw [hW0]; exact (((((Ext.refl _).alloc _).alloc _).alloc _).alloc _).cellOf (boxed 1 rfl (by simp)))
  have e10 : ∀ w', (Ext W0) w' → w'.cell? ⟨w.heap.size + 1, 0, none⟩ = some (.string m.n) := fun w' h => h.cellOf (by rw [hW0]; exact ((((Ext.refl _).alloc _).alloc _).alloc _).cellOf (boxed 0 rfl (by simp)))
  have e11 : ∀ w', (Ext W0) w' → w'.cell? ⟨w.heap.size + 1, 1, none⟩ = some (.int .i64 m.x) := fun w' h => h.cellOf (by rw [hW0]; exact ((((Ext.refl _).alloc _).alloc _).alloc _).cellOf (boxed 1 rfl (by simp)))
  have e12 : ∀ w', (Ext W0) w' → w'.cell? ⟨w.heap.size + 1, 2, none⟩ = some (.int .i64 m.y) := fun w' h => h.cellOf (by rw [hW0]; exact ((((Ext.refl _).alloc _).alloc _).alloc _).cellOf (boxed 2 rfl (by simp)))
  have e13 : ∀ w', (Ext W0) w' → w'.cell? ⟨w.heap.size + 1, 3, none⟩ = some (.int .i64 m.s) := fun w' h => h.cellOf (by rw [hW0]; exact ((((Ext.refl _).alloc _).alloc _).alloc _).cellOf (boxed 3 rfl (by simp)))
  have e14 : ∀ w', (Ext W0) w' → w'.cell? ⟨w.heap.size + 1, 4, none⟩ = some (.int .i64 m.z) := fun w' h => h.cellOf (by rw [hW0]; exact ((((Ext.refl _).alloc _).alloc _).alloc _).cellOf (boxed 4 rfl (by simp)))
  have e20 : ∀ w', (Ext W0) w' → w'.cell? ⟨w.heap.size + 1 + 1, 0, none⟩ = some (.slice a0 fs.length ca) := fun w' h => h.cellOf (by rw [hW0]; exact (((Ext.refl _).alloc _).alloc _).cellOf (boxed 0 rfl (by simp)))
  have e30 : ∀ w', (Ext W0) w' → w'.cell? ⟨w.heap.size + 1 + 1 + 1, 0, none⟩ = some (.slice b0 gs.length cb) := fun w' h => h.cellOf (by rw [hW0]; exact ((Ext.refl _).alloc _).cellOf (boxed 0 rfl (by simp)))
  have e40 : ∀ w', (Ext W0) w' → w'.cell? ⟨w.heap.size + 1 + 1 + 1 + 1, 0, none⟩ = some (.int .i64 0) := fun w' h => h.cellOf (by rw [hW0]; exact boxed 0 rfl (by simp))
  have e41 : ∀ w', (Ext W0) w' → w'.cell? ⟨w.heap.size + 1 + 1 + 1 + 1, 1, none⟩ = some (.int .i64 0) := fun w' h => h.cellOf (by rw [hW0]; exact boxed 1 rfl (by simp))
  have B3 := Lib.hid (show Box W0 (w.heap.size + 1 + 1 + 1 + 1) [.int .i64 0, .int .i64 0] from hW0 ▸ Box.new2 (by simp))
  go_enter Tryz.func113, Tryz.ntmps113
  go_wp2_with fail
  rw [← hW0]
  clear hW0
  refine (KT.out _ (HF.out.ext hX) (HG.out.ext hX)).mono ?_
  rintro e w1 ⟨rfl, hz⟩
  replace hz : Ext W0 w1 := hz
  cases hB : r2B m fs gs
  · have H := Lib.hid (HN.out (by rw [hAB, hB]; rfl))
    obtain ⟨⟨r0, r1⟩, r2, r3⟩ := (B3.out.ext hz).two
    go_wp2
    exact ra11_done (B3.out.ext hz).set2 (((hX.trans hz).setNew (by simp; omega) _).setNew (by simp; omega) _) rfl _ _ H.out.1 H.out.2
  rw [hB, Bool.true_and] at hAB
  clear hB
  unfold hrG hrR at HY
  generalize r2T m fs gs = T at *
  replace KA := Lib.hid (KA.out T)
  replace KB := Lib.hid (KB.out T)
  replace KR := Lib.hid (KR.out T)
  unfold haH at KA KB
  have HA := Lib.hid (fun (h : haC fs T l = 0) => And.intro (show haV fs T l (pkX fs T (legOf fs T)) = pkX fs T (legOf fs T) from if_pos h) (And.intro (show haV fs T l (pkY fs T (legOf fs T)) = pkY fs T (legOf fs T) from if_pos h) (And.intro (show haV fs T l (heX fs T) = heX fs T from if_pos h) (And.intro (show haV fs T l (heY fs T) = heY fs T from if_pos h) (show haV fs T l l = l from if_pos h)))))
  have HB := Lib.hid (fun (h : haC gs T l = 0) => And.intro (show haV gs T l (pkX gs T (legOf gs T)) = pkX gs T (legOf gs T) from if_pos h) (And.intro (show haV gs T l (pkY gs T (legOf gs T)) = pkY gs T (legOf gs T) from if_pos h) (And.intro (show haV gs T l (heX gs T) = heX gs T from if_pos h) (And.intro (show haV gs T l (heY gs T) = heY gs T from if_pos h) (show haV gs T l l = l from if_pos h)))))
  generalize haV fs T l (pkX fs T (legOf fs T)) = a at *
  generalize haV fs T l (pkY fs T (legOf fs T)) = b at *
  generalize haV fs T l (heX fs T) = c at *
  generalize haV fs T l (heY fs T) = d at *
  generalize haV fs T l l = n at *
  generalize haV gs T l (pkX gs T (legOf gs T)) = p at *
  generalize haV gs T l (pkY gs T (legOf gs T)) = q at *
  generalize haV gs T l (heX gs T) = u at *
  generalize haV gs T l (heY gs T) = v at *
  generalize haV gs T l l = k at *
  generalize pkX fs T (legOf fs T) = a' at *
  generalize pkY fs T (legOf fs T) = b' at *
  generalize heX fs T = c' at *
  generalize heY fs T = d' at *
  generalize pkX gs T (legOf gs T) = p' at *
  generalize pkY gs T (legOf gs T) = q' at *
  generalize heX gs T = u' at *
  generalize heY gs T = v' at *
  generalize haC fs T l = c1 at *
  generalize haC gs T l = c2 at *
  have g20 := e20 w1 hz
  go_wp2_with fail
  refine (KA.out _ (HF.out.ext (hX.trans hz))).mono ?_
  rintro e w2 ⟨rfl, hy⟩
  obtain ⟨V1, hV1⟩ : ∃ V1, V1 = w2.alloc (.cells #[.int .i64 a, .int .i64 b, .int .i64 c, .int .i64 d, .int .i64 n] 62) := ⟨_, rfl⟩
  have X1 : Ext W0 V1 := hV1 ▸ (hz.trans hy).alloc _
  have P1 := Lib.hid (show Box V1 w2.heap.size [.int .i64 a, .int .i64 b, .int .i64 c, .int .i64 d, .int .i64 n] from hV1 ▸ Box.new5 rfl)
  clear g20
  have g30 := e30 V1 X1
  go_upto_region 5 with fail
  rw [← hV1]
  clear hV1 hz hy
  generalize w2.heap.size = h1 at *
  go_wp2_with fail
  refine (KB.out _ (HG.out.ext (hX.trans X1))).mono ?_
  rintro e w3 ⟨rfl, hy⟩
  obtain ⟨V2, hV2⟩ : ∃ V2, V2 = w3.alloc (.cells #[.int .i64 p, .int .i64 q, .int .i64 u, .int .i64 v, .int .i64 k] 62) := ⟨_, rfl⟩
  have X2 : Ext V1 V2 := hV2 ▸ hy.alloc _
  have P2 := Lib.hid (show Box V2 w3.heap.size [.int .i64 p, .int .i64 q, .int .i64 u, .int .i64 v, .int .i64 k] from hV2 ▸ Box.new5 rfl)
  replace P1 := Lib.hid (P1.out.ext X2)
  go_upto_region 6 with fail
  rw [← hV2]
  clear hV2 hy g30
  generalize w3.heap.size = h2 at *
  have X12 := Lib.hid (X1.trans X2)
  by_cases e1 : c1 = 0
  rotate_left
  · have e1b : (c1 != 0) = true := by simpa using e1
    have e1c : (c1 == 0) = false := beq_eq_false_iff_ne.2 e1
    have H := Lib.hid (HN.out (by rw [hAB, e1c]; rfl))
    obtain ⟨⟨r0, r1⟩, r2, r3⟩ := (B3.out.ext X12.out).two
    go_wp2
    exact ra11_done (B3.out.ext X12.out).set2 (((hX.trans X12.out).setNew (by simp; omega) _).setNew (by simp; omega) _) rfl _ _ H.out.1 H.out.2
  by_cases e2 : c2 = 0
  rotate_left
  · subst e1
    have e2b : (c2 != 0) = true := by simpa using e2
    have e2c : (c2 == 0) = false := beq_eq_false_iff_ne.2 e2
    have H := Lib.hid (HN.out (by rw [hAB, e2c]; rfl))
    obtain ⟨⟨r0, r1⟩, r2, r3⟩ := (B3.out.ext X12.out).two
    go_wp2
    exact ra11_done (B3.out.ext X12.out).set2 (((hX.trans X12.out).setNew (by simp; omega) _).setNew (by simp; omega) _) rfl _ _ H.out.1 H.out.2
  have H := Lib.hid (HY.out (by rw [hAB, e1, e2]; rfl))
  obtain ⟨rfl, rfl, rfl, rfl, rfl⟩ := HA.out e1
  obtain ⟨rfl, rfl, rfl, rfl, rfl⟩ := HB.out e2
  replace KR := Lib.hid (KR.out e1 e2)
  subst e1
  subst e2
  clear HN HY hAB HA HB
  have g00 := e00 V2 X12.out; have g01 := e01 V2 X12.out
  have g10 := e10 V2 X12.out; have g11 := e11 V2 X12.out; have g12 := e12 V2 X12.out; have g13 := e13 V2 X12.out; have g14 := e14 V2 X12.out
  obtain ⟨⟨k0, k1, k2, k3, k4⟩, _⟩ := P1.out.five
  obtain ⟨⟨j0, j1, j2, j3, j4⟩, _⟩ := P2.out.five
  go_wp2_with fail
  refine (KR.out _).mono ?_
  rintro e w4 ⟨rfl, hy⟩
  have X3 := X12.out.trans hy
  obtain ⟨⟨r0, r1⟩, r2, r3⟩ := (B3.out.ext X3).two
  go_wp2
  exact ra11_done (B3.out.ext X3).set2 (((hX.trans X3).setNew (by simp; omega) _).setNew (by simp; omega) _) rfl _ _ H.out.1 H.out.2
end Go.Proofs.YtmlojndkpnhalaaGreat.Rmd
namespace Go.Proofs.YtmlojndkpnhalaaGreat.Rmd
open Go.ChangeShapes Go.WideShapes Go.ChangeAt Go.RowKit
open Go.Proofs.YtmlojndkpnhalaaGreat.Num Go.Proofs.YtmlojndkpnhalaaGreat.Kit Go.Proofs.YtmlojndkpnhalaaGreat.Pts Go.Proofs.YtmlojndkpnhalaaGreat.Seg Go.Proofs.YtmlojndkpnhalaaGreat.Wnd Go.Proofs.YtmlojndkpnhalaaGreat.Hul Go.Proofs.YtmlojndkpnhalaaGreat.Rom
open Go.Proofs.YtmlojndkpnhalaaGreat.Crs
open Go.Proofs.YtmlojndkpnhalaaGreat.Trk (F3 Fxs Tr trB fx)
set_option linter.unusedVariables false
set_option linter.unusedSimpArgs false
def mqC (x y : Int) (l k : L4) (ms : List M5) (ok : Bool) (n ln : Int) : Int := if wdB x y = true then (if mfC l k ms ok n = 0 then (if inB ln 1 1000 = true then 0 else 2) else mfC l k ms ok n) else 1
def mqM (x y : Int) (l k : L4) (ms : List M5) (ok : Bool) (n ln : Int) : M5 := if mqC x y l k ms ok n ln = 0 then mk ms n.toNat else m0
theorem mq_wind {x y : Int} {l k : L4} {ms : List M5} {ok : Bool} {n ln : Int} (h : wdB x y = false) : mqC x y l k ms ok n ln = 1 ∧ mqM x y l k ms ok n ln = m0 := by
  have e : mqC x y l k ms ok n ln = 1 := if_neg (by simp [h])
  exact ⟨e, by unfold mqM; rw [e]; rfl⟩
theorem mq_bad {x y : Int} {l k : L4} {ms : List M5} {ok : Bool} {n ln : Int} (h : wdB x y = true) (g : mfC l k ms ok n ≠ 0) : mqC x y l k ms ok n ln = mfC l k ms ok n ∧ mqM x y l k ms ok n ln = m0 := by
  have e : mqC x y l k ms ok n ln = mfC l k ms ok n := (if_pos h).trans (if_neg g)
  exact ⟨e, by unfold mqM; rw [if_neg (by rw [e]; exact g)]⟩
theorem mq_len {x y : Int} {l k : L4} {ms : List M5} {ok : Bool} {n ln : Int} (h : wdB x y = true) (g : mfC l k ms ok n = 0) (f : inB ln 1 1000 = false) : mqC x y l k ms ok n ln = 2 ∧ mqM x y l k ms ok n ln = m0 := by
  have e : mqC x y l k ms ok n ln = 2 := (if_pos h).trans ((if_pos g).trans (if_neg (by simp [f])))
  exact ⟨e, by unfold mqM; rw [e]; rfl⟩
theorem mq_yes {x y : Int} {l k : L4} {ms : List M5} {ok : Bool} {n ln : Int} (h : wdB x y = true) (g : mfC l k ms ok n = 0) (f : inB ln 1 1000 = true) : mqC x y l k ms ok n ln = 0 ∧ mqM x y l k ms ok n ln = mk ms n.toNat := by
  have e : mqC x y l k ms ok n ln = 0 := (if_pos h).trans ((if_pos g).trans (if_pos f))
  exact ⟨e, by unfold mqM; rw [if_pos e]⟩
theorem mq_zero {x y : Int} {l k : L4} {ms : List M5} {ok : Bool} {n ln : Int} (h : mqC x y l k ms ok n ln = 0) : wdB x y = true ∧ mfC l k ms ok n = 0 ∧ inB ln 1 1000 = true := by
  unfold mqC at h
  have h1 : wdB x y = true := Classical.byContradiction fun hn => by rw [if_neg hn] at h; cases h
  rw [if_pos h1] at h
  have h2 : mfC l k ms ok n = 0 := Classical.byContradiction fun hn => by rw [if_neg hn] at h; exact hn h
  rw [if_pos h2] at h
  exact ⟨h1, h2, Classical.byContradiction fun hn => by rw [if_neg hn] at h; cases h⟩
theorem mq_done {n : Nat} {w F : World} {tmps : Array Value} {m : M5} {c : Int} (B : Box F n [.string m.n, .int .i64 m.x, .int .i64 m.y, .int .i64 m.s, .int .i64 m.z]) (hC : Ext w F) (ha : tmps[10]? = some (.pointer (some ⟨n, 0, none⟩))) (hb : tmps[11]? = some (.int .i64 c)) (M : M5) (C : Int) (hM : M = m) (hc : C = c) :
    bodyPost Tryz.prog Tryz.f112 (fun e w' => e = .returned (.tuple #[MV M, .int .i64 C]) ∧ Ext w w') Exit.ret ⟨tmps, []⟩ F := by
  subst hM; subst hc
  obtain ⟨⟨g0, g1, g2, g3, g4⟩, _⟩ := B.five
  exact bodyPost_ret (v := .tuple #[MV M, .int .i64 C]) (by simp [results, Tryz.results112, go_sem, ha, hb, g0, g1, g2, g3, g4]) rfl ⟨rfl, hC⟩
set_option maxRecDepth 100000 in
set_option maxHeartbeats 4000000 in
theorem markForRoom_any (x y : Int) (l k : L4) (a : Option Addr) (cap : Nat) (ms : List M5) (n ln : Int) (at_ : Option Addr) (ct : Nat) (ts : List T1) (w : World) (hf : Mks w a ms) (ht : Tks w at_ ts) :
    Calls Tryz.prog 112 #[Pt x y, CV l k (.slice a ms.length cap), .int .i64 n, .int .i64 ln, .slice at_ ts.length ct] w fun e w' => e = .returned (.tuple #[MV (mqM x y l k ms (tsB ts) n ln), .int .i64 (mqC x y l k ms (tsB ts) n ln)]) ∧ Ext w w' := by
  obtain ⟨W0, hW0⟩ : ∃ W0, W0 = ((w.alloc (.cells #[.int .i64 x, .int .i64 y] 54)).alloc (.cells (cellsC l k (.slice a ms.length cap)).toArray 30)).alloc (.cells zeroM 145) := ⟨_, rfl⟩
  have HW := Lib.hid (show Ext w W0 from hW0 ▸ (((Ext.refl w).alloc _).alloc _).alloc _)
  have CW0 := Lib.hid (show W0.cell? ⟨w.heap.size, 0, none⟩ = some (.int .i64 x) from hW0 ▸ (((Ext.refl _).alloc _).alloc _).cellOf (boxed 0 rfl rfl))
  have CW1 := Lib.hid (show W0.cell? ⟨w.heap.size, 1, none⟩ = some (.int .i64 y) from hW0 ▸ (((Ext.refl _).alloc _).alloc _).cellOf (boxed 1 rfl rfl))
  have BB := Lib.hid (show Box W0 (w.heap.size + 1) (cellsC l k (.slice a ms.length cap)) from hW0 ▸ (Box.new (by simp)).alloc _)
  have BM := Lib.hid (show Box W0 (w.heap.size + 1 + 1) [.string ⟨#[]⟩, .int .i64 0, .int .i64 0, .int .i64 0, .int .i64 0] from hW0 ▸ Box.new (by simp))
  have HF := Lib.hid (hf.ext HW.out)
  have HT := Lib.hid (ht.ext HW.out)
  clear hf ht
  have q0 := CW0.out
  have q1 := CW1.out
  go_enter Tryz.func112, Tryz.ntmps112
  go_wp2_with fail
  rw [← hW0]
  clear hW0
  refine (windValid_any _ _ _).mono ?_
  rintro e w1 ⟨rfl, hz⟩
  clear q0 q1
  cases hw : wdB x y
  · have H := Lib.hid (mq_wind (l := l) (k := k) (ms := ms) (ok := tsB ts) (n := n) (ln := ln) hw)
    obtain ⟨⟨r0, r1, r2, r3, r4⟩, s0, s1, s2, s3, s4⟩ := Crs.Box.five (BM.out.ext hz)
    obtain ⟨h1, h2⟩ := put5_box (HW.out.trans hz) (by omega) (BM.out.ext hz) m0
    go_wp2
    exact mq_done h2 h1 rfl rfl _ _ H.out.2 H.out.1
  obtain ⟨⟨p0, p1, p2, p3, p4, p5, p6, p7, p8⟩, _⟩ := Box.nine (BB.out.ext hz)
  go_wp2_with fail
  refine (markFor_any l k a cap ms n at_ ct ts _ (HF.out.ext hz) (HT.out.ext hz)).mono ?_
  rintro e w2 ⟨rfl, hy⟩
  replace hz := hz.trans hy
  clear hy p0 p1 p2 p3 p4 p5 p6 p7 p8
  by_cases g : mfC l k ms (tsB ts) n = 0
  rotate_left
  · have H := Lib.hid (mq_bad (ln := ln) hw g)
    have g1 : (mfC l k ms (tsB ts) n != 0) = true := by simp [g]
    have g2 : (mfC l k ms (tsB ts) n == 0) = false := beq_eq_false_iff_ne.2 g
    rw [mf_nz g]
    clear g
    generalize mfC l k ms (tsB ts) n = C at *
    obtain ⟨⟨r0, r1, r2, r3, r4⟩, s0, s1, s2, s3, s4⟩ := Crs.Box.five (BM.out.ext (hz.alloc (.cells #[.string m0.n, .int .i64 m0.x, .int .i64 m0.y, .int .i64 m0.s, .int .i64 m0.z] 145)))
    obtain ⟨h1, h2⟩ := put5_box (HW.out.trans (hz.alloc (.cells #[.string m0.n, .int .i64 m0.x, .int .i64 m0.y, .int .i64 m0.s, .int .i64 m0.z] 145))) (by omega) (BM.out.ext (hz.alloc (.cells #[.string m0.n, .int .i64 m0.x, .int .i64 m0.y, .int .i64 m0.s, .int .i64 m0.z] 145))) m0
    go_wp2
    exact mq_done h2 h1 rfl rfl _ _ H.out.2 H.out.1
  have HL := Lib.hid (fun h => mq_len (ln := ln) hw g h)
  have HY := Lib.hid (fun h => mq_yes (ln := ln) hw g h)
  rw [g, show mfM l k ms (tsB ts) n = mk ms n.toNat from if_pos g]
  clear g hw
  generalize mk ms n.toNat = m at *
  obtain ⟨V, hV⟩ : ∃ V, V = w2.alloc (.cells #[.string m.n, .int .i64 m.x, .int .i64 m.y, .int .i64 m.s, .int .i64 m.z] 145) := ⟨_, rfl⟩
  have hz2 := Lib.hid (show Ext W0 V from hV ▸ hz.alloc _)
  have BV := Lib.hid (show Box V w2.heap.size [.string m.n, .int .i64 m.x, .int .i64 m.y, .int .i64 m.s, .int .i64 m.z] from hV ▸ Box.new rfl)
  go_upto_region 4 with fail
  rw [← hV]
  clear hV hz
  generalize w2.heap.size = bv at *
  go_wp2_with fail
  refine (isHullLength_any _ _).mono ?_
  rintro e w3 ⟨rfl, rfl⟩
  cases hin : inB ln 1 1000
  · have H := Lib.hid (HL.out hin)
    obtain ⟨⟨r0, r1, r2, r3, r4⟩, s0, s1, s2, s3, s4⟩ := Crs.Box.five (BM.out.ext hz2.out)
    obtain ⟨h1, h2⟩ := put5_box (HW.out.trans hz2.out) (by omega) (BM.out.ext hz2.out) m0
    go_wp2
    exact mq_done h2 h1 rfl rfl _ _ H.out.2 H.out.1
  · have H := Lib.hid (HY.out hin)
    obtain ⟨⟨r0, r1, r2, r3, r4⟩, s0, s1, s2, s3, s4⟩ := Crs.Box.five (BM.out.ext hz2.out)
    obtain ⟨⟨v0, v1, v2, v3, v4⟩, _⟩ := Crs.Box.five BV.out
    obtain ⟨h1, h2⟩ := put5_box (HW.out.trans hz2.out) (by omega) (BM.out.ext hz2.out) m
    go_wp2
    exact mq_done h2 h1 rfl rfl _ _ H.out.2 H.out.1
def raK (x y : Int) (l k : L4) (ms : List M5) (fs gs : List F3) (n ln : Int) : Int := mqC x y l k ms (trB fs && trB gs) n ln
def raG (x y : Int) (l k : L4) (ms : List M5) (fs gs : List F3) (n ln : Int) : Int := if raK x y l k ms fs gs n ln = 0 then arG x y (mk ms n.toNat) fs gs ln else 0
def raR (x y : Int) (l k : L4) (ms : List M5) (fs gs : List F3) (n ln : Int) : Int := if raK x y l k ms fs gs n ln = 0 then arR x y (mk ms n.toNat) fs gs ln else 0
theorem rt11_done {n : Nat} {w F : World} {tmps : Array Value} {a b k : Int} (B : Box F n [.int .i64 a, .int .i64 b]) (hC : Ext w F) (h6 : tmps[12]? = some (.pointer (some ⟨n, 0, none⟩))) (h7 : tmps[13]? = some (.int .i64 k)) (X Y C : Int) (hX : X = a) (hY : Y = b) (hK : C = k) :
    bodyPost Tryz.prog Tryz.f55 (fun e w' => e = .returned (.tuple #[Pt X Y, .int .i64 C]) ∧ Ext w w') Exit.ret ⟨tmps, []⟩ F := by
  subst hX; subst hY; subst hK
  obtain ⟨⟨g0, g1⟩, _⟩ := B.two
  exact bodyPost_ret (v := .tuple #[Pt X Y, .int .i64 C]) (by simp [results, Tryz.results55, go_sem, h6, h7, g0, g1]) rfl ⟨rfl, hC⟩
set_option maxRecDepth 100000 in
set_option maxHeartbeats 8000000 in
theorem roomAt_impl (x y : Int) (l k : L4) (a : Option Addr) (cap : Nat) (ms : List M5) (n : Int) (at_ : Option Addr) (ct : Nat) (fs : List F3) (au : Option Addr) (cu : Nat) (gs : List F3) (ln : Int) (w : World) (hf : Mks w a ms) (ht : Fxs w at_ fs) (hg : Fxs w au gs) (hc1 : fs.length ≤ ct) (hc2 : gs.length ≤ cu) :
    Calls Tryz.prog 55 #[Pt x y, CV l k (.slice a ms.length cap), .int .i64 n, Tr (.slice at_ fs.length ct), Tr (.slice au gs.length cu), .int .i64 ln] w fun e w' => e = .returned (.tuple #[Pt (raG x y l k ms fs gs n ln) (raR x y l k ms fs gs n ln), .int .i64 (raK x y l k ms fs gs n ln)]) ∧ Ext w w' := by
  obtain ⟨W0, hW0⟩ : ∃ W0, W0 = ((((w.alloc (.cells #[.int .i64 x, .int .i64 y] 54)).alloc (.cells (cellsC l k (.slice a ms.length cap)).toArray 30)).alloc (.cells #[.slice at_ fs.length ct] 33)).alloc (.cells #[.slice au gs.length cu] 33)).alloc (.cells #[.int .i64 0, .int .i64 0] 102) := ⟨_, rfl⟩
  have HW := Lib.hid (show Ext w W0 from hW0 ▸ (((((Ext.refl w).alloc _).alloc _).alloc _).alloc _).alloc _)
  have CW0 := Lib.hid (show W0.cell? ⟨w.heap.size, 0, none⟩ = some (.int .i64 x) from hW0 ▸ (((((Ext.refl _).alloc _).alloc _).alloc _).alloc _).cellOf (boxed 0 rfl rfl))
  have CW1 := Lib.hid (show W0.cell? ⟨w.heap.size, 1, none⟩ = some (.int .i64 y) from hW0 ▸ (((((Ext.refl _).alloc _).alloc _).alloc _).alloc _).cellOf (boxed 1 rfl rfl))
  have BB := Lib.hid (show Box W0 (w.heap.size + 1) (cellsC l k (.slice a ms.length cap)) from hW0 ▸ (((Box.new (by simp)).alloc _).alloc _).alloc _)
  have CT := Lib.hid (show W0.cell? ⟨w.heap.size + 1 + 1, 0, none⟩ = some (.slice at_ fs.length ct) from hW0 ▸ (((Ext.refl _).alloc _).alloc _).cellOf (boxed 0 rfl (by simp)))
  have CU := Lib.hid (show W0.cell? ⟨w.heap.size + 1 + 1 + 1, 0, none⟩ = some (.slice au gs.length cu) from hW0 ▸ ((Ext.refl _).alloc _).cellOf (boxed 0 rfl (by simp)))
  have B3 := Lib.hid (show Box W0 (w.heap.size + 1 + 1 + 1 + 1) [.int .i64 0, .int .i64 0] from hW0 ▸ Box.new2 (by simp))
  have zW : W0.heap.size = w.heap.size + 1 + 1 + 1 + 1 + 1 := by rw [hW0]; simp
  have HF := Lib.hid (hf.ext HW.out)
  have HT := Lib.hid (ht.ext HW.out)
  have HG := Lib.hid (hg.ext HW.out)
  clear hf ht hg
  obtain ⟨W1, hW1⟩ : ∃ W1, W1 = W0.alloc (.cells #[.slice at_ fs.length ct, .slice au gs.length cu] 33) := ⟨_, rfl⟩
  have h1 : Ext W0 W1 := hW1 ▸ (Ext.refl W0).alloc _
  have TK := Lib.hid (Tks.two (w := W1) (b := w.heap.size + 1 + 1 + 1 + 1 + 1) (t := ⟨at_, ct, fs⟩) (u := ⟨au, cu, gs⟩) (hW1 ▸ boxed 0 rfl zW) (hW1 ▸ boxed 1 rfl zW) (HT.out.ext h1) (HG.out.ext h1))
  have KL := Lib.hid (markForRoom_any x y l k a cap ms n ln (some ⟨w.heap.size + 1 + 1 + 1 + 1 + 1, 0, none⟩) 2 [⟨at_, ct, fs⟩, ⟨au, cu, gs⟩] W1 (HF.out.ext h1) TK.out)
  rw [tsB_two] at KL
  have X1 := Lib.hid h1
  clear h1 zW
  have q0 := CW0.out
  have q1 := CW1.out
  by_cases g : mqC x y l k ms (trB fs && trB gs) n ln = 0
  rotate_left
  · have HK := Lib.hid (show raG x y l k ms fs gs n ln = 0 from if_neg g)
    have HR := Lib.hid (show raR x y l k ms fs gs n ln = 0 from if_neg g)
    have g1 : (mqC x y l k ms (trB fs && trB gs) n ln != 0) = true := by simp [g]
    have g2 : (mqC x y l k ms (trB fs && trB gs) n ln == 0) = false := beq_eq_false_iff_ne.2 g
    obtain ⟨C, hC⟩ : ∃ C, C = mqC x y l k ms (trB fs && trB gs) n ln := ⟨_, rfl⟩
    have HC := Lib.hid (show raK x y l k ms fs gs n ln = C from hC.symm)
    rw [← hC] at KL g1 g2
    generalize mqM x y l k ms (trB fs && trB gs) n ln = M at *
    clear g hC
    go_enter Tryz.func55, Tryz.ntmps55
    go_wp2_with fail
    rw [← hW0, ← hW1]
    clear hW0 hW1
    refine KL.out.mono ?_
    rintro e w1 ⟨rfl, hx⟩
    have X2 := Lib.hid (X1.out.trans (hx.alloc (.cells #[.string M.n, .int .i64 M.x, .int .i64 M.y, .int .i64 M.s, .int .i64 M.z] 145)))
    obtain ⟨⟨r0, r1⟩, r2, r3⟩ := (B3.out.ext X2.out).two
    clear q0 q1
    go_wp2
    exact rt11_done (B3.out.ext X2.out).set2 (((HW.out.trans X2.out).setNew (by simp; omega) _).setNew (by simp; omega) _) rfl rfl _ _ _ HK.out HR.out HC.out
  have HK0 : raG x y l k ms fs gs n ln = arG x y (mk ms n.toNat) fs gs ln := if_pos g
  have HR0 : raR x y l k ms fs gs n ln = arR x y (mk ms n.toNat) fs gs ln := if_pos g
  have HC := Lib.hid (show raK x y l k ms fs gs n ln = 0 from g)
  rw [show mqM x y l k ms (trB fs && trB gs) n ln = mk ms n.toNat from if_pos g, g] at KL
  obtain ⟨hw, hmf, _⟩ := mq_zero g
  obtain ⟨hq, hv0, hn⟩ := mf_zero hmf
  rw [Bool.and_eq_true] at hv0
  obtain ⟨hv, hu⟩ := hv0
  have hm := cr_mk hq (show n.toNat < ms.length by omega)
  have KT := Lib.hid (fun w' h h' => roomAt_any x y (mk ms n.toNat) at_ au ct cu fs gs ln w' h h' hc1 hc2 hw hm hv hu)
  clear g hw hmf hq hv hu hn hm
  generalize mk ms n.toNat = m at *
  have HK := Lib.hid HK0
  have HR := Lib.hid HR0
  clear HK0 HR0
  generalize arG x y m fs gs ln = G at *
  generalize arR x y m fs gs ln = Q at *
  go_enter Tryz.func55, Tryz.ntmps55
  go_wp2_with fail
  rw [← hW0, ← hW1]
  clear hW0 hW1
  refine KL.out.mono ?_
  rintro e w1 ⟨rfl, hx⟩
  clear q0 q1
  obtain ⟨V, hV⟩ : ∃ V, V = w1.alloc (.cells #[.string m.n, .int .i64 m.x, .int .i64 m.y, .int .i64 m.s, .int .i64 m.z] 145) := ⟨_, rfl⟩
  have X2 := Lib.hid (show Ext W0 V from hV ▸ X1.out.trans (hx.alloc _))
  have BV := Lib.hid (show Box V w1.heap.size [.string m.n, .int .i64 m.x, .int .i64 m.y, .int .i64 m.s, .int .i64 m.z] from hV ▸ Box.new rfl)
  go_upto_region 2 with fail
  rw [← hV]
  clear hV hx
  generalize w1.heap.size = bv at *
  obtain ⟨⟨v0, v1, v2, v3, v4⟩, _⟩ := Crs.Box.five BV.out
  have q0 := X2.out.cellOf CW0.out
  have q1 := X2.out.cellOf CW1.out
  have q2 := X2.out.cellOf CT.out
  have q3 := X2.out.cellOf CU.out
  go_wp2_with fail
  refine (KT.out _ (HT.out.ext X2.out) (HG.out.ext X2.out)).mono ?_
  rintro e w2 ⟨rfl, hy⟩
  have X3 := Lib.hid (X2.out.trans hy)
  obtain ⟨⟨r0, r1⟩, r2, r3⟩ := (B3.out.ext X3.out).two
  clear hy q0 q1 q2 q3 v0 v1 v2 v3 v4
  go_wp2
  exact rt11_done (B3.out.ext X3.out).set2 (((HW.out.trans X3.out).setNew (by simp; omega) _).setNew (by simp; omega) _) rfl rfl _ _ _ HK.out HR.out HC.out
end Go.Proofs.YtmlojndkpnhalaaGreat.Rmd
namespace Go.Proofs.YtmlojndkpnhalaaGreat.Rmd
open Go.ChangeShapes Go.WideShapes Go.ChangeAt Go.RowKit
open Go.Proofs.YtmlojndkpnhalaaGreat.Num Go.Proofs.YtmlojndkpnhalaaGreat.Kit Go.Proofs.YtmlojndkpnhalaaGreat.Pts Go.Proofs.YtmlojndkpnhalaaGreat.Seg Go.Proofs.YtmlojndkpnhalaaGreat.Wnd Go.Proofs.YtmlojndkpnhalaaGreat.Hul Go.Proofs.YtmlojndkpnhalaaGreat.Rom
open Go.Proofs.YtmlojndkpnhalaaGreat.Crs
open Go.Proofs.YtmlojndkpnhalaaGreat.Trk (F3 Fxs Tr trB fx pkX pkY legOf heX heY)
set_option linter.unusedVariables false
set_option linter.unusedSimpArgs false
theorem mq_crs {x y : Int} {l k : L4} {ms : List M5} {ok : Bool} {n ln : Int} (h : wdB x y = true) (g : mfC l k ms ok n ≠ 0) {C : Int} (hC : mfC l k ms ok n = C) : mqC x y l k ms ok n ln = C := (mq_bad h g).1.trans hC
set_option maxRecDepth 100000 in
set_option maxHeartbeats 4000000 in
theorem l11Code_spec (x y : Int) (l k : L4) (a : Option Addr) (cap : Nat) (ms : List M5) (n : Int) (at_ : Option Addr) (ct : Nat) (ts : List T1) (ln : Int) (w : World) (hf : Mks w a ms) (ht : Tks w at_ ts) :
    Calls Tryz.prog 110 #[Pt x y, CV l k (.slice a ms.length cap), .int .i64 n, .slice at_ ts.length ct, .int .i64 ln] w fun e w' => e = .returned (.int .i64 (mqC x y l k ms (tsB ts) n ln)) ∧ Ext w w' := by
  obtain ⟨W0, hW0⟩ : ∃ W0, W0 = (w.alloc (.cells #[.int .i64 x, .int .i64 y] 54)).alloc (.cells (cellsC l k (.slice a ms.length cap)).toArray 30) := ⟨_, rfl⟩
  have HW := Lib.hid (show Ext w W0 from hW0 ▸ ((Ext.refl w).alloc _).alloc _)
  have q0 : W0.cell? ⟨w.heap.size, 0, none⟩ = some (.int .i64 x) := hW0 ▸ ((Ext.refl _).alloc _).cellOf (boxed 0 rfl rfl)
  have q1 : W0.cell? ⟨w.heap.size, 1, none⟩ = some (.int .i64 y) := hW0 ▸ ((Ext.refl _).alloc _).cellOf (boxed 1 rfl rfl)
  have BB := Lib.hid (show Box W0 (w.heap.size + 1) (cellsC l k (.slice a ms.length cap)) from hW0 ▸ Box.new (by simp))
  have HF := Lib.hid (hf.ext HW.out)
  have HT := Lib.hid (ht.ext HW.out)
  have hm := hf.1.1
  have hmt := ht.1
  unfold maxLen at hm hmt
  clear hf ht
  go_enter Tryz.func110, Tryz.ntmps110
  go_wp2_with fail
  rw [← hW0]
  clear hW0
  refine (isWind_spec _ _ _).mono ?_
  rintro e w1 ⟨rfl, hz⟩
  clear q0 q1
  cases hw : wdB x y
  · have H := Lib.hid (mq_wind (l := l) (k := k) (ms := ms) (ok := tsB ts) (n := n) (ln := ln) hw)
    go_wp2
    go_ret
    exact ⟨ret_int H.out.1, HW.out.trans hz⟩
  obtain ⟨⟨p0, p1, p2, p3, p4, p5, p6, p7, p8⟩, _⟩ := Box.nine (BB.out.ext hz)
  go_wp2_with fail
  refine (isCourse_spec _ _ _ _ _ _ (HF.out.ext hz)).mono ?_
  rintro e w2 ⟨rfl, hy⟩
  have X1 := Lib.hid (hz.trans hy)
  clear hz hy p0 p1 p2 p3 p4 p5 p6 p7 p8
  cases hq : crB l k ms
  · have H := Lib.hid (mq_crs (ln := ln) hw (mf_one (mf_bad (l := l) (k := k) (ms := ms) (ok := tsB ts) (n := n) (.inl hq))) (mf_bad (l := l) (k := k) (ms := ms) (ok := tsB ts) (n := n) (.inl hq)))
    go_wp2
    go_ret
    exact ⟨ret_int H.out, HW.out.trans X1.out⟩
  have HQ := Lib.hid hq
  have HWD := Lib.hid hw
  have hml : 1 ≤ ms.length := by
    unfold Crs.crB at hq; simp only [Bool.and_eq_true, decide_eq_true_eq] at hq; exact hq.1
  have T1 : IntKind.i64.wrap ((ms.length : Int) - 1) = (ms.length : Int) - 1 := IntWalk.i64_in _ (by omega)
  clear hq hw
  go_wp2
  go_loopw [11] (fun i wr => RelXB w2 (tkB ts) ts.length i wr) (fun i _ => ts.length - (intOf i).toNat)
  case atStart => exact ⟨0, rfl, Nat.zero_le _, fun j hj => absurd hj (by omega), Ext.refl _⟩
  case round =>
    obtain ⟨j, rfl, hj, hd, hx⟩ := hrel
    have HD := Lib.hid hd
    have HX := Lib.hid hx
    clear hd hx
    by_cases hj1 : j < ts.length
    · obtain ⟨b, off, rfl, hb⟩ := HT.out.row (by omega)
      have c0 := (X1.out.trans HX.out).cellOf (hb j hj1)
      have i0 : (0 : Int) ≤ (j : Int) := by omega
      have i1 : (j : Int) < (ts.length : Int) := by omega
      have T7 : IntKind.i64.wrap ((j : Int) + 1) = (j : Int) + 1 := IntWalk.i64_in _ (by omega)
      have hc := Lib.hid (Trk.isTrack_spec (tk ts j).a (tk ts j).c (tk ts j).fs wr ((HT.out.2.1 j hj1).ext (X1.out.trans HX.out)))
      clear hb
      cases h : tkB ts j
      · have HC := Lib.hid (mq_crs (ln := ln) HWD.out (mf_one (mf_bad (l := l) (k := k) (ms := ms) (ok := tsB ts) (n := n) (.inr (tsB_no hj1 h)))) (mf_bad (l := l) (k := k) (ms := ms) (ok := tsB ts) (n := n) (.inr (tsB_no hj1 h))))
        rw [show trB (tk ts j).fs = false from h] at hc
        clear h
        go_wp2_with fail
        refine hc.out.mono ?_
        rintro e w3 ⟨rfl, hy⟩
        go_wp2
        go_ret
        exact ⟨ret_int HC.out, HW.out.trans (X1.out.trans (HX.out.trans hy))⟩
      · have H := Lib.hid h
        rw [show trB (tk ts j).fs = true from h] at hc
        clear h
        go_wp2_with fail
        refine hc.out.mono ?_
        rintro e w3 ⟨rfl, hy⟩
        have HY := Lib.hid (HX.out.trans hy)
        clear hy
        go_wp2
        go_roundw
        case rel => exact ⟨j + 1, by go_num, by omega, fun x hx => by rcases Nat.lt_or_ge x j with g | g; exact HD.out x g; exact (show x = j by omega) ▸ H.out, HY.out⟩
        case measure => simp [intOf]; omega
    · obtain rfl : j = ts.length := by omega
      have HV := Lib.hid (tsB_all HD.out)
      have X2 := Lib.hid (X1.out.trans HX.out)
      obtain ⟨⟨p0, p1, p2, p3, p4, p5, p6, p7, p8⟩, _⟩ := Box.nine (BB.out.ext X2.out)
      by_cases h0 : 0 ≤ n ∧ n < ms.length
      rotate_left
      · have g1 := mf_out (ok := tsB ts) (n := n) HQ.out HV.out h0
        have HC := Lib.hid (mq_crs (ln := ln) HWD.out (by rw [g1]; decide) g1)
        have hin := inB_no (n := n) (lo := 0) (hi := (ms.length : Int) - 1) (by omega)
        clear g1
        go_wp2_with fail
        refine (in_any _ _ _ _).mono ?_
        rw [hin]
        rintro e w3 ⟨rfl, rfl⟩
        go_wp2
        go_ret
        exact ⟨ret_int HC.out, HW.out.trans X2.out⟩
      have g := mf_yes (ok := tsB ts) (n := n) HQ.out HV.out h0
      have hin := inB_yes (n := n) (lo := 0) (hi := (ms.length : Int) - 1) h0.1 (by omega)
      have HL := Lib.hid (fun h => (mq_len (ln := ln) HWD.out g h).1)
      have HY := Lib.hid (fun h => (mq_yes (ln := ln) HWD.out g h).1)
      clear g h0
      go_wp2_with fail
      refine (in_any _ _ _ _).mono ?_
      rw [hin]
      rintro e w3 ⟨rfl, rfl⟩
      clear p0 p1 p2 p3 p4 p5 p6 p7 p8
      go_wp2_with fail
      refine (in_any _ _ _ _).mono ?_
      rintro e w4 ⟨rfl, rfl⟩
      cases hl : inB ln 1 1000
      · have H := Lib.hid (HL.out hl)
        go_wp2
        go_ret
        exact ⟨ret_int H.out, HW.out.trans X2.out⟩
      · have H := Lib.hid (HY.out hl)
        go_wp2
        go_ret
        exact ⟨ret_int H.out, HW.out.trans X2.out⟩
theorem rs11_done {n : Nat} {w F : World} {tmps : Array Value} {a b : Int} (B : Box F n [.int .i64 a, .int .i64 b]) (hC : Ext w F) (h6 : tmps[10]? = some (.pointer (some ⟨n, 0, none⟩))) (X Y : Int) (hX : X = a) (hY : Y = b) :
    bodyPost Tryz.prog Tryz.f111 (fun e w' => e = .returned (Pt X Y) ∧ Ext w w') Exit.ret ⟨tmps, []⟩ F := by
  subst hX; subst hY
  obtain ⟨⟨g0, g1⟩, _⟩ := B.two
  exact bodyPost_ret (v := Pt X Y) (by simp [results, Tryz.results111, go_sem, h6, g0, g1]) rfl ⟨rfl, hC⟩
set_option maxRecDepth 100000 in
set_option maxHeartbeats 8000000 in
theorem at_spec (x y : Int) (m : M5) (a0 b0 : Option Addr) (ca cb : Nat) (fs gs : List F3) (l : Int) (w : World) (hf : Fxs w a0 fs) (hg : Fxs w b0 gs) (hc1 : fs.length ≤ ca) (hc2 : gs.length ≤ cb) (hw : wdB x y = true) (hm : mkB m = true) (hv : trB fs = true) (hu : trB gs = true) :
    Calls Tryz.prog 111 #[Pt x y, MV m, Tr (.slice a0 fs.length ca), Tr (.slice b0 gs.length cb), .int .i64 l] w fun e w' => e = .returned (Pt (arG x y m fs gs l) (arR x y m fs gs l)) ∧ Ext w w' := by
  have HF := Lib.hid hf
  have HG := Lib.hid hg
  have KT := Lib.hid (fun w' h h' => time_spec m a0 b0 ca cb fs gs w' h h' hv hu hm)
  obtain ⟨⟨m1, m2⟩, _⟩ := mk_yes hm
  have hpt : ptB m.x m.y = true := by
    unfold ptB coB
    unfold Co at m1 m2
    rw [Bool.and_eq_true]
    exact ⟨inB_yes (by omega) (by omega), inB_yes (by omega) (by omega)⟩
  have KA := Lib.hid (fun (t : Int) (w : World) (h : Fxs w a0 fs) => hullAt_spec a0 ca fs t l w h hc1)
  have KB := Lib.hid (fun (t : Int) (w : World) (h : Fxs w b0 gs) => hullAt_spec b0 cb gs t l w h hc2)
  have KR := Lib.hid (fun (t : Int) (h1 : haC fs t l = 0) (h2 : haC gs t l = 0) (w : World) => room_spec x y m.n m.x m.y m.s m.z (pkX fs t (legOf fs t)) (pkY fs t (legOf fs t)) (heX fs t) (heY fs t) l (pkX gs t (legOf gs t)) (pkY gs t (legOf gs t)) (heX gs t) (heY gs t) l w hw hpt (ha_valid h1) (ha_valid h2))
  have HN := Lib.hid (fun h => ar_no (x := x) (y := y) (m := m) (fs := fs) (gs := gs) (l := l) h)
  have HY := Lib.hid (fun h => ar_yes (x := x) (y := y) (m := m) (fs := fs) (gs := gs) (l := l) h)
  have hAB : arB m fs gs l = (r2B m fs gs && ((haC fs (r2T m fs gs) l == 0) && (haC gs (r2T m fs gs) l == 0))) := rfl
  generalize arB m fs gs l = AB at *
  generalize arG x y m fs gs l = AG at *
  generalize arR x y m fs gs l = AR at *
  have HP := Lib.hid (r2_time (m := m) hv hu)
  clear hf hg hw hm hv hu m1 m2 hpt
  obtain ⟨W0, hW0⟩ : ∃ W0, W0 = ((((w.alloc (.cells #[.int .i64 x, .int .i64 y] 54)).alloc (.cells #[.string m.n, .int .i64 m.x, .int .i64 m.y, .int .i64 m.s, .int .i64 m.z] 145)).alloc (.cells #[.slice a0 fs.length ca] 33)).alloc (.cells #[.slice b0 gs.length cb] 33)).alloc (.cells #[.int .i64 0, .int .i64 0] 102) := ⟨_, rfl⟩
  have hX : Ext w W0 := hW0 ▸ ((((((Ext.refl w).alloc _).alloc _).alloc _).alloc _).alloc _)
  have hs0 : W0.heap.size = w.heap.size + 1 + 1 + 1 + 1 + 1 := by rw [hW0]; simp
  have e00 : ∀ w', (Ext W0) w' → w'.cell? ⟨w.heap.size, 0, none⟩ = some (.int .i64 x) := fun w' h => h.cellOf (by rw [hW0]; exact (((((Ext.refl _).alloc _).alloc _).alloc _).alloc _).cellOf (boxed 0 rfl (by simp)))
  have e01 : ∀ w', (Ext W0) w' → w'.cell? ⟨w.heap.size, 1, none⟩ = some (.int .i64 y) := fun w' h => h.cellOf (by rw [hW0]; exact (((((Ext.refl _).alloc _).alloc _).alloc _).alloc _).cellOf (boxed 1 rfl (by simp)))
  have e10 : ∀ w', (Ext W0) w' → w'.cell? ⟨w.heap.size + 1, 0, none⟩ = some (.string m.n) := fun w' h => h.cellOf (by rw [hW0]; exact ((((Ext.refl _).alloc _).alloc _).alloc _).cellOf (boxed 0 rfl (by simp)))
  have e11 : ∀ w', (Ext W0) w' → w'.cell? ⟨w.heap.size + 1, 1, none⟩ = some (.int .i64 m.x) := fun w' h => h.cellOf (by rw [hW0]; exact ((((Ext.refl _).alloc _).alloc _).alloc _).cellOf (boxed 1 rfl (by simp)))
  have e12 : ∀ w', (Ext W0) w' → w'.cell? ⟨w.heap.size + 1, 2, none⟩ = some (.int .i64 m.y) := fun w' h => h.cellOf (by rw [hW0]; exact ((((Ext.refl _).alloc _).alloc _).alloc _).cellOf (boxed 2 rfl (by simp)))
  have e13 : ∀ w', (Ext W0) w' → w'.cell? ⟨w.heap.size + 1, 3, none⟩ = some (.int .i64 m.s) := fun w' h => h.cellOf (by rw [hW0]; exact ((((Ext.refl _).alloc _).alloc _).alloc _).cellOf (boxed 3 rfl (by simp)))
  have e14 : ∀ w', (Ext W0) w' → w'.cell? ⟨w.heap.size + 1, 4, none⟩ = some (.int .i64 m.z) := fun w' h => h.cellOf (by rw [hW0]; exact ((((Ext.refl _).alloc _).alloc _).alloc _).cellOf (boxed 4 rfl (by simp)))
  have e20 : ∀ w', (Ext W0) w' → w'.cell? ⟨w.heap.size + 1 + 1, 0, none⟩ = some (.slice a0 fs.length ca) := fun w' h => h.cellOf (by rw [hW0]; exact (((Ext.refl _).alloc _).alloc _).cellOf (boxed 0 rfl (by simp)))
  have e30 : ∀ w', (Ext W0) w' → w'.cell? ⟨w.heap.size + 1 + 1 + 1, 0, none⟩ = some (.slice b0 gs.length cb) := fun w' h => h.cellOf (by rw [hW0]; exact ((Ext.refl _).alloc _).cellOf (boxed 0 rfl (by simp)))
  have e40 : ∀ w', (Ext W0) w' → w'.cell? ⟨w.heap.size + 1 + 1 + 1 + 1, 0, none⟩ = some (.int .i64 0) := fun w' h => h.cellOf (by rw [hW0]; exact boxed 0 rfl (by simp))
  have e41 : ∀ w', (Ext W0) w' → w'.cell? ⟨w.heap.size + 1 + 1 + 1 + 1, 1, none⟩ = some (.int .i64 0) := fun w' h => h.cellOf (by rw [hW0]; exact boxed 1 rfl (by simp))
  have B3 := Lib.hid (show Box W0 (w.heap.size + 1 + 1 + 1 + 1) [.int .i64 0, .int .i64 0] from hW0 ▸ Box.new2 (by simp))
  go_enter Tryz.func111, Tryz.ntmps111
  go_wp2_with fail
  rw [← hW0]
  clear hW0
  refine (KT.out _ (HF.out.ext hX) (HG.out.ext hX)).mono ?_
  rintro e w1 ⟨rfl, hz⟩
  replace hz : Ext W0 w1 := hz
  cases hB : r2B m fs gs
  · have H := Lib.hid (HN.out (by rw [hAB, hB]; rfl))
    rw [r2_neg hB]
    obtain ⟨⟨r0, r1⟩, r2, r3⟩ := (B3.out.ext hz).two
    go_wp2
    exact rs11_done (B3.out.ext hz).set2 (((hX.trans hz).setNew (by simp; omega) _).setNew (by simp; omega) _) rfl _ _ H.out.1 H.out.2
  rw [hB, Bool.true_and] at hAB
  rw [r2_pos hB]
  have hT0 : ¬ r2T m fs gs < 0 := by have := HP.out; omega
  clear hB
  unfold hrG hrR at HY
  generalize r2T m fs gs = T at *
  replace KA := Lib.hid (KA.out T)
  replace KB := Lib.hid (KB.out T)
  replace KR := Lib.hid (KR.out T)
  unfold haH at KA KB
  have HA := Lib.hid (fun (h : haC fs T l = 0) => And.intro (show haV fs T l (pkX fs T (legOf fs T)) = pkX fs T (legOf fs T) from if_pos h) (And.intro (show haV fs T l (pkY fs T (legOf fs T)) = pkY fs T (legOf fs T) from if_pos h) (And.intro (show haV fs T l (heX fs T) = heX fs T from if_pos h) (And.intro (show haV fs T l (heY fs T) = heY fs T from if_pos h) (show haV fs T l l = l from if_pos h)))))
  have HB := Lib.hid (fun (h : haC gs T l = 0) => And.intro (show haV gs T l (pkX gs T (legOf gs T)) = pkX gs T (legOf gs T) from if_pos h) (And.intro (show haV gs T l (pkY gs T (legOf gs T)) = pkY gs T (legOf gs T) from if_pos h) (And.intro (show haV gs T l (heX gs T) = heX gs T from if_pos h) (And.intro (show haV gs T l (heY gs T) = heY gs T from if_pos h) (show haV gs T l l = l from if_pos h)))))
  generalize haV fs T l (pkX fs T (legOf fs T)) = a at *
  generalize haV fs T l (pkY fs T (legOf fs T)) = b at *
  generalize haV fs T l (heX fs T) = c at *
  generalize haV fs T l (heY fs T) = d at *
  generalize haV fs T l l = n at *
  generalize haV gs T l (pkX gs T (legOf gs T)) = p at *
  generalize haV gs T l (pkY gs T (legOf gs T)) = q at *
  generalize haV gs T l (heX gs T) = u at *
  generalize haV gs T l (heY gs T) = v at *
  generalize haV gs T l l = k at *
  generalize pkX fs T (legOf fs T) = a' at *
  generalize pkY fs T (legOf fs T) = b' at *
  generalize heX fs T = c' at *
  generalize heY fs T = d' at *
  generalize pkX gs T (legOf gs T) = p' at *
  generalize pkY gs T (legOf gs T) = q' at *
  generalize heX gs T = u' at *
  generalize heY gs T = v' at *
  generalize haC fs T l = c1 at *
  generalize haC gs T l = c2 at *
  have g20 := e20 w1 hz
  go_wp2_with fail
  refine (KA.out _ (HF.out.ext (hX.trans hz))).mono ?_
  rintro e w2 ⟨rfl, hy⟩
  obtain ⟨V1, hV1⟩ : ∃ V1, V1 = w2.alloc (.cells #[.int .i64 a, .int .i64 b, .int .i64 c, .int .i64 d, .int .i64 n] 62) := ⟨_, rfl⟩
  have X1 : Ext W0 V1 := hV1 ▸ (hz.trans hy).alloc _
  have P1 := Lib.hid (show Box V1 w2.heap.size [.int .i64 a, .int .i64 b, .int .i64 c, .int .i64 d, .int .i64 n] from hV1 ▸ Box.new5 rfl)
  clear g20
  have g30 := e30 V1 X1
  go_upto_region 5 with fail
  rw [← hV1]
  clear hV1 hz hy
  generalize w2.heap.size = h1 at *
  go_wp2_with fail
  refine (KB.out _ (HG.out.ext (hX.trans X1))).mono ?_
  rintro e w3 ⟨rfl, hy⟩
  obtain ⟨V2, hV2⟩ : ∃ V2, V2 = w3.alloc (.cells #[.int .i64 p, .int .i64 q, .int .i64 u, .int .i64 v, .int .i64 k] 62) := ⟨_, rfl⟩
  have X2 : Ext V1 V2 := hV2 ▸ hy.alloc _
  have P2 := Lib.hid (show Box V2 w3.heap.size [.int .i64 p, .int .i64 q, .int .i64 u, .int .i64 v, .int .i64 k] from hV2 ▸ Box.new5 rfl)
  replace P1 := Lib.hid (P1.out.ext X2)
  go_upto_region 6 with fail
  rw [← hV2]
  clear hV2 hy g30
  generalize w3.heap.size = h2 at *
  have X12 := Lib.hid (X1.trans X2)
  by_cases e1 : c1 = 0
  rotate_left
  · have e1b : (c1 != 0) = true := by simpa using e1
    have e1c : (c1 == 0) = false := beq_eq_false_iff_ne.2 e1
    have H := Lib.hid (HN.out (by rw [hAB, e1c]; rfl))
    obtain ⟨⟨r0, r1⟩, r2, r3⟩ := (B3.out.ext X12.out).two
    go_wp2
    exact rs11_done (B3.out.ext X12.out).set2 (((hX.trans X12.out).setNew (by simp; omega) _).setNew (by simp; omega) _) rfl _ _ H.out.1 H.out.2
  by_cases e2 : c2 = 0
  rotate_left
  · subst e1
    have e2b : (c2 != 0) = true := by simpa using e2
    have e2c : (c2 == 0) = false := beq_eq_false_iff_ne.2 e2
    have H := Lib.hid (HN.out (by rw [hAB, e2c]; rfl))
    obtain ⟨⟨r0, r1⟩, r2, r3⟩ := (B3.out.ext X12.out).two
    go_wp2
    exact rs11_done (B3.out.ext X12.out).set2 (((hX.trans X12.out).setNew (by simp; omega) _).setNew (by simp; omega) _) rfl _ _ H.out.1 H.out.2
  have H := Lib.hid (HY.out (by rw [hAB, e1, e2]; rfl))
  obtain ⟨rfl, rfl, rfl, rfl, rfl⟩ := HA.out e1
  obtain ⟨rfl, rfl, rfl, rfl, rfl⟩ := HB.out e2
  replace KR := Lib.hid (KR.out e1 e2)
  subst e1
  subst e2
  clear HN HY hAB HA HB
  have g00 := e00 V2 X12.out; have g01 := e01 V2 X12.out
  have g10 := e10 V2 X12.out; have g11 := e11 V2 X12.out; have g12 := e12 V2 X12.out; have g13 := e13 V2 X12.out; have g14 := e14 V2 X12.out
  obtain ⟨⟨k0, k1, k2, k3, k4⟩, _⟩ := P1.out.five
  obtain ⟨⟨j0, j1, j2, j3, j4⟩, _⟩ := P2.out.five
  go_wp2_with fail
  refine (KR.out _).mono ?_
  rintro e w4 ⟨rfl, hy⟩
  have X3 := X12.out.trans hy
  obtain ⟨⟨r0, r1⟩, r2, r3⟩ := (B3.out.ext X3).two
  go_wp2
  exact rs11_done (B3.out.ext X3).set2 (((hX.trans X3).setNew (by simp; omega) _).setNew (by simp; omega) _) rfl _ _ H.out.1 H.out.2
end Go.Proofs.YtmlojndkpnhalaaGreat.Rmd
namespace Go.Proofs.YtmlojndkpnhalaaGreat.Rmd
open Go.ChangeShapes Go.WideShapes Go.ChangeAt Go.RowKit
open Go.Proofs.YtmlojndkpnhalaaGreat.Num Go.Proofs.YtmlojndkpnhalaaGreat.Kit Go.Proofs.YtmlojndkpnhalaaGreat.Pts Go.Proofs.YtmlojndkpnhalaaGreat.Seg Go.Proofs.YtmlojndkpnhalaaGreat.Wnd Go.Proofs.YtmlojndkpnhalaaGreat.Hul Go.Proofs.YtmlojndkpnhalaaGreat.Rom
open Go.Proofs.YtmlojndkpnhalaaGreat.Crs
open Go.Proofs.YtmlojndkpnhalaaGreat.Trk (F3 Fxs Tr trB fx pkX pkY legOf heX heY)
set_option linter.unusedVariables false
set_option linter.unusedSimpArgs false
theorem ru11_done {n : Nat} {w F : World} {tmps : Array Value} {a b k : Int} (B : Box F n [.int .i64 a, .int .i64 b]) (hC : Ext w F) (h6 : tmps[12]? = some (.pointer (some ⟨n, 0, none⟩))) (h7 : tmps[13]? = some (.int .i64 k)) (X Y C : Int) (hX : X = a) (hY : Y = b) (hK : C = k) :
    bodyPost Tryz.prog Tryz.f54 (fun e w' => e = .returned (.tuple #[Pt X Y, .int .i64 C]) ∧ Ext w w') Exit.ret ⟨tmps, []⟩ F := by
  subst hX; subst hY; subst hK
  obtain ⟨⟨g0, g1⟩, _⟩ := B.two
  exact bodyPost_ret (v := .tuple #[Pt X Y, .int .i64 C]) (by simp [results, Tryz.results54, go_sem, h6, h7, g0, g1]) rfl ⟨rfl, hC⟩
set_option maxRecDepth 100000 in
set_option maxHeartbeats 8000000 in
theorem roomAt_spec (x y : Int) (l k : L4) (a : Option Addr) (cap : Nat) (ms : List M5) (n : Int) (at_ : Option Addr) (ct : Nat) (fs : List F3) (au : Option Addr) (cu : Nat) (gs : List F3) (ln : Int) (w : World) (hf : Mks w a ms) (ht : Fxs w at_ fs) (hg : Fxs w au gs) (hc1 : fs.length ≤ ct) (hc2 : gs.length ≤ cu) :
    Calls Tryz.prog 54 #[Pt x y, CV l k (.slice a ms.length cap), .int .i64 n, Tr (.slice at_ fs.length ct), Tr (.slice au gs.length cu), .int .i64 ln] w fun e w' => e = .returned (.tuple #[Pt (raG x y l k ms fs gs n ln) (raR x y l k ms fs gs n ln), .int .i64 (raK x y l k ms fs gs n ln)]) ∧ Ext w w' := by
  obtain ⟨W0, hW0⟩ : ∃ W0, W0 = ((((w.alloc (.cells #[.int .i64 x, .int .i64 y] 54)).alloc (.cells (cellsC l k (.slice a ms.length cap)).toArray 30)).alloc (.cells #[.slice at_ fs.length ct] 33)).alloc (.cells #[.slice au gs.length cu] 33)).alloc (.cells #[.int .i64 0, .int .i64 0] 102) := ⟨_, rfl⟩
  have HW := Lib.hid (show Ext w W0 from hW0 ▸ (((((Ext.refl w).alloc _).alloc _).alloc _).alloc _).alloc _)
  have CW0 := Lib.hid (show W0.cell? ⟨w.heap.size, 0, none⟩ = some (.int .i64 x) from hW0 ▸ (((((Ext.refl _).alloc _).alloc _).alloc _).alloc _).cellOf (boxed 0 rfl rfl))
  have CW1 := Lib.hid (show W0.cell? ⟨w.heap.size, 1, none⟩ = some (.int .i64 y) from hW0 ▸ (((((Ext.refl _).alloc _).alloc _).alloc _).alloc _).cellOf (boxed 1 rfl rfl))
  have BB := Lib.hid (show Box W0 (w.heap.size + 1) (cellsC l k (.slice a ms.length cap)) from hW0 ▸ (((Box.new (by simp)).alloc _).alloc _).alloc _)
  have CT := Lib.hid (show W0.cell? ⟨w.heap.size + 1 + 1, 0, none⟩ = some (.slice at_ fs.length ct) from hW0 ▸ (((Ext.refl _).alloc _).alloc _).cellOf (boxed 0 rfl (by simp)))
  have CU := Lib.hid (show W0.cell? ⟨w.heap.size + 1 + 1 + 1, 0, none⟩ = some (.slice au gs.length cu) from hW0 ▸ ((Ext.refl _).alloc _).cellOf (boxed 0 rfl (by simp)))
  have B3 := Lib.hid (show Box W0 (w.heap.size + 1 + 1 + 1 + 1) [.int .i64 0, .int .i64 0] from hW0 ▸ Box.new2 (by simp))
  have zW : W0.heap.size = w.heap.size + 1 + 1 + 1 + 1 + 1 := by rw [hW0]; simp
  have HF := Lib.hid (hf.ext HW.out)
  have HT := Lib.hid (ht.ext HW.out)
  have HG := Lib.hid (hg.ext HW.out)
  have HF0 := Lib.hid hf
  have HT0 := Lib.hid ht
  have HG0 := Lib.hid hg
  clear hf ht hg
  obtain ⟨W1, hW1⟩ : ∃ W1, W1 = W0.alloc (.cells #[.slice at_ fs.length ct, .slice au gs.length cu] 33) := ⟨_, rfl⟩
  have h1 : Ext W0 W1 := hW1 ▸ (Ext.refl W0).alloc _
  have TK := Lib.hid (Tks.two (w := W1) (b := w.heap.size + 1 + 1 + 1 + 1 + 1) (t := ⟨at_, ct, fs⟩) (u := ⟨au, cu, gs⟩) (hW1 ▸ boxed 0 rfl zW) (hW1 ▸ boxed 1 rfl zW) (HT.out.ext h1) (HG.out.ext h1))
  have KL := Lib.hid (l11Code_spec x y l k a cap ms n (some ⟨w.heap.size + 1 + 1 + 1 + 1 + 1, 0, none⟩) 2 [⟨at_, ct, fs⟩, ⟨au, cu, gs⟩] ln W1 (HF.out.ext h1) TK.out)
  rw [tsB_two] at KL
  have X1 := Lib.hid h1
  clear h1 zW
  have q0 := CW0.out
  have q1 := CW1.out
  by_cases g : mqC x y l k ms (trB fs && trB gs) n ln = 0
  rotate_left
  · have HK := Lib.hid (show raG x y l k ms fs gs n ln = 0 from if_neg g)
    have HR := Lib.hid (show raR x y l k ms fs gs n ln = 0 from if_neg g)
    have g1 : (mqC x y l k ms (trB fs && trB gs) n ln != 0) = true := by simp [g]
    have g2 : (mqC x y l k ms (trB fs && trB gs) n ln == 0) = false := beq_eq_false_iff_ne.2 g
    obtain ⟨C, hC⟩ : ∃ C, C = mqC x y l k ms (trB fs && trB gs) n ln := ⟨_, rfl⟩
    have HC := Lib.hid (show raK x y l k ms fs gs n ln = C from hC.symm)
    rw [← hC] at KL g1 g2
    clear g hC
    go_enter Tryz.func54, Tryz.ntmps54
    go_wp2_with fail
    rw [← hW0, ← hW1]
    clear hW0 hW1
    refine KL.out.mono ?_
    rintro e w1 ⟨rfl, hx⟩
    have X2 := Lib.hid (X1.out.trans hx)
    obtain ⟨⟨r0, r1⟩, r2, r3⟩ := (B3.out.ext X2.out).two
    clear q0 q1
    go_wp2
    exact ru11_done (B3.out.ext X2.out).set2 (((HW.out.trans X2.out).setNew (by simp; omega) _).setNew (by simp; omega) _) rfl rfl _ _ _ HK.out HR.out HC.out
  have HK0 : raG x y l k ms fs gs n ln = arG x y (mk ms n.toNat) fs gs ln := if_pos g
  have HR0 : raR x y l k ms fs gs n ln = arR x y (mk ms n.toNat) fs gs ln := if_pos g
  have HC := Lib.hid (show raK x y l k ms fs gs n ln = 0 from g)
  rw [g] at KL
  obtain ⟨hw, hmf, _⟩ := mq_zero g
  obtain ⟨hq, hv0, hn⟩ := mf_zero hmf
  rw [Bool.and_eq_true] at hv0
  obtain ⟨hv, hu⟩ := hv0
  obtain ⟨i, rfl⟩ : ∃ i : Nat, n = i := ⟨n.toNat, by omega⟩
  have hi : i < ms.length := by omega
  rw [show ((i : Int)).toNat = i by simp] at HK0 HR0
  have hm := cr_mk hq hi
  have KT := Lib.hid (fun w' h h' => at_spec x y (mk ms i) at_ au ct cu fs gs ln w' h h' hc1 hc2 hw hm hv hu)
  obtain ⟨b, off, rfl, hb⟩ := HF0.out.row (by omega)
  obtain ⟨k0, k1, k2, k3, k4⟩ := hb i hi
  have hbl : b < w.heap.size := World.block_lt_of_cell? w _ k0
  have i0 : (0 : Int) ≤ (i : Int) := by omega
  have i1 : (i : Int) < (ms.length : Int) := by omega
  clear g hw hmf hq hv hu hn hm hb
  generalize mk ms i = m at *
  have HK := Lib.hid HK0
  have HR := Lib.hid HR0
  clear HK0 HR0
  generalize arG x y m fs gs ln = G at *
  generalize arR x y m fs gs ln = Q at *
  go_enter Tryz.func54, Tryz.ntmps54
  go_wp2_with fail
  rw [← hW0, ← hW1]
  clear hW0 hW1
  refine KL.out.mono ?_
  rintro e w1 ⟨rfl, hx⟩
  have X2 := Lib.hid (X1.out.trans hx)
  have XX := Lib.hid (HW.out.trans X2.out)
  clear q0 q1 hx
  obtain ⟨⟨p0, p1, p2, p3, p4, p5, p6, p7, p8⟩, _⟩ := Box.nine (BB.out.ext X2.out)
  obtain ⟨NB, hNB⟩ : ∃ NB, NB = w.heap.size + 1 + 1 + 1 + 1 := ⟨_, rfl⟩
  have BR := Lib.hid (B3.out.ext X2.out)
  rw [← hNB] at BR
  have q0 : ∀ w', ResC w1 NB 2 w' → w'.cell? ⟨w.heap.size, 0, none⟩ = some (.int .i64 x) := fun w' h => h.cell (by simp; omega) (X2.out.cellOf CW0.out)
  have q1 : ∀ w', ResC w1 NB 2 w' → w'.cell? ⟨w.heap.size, 1, none⟩ = some (.int .i64 y) := fun w' h => h.cell (by simp; omega) (X2.out.cellOf CW1.out)
  have f9 : ∀ w', ResC w1 NB 2 w' → w'.cell? ⟨w.heap.size + 1 + 1, 0, none⟩ = some (.slice at_ fs.length ct) := fun w' h => h.cell (by simp; omega) (X2.out.cellOf CT.out)
  have f7 : ∀ w', ResC w1 NB 2 w' → w'.cell? ⟨w.heap.size + 1 + 1 + 1, 0, none⟩ = some (.slice au gs.length cu) := fun w' h => h.cell (by simp; omega) (X2.out.cellOf CU.out)
  have f8 : ∀ w', ResC w1 NB 2 w' → w'.cell? ⟨w.heap.size + 1, 8, none⟩ = some (.slice (some ⟨b, off, none⟩) ms.length cap) := fun w' h => h.cell (by simp; omega) p8
  have g0 : ∀ w', ResC w1 NB 2 w' → w'.cell? ⟨b, off + i * 5, none⟩ = some (.string m.n) := fun w' h => h.cell (by simp; omega) (XX.out.cellOf k0)
  have g1 : ∀ w', ResC w1 NB 2 w' → w'.cell? ⟨b, off + i * 5 + 1, none⟩ = some (.int .i64 m.x) := fun w' h => h.cell (by simp; omega) (XX.out.cellOf k1)
  have g2 : ∀ w', ResC w1 NB 2 w' → w'.cell? ⟨b, off + i * 5 + 2, none⟩ = some (.int .i64 m.y) := fun w' h => h.cell (by simp; omega) (XX.out.cellOf k2)
  have g3 : ∀ w', ResC w1 NB 2 w' → w'.cell? ⟨b, off + i * 5 + 3, none⟩ = some (.int .i64 m.s) := fun w' h => h.cell (by simp; omega) (XX.out.cellOf k3)
  have g4 : ∀ w', ResC w1 NB 2 w' → w'.cell? ⟨b, off + i * 5 + 4, none⟩ = some (.int .i64 m.z) := fun w' h => h.cell (by simp; omega) (XX.out.cellOf k4)
  have S0 : ResC w1 NB 2 w1 := ResC.of2 BR.out
  clear p0 p1 p2 p3 p4 p5 p6 p7 p8 k0 k1 k2 k3 k4
  go_upto_region 4 with fail
  simp only [← hNB]
  have hle : w.heap.size ≤ NB := by omega
  clear hNB
  refine wp_region_held_drew (S := (ResC w1 NB 2)) (by kernel_rfl) (by (try dsimp only); first | go_keep | exact (Ext.refl _).drew | exact Res.new2.drew | exact Res.new4.drew | exact ResB.drew (by assumption) | exact ResC.drew (by assumption) | assumption | exact Ext.drew (by assumption) | exact Res.drew (by assumption)) (fun hHeld => ?_)
  refine Ord.K 0 27 ?_
  refine Ord.K 1 28 ?_
  refine Ord.K 2 29 ?_
  refine Ord.K 3 30 ?_
  refine Ord.K 4 31 ?_
  refine Ord.K 5 32 ?_
  refine Ord.K 6 33 ?_
  refine Ord.K 7 34 ?_
  refine Ord.K 8 35 ?_
  (refine wpAnyH_ready (rs := [9]) (by kernel_rfl) (by simp) ?_; refine AllReadyH.cons rfl (fun K hK => ?_) AllReadyH.nil; go_simp; ((go_at_call 111; refine (KT.out _ (HT0.out.ext (ResC.to (by first | assumption | exact S0.drew : ResC w1 NB 2 _) XX.out (by omega))) (HG0.out.ext (ResC.to (by first | assumption | exact S0.drew : ResC w1 NB 2 _) XX.out (by omega)))).mono ?_; rintro e w2 ⟨rfl, hy⟩)); go_wp2_with fail; (refine hK.out _ _ (by first | assumption | exact Ext.trans (by assumption) hy | exact Res.ext (by assumption) hy | exact ResB.ext (by assumption) hy | exact ResC.ext (by assumption) hy | (go_split_ands; (repeat' apply And.intro) <;> exact Ext.cellOf hy (by assumption))) (fun hHeld => ?_)); clear hK K; (try simp only [Act.put, Ord.a, Ord.b, Ord.c]))
  ((first | ((first | refine Exists.elim (Res.two hHeld) (fun rx rh => ?_) | refine Exists.elim (ResC.two hHeld) (fun rx rh => ?_) | refine Exists.elim (Res.two hHeld.1) (fun rx rh => ?_)); refine Exists.elim rh (fun ry rb => ?_); have r0 := rb.two.1.1; have r1 := rb.two.1.2; have r2 := rb.two.2.1; have r3 := rb.two.2.2; clear rh) | ((first | refine Exists.elim (Res.four hHeld) (fun rx rh => ?_) | refine Exists.elim (Res.four hHeld.1) (fun rx rh => ?_)); refine Exists.elim rh (fun ry rh => ?_); refine Exists.elim rh (fun rz rh => ?_); refine Exists.elim rh (fun ru rb => ?_); have r0 := rb.four.1.1; have r1 := rb.four.1.2.1; have r2 := rb.four.1.2.2.1; have r3 := rb.four.1.2.2.2; have r4 := rb.four.2.1; have r5 := rb.four.2.2.1; have r6 := rb.four.2.2.2.1; have r7 := rb.four.2.2.2.2; clear rh) | (refine Exists.elim (Res.three hHeld) (fun rx rh => ?_); refine Exists.elim rh (fun ry rh => ?_); refine Exists.elim rh (fun rz rb => ?_); have r0 := rb.three'.1.1; have r1 := rb.three'.1.2.1; have r2 := rb.three'.1.2.2; have r3 := rb.three'.2.1; have r4 := rb.three'.2.2.1; have r5 := rb.three'.2.2.2; clear rh; (try simp only [World.cell?_drew, World.frozen?_drew] at r0 r1 r2 r3 r4 r5)) | ((first | refine Exists.elim (Res.five hHeld) (fun rx rh => ?_) | refine Exists.elim (Res.five hHeld.1) (fun rx rh => ?_)); refine Exists.elim rh (fun ry rh => ?_); refine Exists.elim rh (fun rz rh => ?_); refine Exists.elim rh (fun ru rh => ?_); refine Exists.elim rh (fun rt rb => ?_); have r0 := rb.five.1.1; have r1 := rb.five.1.2.1; have r2 := rb.five.1.2.2.1; have r3 := rb.five.1.2.2.2.1; have r4 := rb.five.1.2.2.2.2; have r5 := rb.five.2.1; have r6 := rb.five.2.2.1; have r7 := rb.five.2.2.2.1; have r8 := rb.five.2.2.2.2.1; have r9 := rb.five.2.2.2.2.2; clear rh; (try simp only [World.cell?_drew, World.frozen?_drew] at r0 r1 r2 r3 r4 r5 r6 r7 r8 r9)) | (refine Exists.elim (SD.one hHeld) (fun rx rh => ?_); have r0 := rh.1; have r1 := rh.2; clear rh)); refine wpAnyH_ready (rs := [10]) (by kernel_rfl) (by simp) ?_; refine AllReadyH.cons rfl (fun K hK => ?_) AllReadyH.nil; go_simp; (refine hK.out _ _ (by first | with_reducible exact SD.set hHeld _ | with_reducible exact Res.set (Res.set hHeld _ _) _ _ | with_reducible exact ResB.set (ResB.set hHeld _ _) _ _ | with_reducible exact ResC.set (ResC.set hHeld _ _) _ _ | with_reducible exact Res.set (Res.set (Res.set (Res.set hHeld _ _) _ _) _ _) _ _ | with_reducible exact ResB.set (ResB.set (ResB.set (ResB.set hHeld _ _) _ _) _ _) _ _ | with_reducible exact Res.set (Res.set (Res.set hHeld _ _) _ _) _ _ | with_reducible exact Res.set (Res.set (Res.set (Res.set (Res.set hHeld _ _) _ _) _ _) _ _) _ _) (fun hHeld => ?_)); clear hK K; (try simp only [Act.put, Ord.a, Ord.b, Ord.c]))
  refine Ord.K 11 13 ?_
  refine wpAnyH_done (by kernel_rfl) ?_ _
  go_wp2
  exact ru11_done rb.set2 (hHeld.to XX.out (by omega)) rfl rfl _ _ _ HK.out HR.out HC.out
end Go.Proofs.YtmlojndkpnhalaaGreat.Rmd
