import Derived.Test.YtmlojndkpnhalaaGreatBta
import Derived.Test.YtmlojndkpnhalaaGreatMRul2
import Derived.Test.YtmlojndkpnhalaaGreatMAt
namespace Go.Proofs.YtmlojndkpnhalaaGreat.Rlt
open Go.ChangeShapes Go.WideShapes Go.ChangeAt Go.RowKit
open Go.Proofs.YtmlojndkpnhalaaGreat.Num Go.Proofs.YtmlojndkpnhalaaGreat.Kit Go.Proofs.YtmlojndkpnhalaaGreat.Pts Go.Proofs.YtmlojndkpnhalaaGreat.Seg Go.Proofs.YtmlojndkpnhalaaGreat.Wnd Go.Proofs.YtmlojndkpnhalaaGreat.Hul Go.Proofs.YtmlojndkpnhalaaGreat.Rul Go.Proofs.YtmlojndkpnhalaaGreat.Trn Go.Proofs.YtmlojndkpnhalaaGreat.Bta Go.Proofs.YtmlojndkpnhalaaGreat.Trk Go.Proofs.YtmlojndkpnhalaaGreat.Bts
open Go.Proofs.YtmlojndkpnhalaaGreat.Gcd
set_option linter.unusedVariables false
set_option linter.unusedSimpArgs false
theorem ba_valid {x y : Int} {fs : List F3} {t l s : Int} (h : baC x y fs t l s = 0) :
    wdB x y = true ∧ hlB (baV x y fs t l s (pkX fs t (legOf fs t))) (baV x y fs t l s (pkY fs t (legOf fs t))) (baV x y fs t l s (heX fs t)) (baV x y fs t l s (heY fs t)) (baV x y fs t l s l) = true := by
  have e := (ba_yes h).1
  rw [e, e, e, e, e]
  have ht : tuC x y fs t s = 0 := Classical.byContradiction fun hn => by rw [ba_tu hn] at h; exact hn h
  rw [ba_ha ht] at h
  have hmo : moC x y fs = 0 := Classical.byContradiction fun hn => by rw [(tu_bad hn).1] at ht; cases ht
  obtain ⟨hw, hv⟩ := mo_ok hmo
  have hl : lastB fs t = true := Classical.byContradiction fun hn => by rw [(tu_out hmo (by simpa using hn)).1] at ht; cases ht
  refine ⟨hw, ?_⟩
  unfold haC at h
  rw [if_pos hv] at h
  have hin : inB l 1 1000 = true := Classical.byContradiction fun hn => by rw [if_neg hn] at h; cases h
  rw [if_pos hin] at h
  obtain ⟨⟨h2, _⟩, _⟩ := trB_yes hv
  have hk := legOf_lt t h2
  obtain ⟨⟨ca, cb, cc, cd⟩, _⟩ := leg_bounds hv hk
  obtain ⟨hx, hy⟩ := pk_between hv hl
  obtain ⟨b1, b2⟩ := hd_bd hv hk
  have hct := he_in h
  have hz : hzB fs t = false := by
    cases hz : hzB fs t
    · rfl
    · unfold heC at h; rw [if_pos hct, if_pos hz] at h; cases h
  unfold heX heY
  rw [if_pos h, if_pos h]
  have hp : ptB (pkX fs t (legOf fs t)) (pkY fs t (legOf fs t)) = true := by
    unfold ptB coB
    rw [Bool.and_eq_true]
    exact ⟨inB_yes (by omega) (by omega), inB_yes (by omega) (by omega)⟩
  have hd : hdB (hdX fs (legOf fs t)) (hdY fs (legOf fs t)) = true := by
    unfold hdB
    rw [inB_yes b1.1 b1.2, inB_yes b2.1 b2.2, show ((hdX fs (legOf fs t) == 0) && (hdY fs (legOf fs t) == 0)) = false from hz]
    rfl
  unfold Hul.hlB
  rw [hp, hd, hin]
  rfl
def raC (x y : Int) (fs gs : List F3) (t l s : Int) : Int := if baC x y fs t l s = 0 then baC x y gs t l s else baC x y fs t l s
def rtK (x y : Int) (fs gs : List F3) (t l s : Int) : Int := if raC x y fs gs t l s = 0 then ruK x y (baV x y fs t l s (pkX fs t (legOf fs t))) (baV x y fs t l s (pkY fs t (legOf fs t))) (baV x y fs t l s (heX fs t)) (baV x y fs t l s (heY fs t)) (baV x y fs t l s l) (baB x y fs t l s) (baV x y gs t l s (pkX gs t (legOf gs t))) (baV x y gs t l s (pkY gs t (legOf gs t))) (baV x y gs t l s (heX gs t)) (baV x y gs t l s (heY gs t)) (baV x y gs t l s l) (baB x y gs t l s) else 0
def rtR (x y : Int) (fs gs : List F3) (t l s : Int) : Int := if raC x y fs gs t l s = 0 then ruR x y (baV x y fs t l s (pkX fs t (legOf fs t))) (baV x y fs t l s (pkY fs t (legOf fs t))) (baV x y fs t l s (heX fs t)) (baV x y fs t l s (heY fs t)) (baV x y fs t l s l) (baB x y fs t l s) (baV x y gs t l s (pkX gs t (legOf gs t))) (baV x y gs t l s (pkY gs t (legOf gs t))) (baV x y gs t l s (heX gs t)) (baV x y gs t l s (heY gs t)) (baV x y gs t l s l) (baB x y gs t l s) else 0
theorem ro_yes {x y a b c d n : Int} {s : Bool} {p q u v m : Int} {t : Bool} (hw : wdB x y = true) (h : hlB a b c d n = true) (g : hlB p q u v m = true) :
    roK x y a b c d n s p q u v m t = ruK x y a b c d n s p q u v m t ∧ roR x y a b c d n s p q u v m t = ruR x y a b c d n s p q u v m t ∧ wwC x y a b c d n p q u v m = 0 := by
  have hB : wwB x y a b c d n p q u v m = true := by unfold wwB; rw [hw, h2_yes h g]; rfl
  exact ⟨if_pos hB, if_pos hB, if_pos hB⟩
theorem ra_doneI {n : Nat} {w F : World} {tmps : Array Value} {a b k : Int} (B : Box F n [.int .i64 a, .int .i64 b]) (hC : Ext w F) (h6 : tmps[12]? = some (.pointer (some ⟨n, 0, none⟩))) (h7 : tmps[13]? = some (.int .i64 k)) (X Y C : Int) (hX : X = a) (hY : Y = b) (hK : C = k) :
    bodyPost Tryz.prog Tryz.f29 (fun e w' => e = .returned (.tuple #[Pt X Y, .int .i64 C]) ∧ Ext w w') Exit.ret ⟨tmps, []⟩ F := by
  subst hX; subst hY; subst hK
  obtain ⟨⟨g0, g1⟩, _⟩ := B.two
  exact bodyPost_ret (v := .tuple #[Pt X Y, .int .i64 C]) (by simp [results, Tryz.results29, go_sem, h6, h7, g0, g1]) rfl ⟨rfl, hC⟩
set_option maxRecDepth 100000 in
set_option maxHeartbeats 8000000 in
theorem ruleAt_impl (x y : Int) (a0 b0 : Option Addr) (ca cb : Nat) (fs gs : List F3) (t l s : Int) (w : World) (hf : Fxs w a0 fs) (hg : Fxs w b0 gs) (hl1 : fs.length ≤ 1048576) (hl2 : gs.length ≤ 1048576) (hc1 : fs.length ≤ ca) (hc2 : gs.length ≤ cb) :
    Calls Tryz.prog 29 #[Pt x y, Tr (.slice a0 fs.length ca), Tr (.slice b0 gs.length cb), .int .i64 t, .int .i64 l, .int .i64 s] w fun e w' => e = .returned (.tuple #[Pt (rtK x y fs gs t l s) (rtR x y fs gs t l s), .int .i64 (raC x y fs gs t l s)]) ∧ Ext w w' := by
  have HF := Lib.hid hf
  have HG := Lib.hid hg
  clear hf hg
  have KA := Lib.hid (fun (w : World) (h : Fxs w a0 fs) => boatAt_impl x y a0 ca fs t l s w h hl1 hc1)
  have KB := Lib.hid (fun (w : World) (h : Fxs w b0 gs) => boatAt_impl x y b0 cb gs t l s w h hl2 hc2)
  have HV1 := Lib.hid (ba_valid (x := x) (y := y) (fs := fs) (t := t) (l := l) (s := s))
  have HV2 := Lib.hid (ba_valid (x := x) (y := y) (fs := gs) (t := t) (l := l) (s := s))
  unfold rtK rtR raC
  unfold baH at KA KB
  generalize baV x y fs t l s (pkX fs t (legOf fs t)) = a at *
  generalize baV x y fs t l s (pkY fs t (legOf fs t)) = b at *
  generalize baV x y fs t l s (heX fs t) = c at *
  generalize baV x y fs t l s (heY fs t) = d at *
  generalize baV x y fs t l s l = n at *
  generalize baB x y fs t l s = f at *
  generalize baC x y fs t l s = c1 at *
  generalize baV x y gs t l s (pkX gs t (legOf gs t)) = p at *
  generalize baV x y gs t l s (pkY gs t (legOf gs t)) = q at *
  generalize baV x y gs t l s (heX gs t) = u at *
  generalize baV x y gs t l s (heY gs t) = v at *
  generalize baV x y gs t l s l = m at *
  generalize baB x y gs t l s = g at *
  generalize baC x y gs t l s = c2 at *
  have KR := Lib.hid (fun (hc : c1 = 0) (hd : c2 = 0) (w : World) => ruleOn_impl x y a b c d n f p q u v m g w)
  obtain ⟨W0, hW0⟩ : ∃ W0, W0 = (((w.alloc (.cells #[.int .i64 x, .int .i64 y] 54)).alloc (.cells #[.slice a0 fs.length ca] 33)).alloc (.cells #[.slice b0 gs.length cb] 33)).alloc (.cells #[.int .i64 0, .int .i64 0] 58) := ⟨_, rfl⟩
  have hX : Ext w W0 := hW0 ▸ (((((Ext.refl w).alloc _).alloc _).alloc _).alloc _)
  have hs0 : W0.heap.size = w.heap.size + 1 + 1 + 1 + 1 := by rw [hW0]; simp
  have e00 : ∀ w', (Ext W0) w' → w'.cell? ⟨w.heap.size, 0, none⟩ = some (.int .i64 x) := fun w' h => h.cellOf (by rw [hW0]; exact ((((Ext.refl _).alloc _).alloc _).alloc _).cellOf (boxed 0 rfl (by simp)))
  have e01 : ∀ w', (Ext W0) w' → w'.cell? ⟨w.heap.size, 1, none⟩ = some (.int .i64 y) := fun w' h => h.cellOf (by rw [hW0]; exact ((((Ext.refl _).alloc _).alloc _).alloc _).cellOf (boxed 1 rfl (by simp)))
  have e10 : ∀ w', (Ext W0) w' → w'.cell? ⟨w.heap.size + 1, 0, none⟩ = some (.slice a0 fs.length ca) := fun w' h => h.cellOf (by rw [hW0]; exact (((Ext.refl _).alloc _).alloc _).cellOf (boxed 0 rfl (by simp)))
  have e20 : ∀ w', (Ext W0) w' → w'.cell? ⟨w.heap.size + 1 + 1, 0, none⟩ = some (.slice b0 gs.length cb) := fun w' h => h.cellOf (by rw [hW0]; exact ((Ext.refl _).alloc _).cellOf (boxed 0 rfl (by simp)))
  have e30 : ∀ w', (Ext W0) w' → w'.cell? ⟨w.heap.size + 1 + 1 + 1, 0, none⟩ = some (.int .i64 0) := fun w' h => h.cellOf (by rw [hW0]; exact boxed 0 rfl (by simp))
  have e31 : ∀ w', (Ext W0) w' → w'.cell? ⟨w.heap.size + 1 + 1 + 1, 1, none⟩ = some (.int .i64 0) := fun w' h => h.cellOf (by rw [hW0]; exact boxed 1 rfl (by simp))
  have B3 := Lib.hid (show Box W0 (w.heap.size + 1 + 1 + 1) [.int .i64 0, .int .i64 0] from hW0 ▸ Box.new2 (by simp))
  go_enter Tryz.func29, Tryz.ntmps29
  go_wp2_with fail
  rw [← hW0]
  clear hW0
  refine (KA.out _ (HF.out.ext hX)).mono ?_
  rintro e w1 ⟨rfl, hz⟩
  obtain ⟨V1, hV1⟩ : ∃ V1, V1 = w1.alloc (.cells #[.int .i64 a, .int .i64 b, .int .i64 c, .int .i64 d, .int .i64 n, .bool f] 64) := ⟨_, rfl⟩
  have X1 : Ext W0 V1 := hV1 ▸ hz.alloc _
  have P1 := Lib.hid (show Box V1 w1.heap.size (L6 a b c d n f) from hV1 ▸ Box.new (vs := L6 a b c d n f) rfl)
  go_upto_region 2 with fail
  rw [← hV1]
  clear hV1 hz
  generalize w1.heap.size = h1 at *
  by_cases e1 : c1 = 0
  rotate_left
  · have e1b : (c1 != 0) = true := by simpa using e1
    obtain ⟨⟨r0, r1⟩, r2, r3⟩ := (B3.out.ext X1).two
    go_wp2
    exact ra_doneI (B3.out.ext X1).set2 (((hX.trans X1).setNew (by simp; omega) _).setNew (by simp; omega) _) rfl rfl _ _ _ (by simp [e1]) (by simp [e1]) (by simp [e1])
  subst e1
  have g00 := e00 V1 X1; have g01 := e01 V1 X1; have g20 := e20 V1 X1
  go_wp2_with fail
  refine (KB.out _ (HG.out.ext (hX.trans X1))).mono ?_
  rintro e w2 ⟨rfl, hz⟩
  obtain ⟨V2, hV2⟩ : ∃ V2, V2 = w2.alloc (.cells #[.int .i64 p, .int .i64 q, .int .i64 u, .int .i64 v, .int .i64 m, .bool g] 64) := ⟨_, rfl⟩
  have X2 : Ext V1 V2 := hV2 ▸ hz.alloc _
  have P2 := Lib.hid (show Box V2 w2.heap.size (L6 p q u v m g) from hV2 ▸ Box.new (vs := L6 p q u v m g) rfl)
  replace P1 := Lib.hid (P1.out.ext X2)
  go_upto_region 5 with fail
  rw [← hV2]
  clear hV2 hz g00 g01 g20
  generalize w2.heap.size = h2 at *
  by_cases e2 : c2 = 0
  rotate_left
  · have e2b : (c2 != 0) = true := by simpa using e2
    obtain ⟨⟨r0, r1⟩, r2, r3⟩ := (B3.out.ext (X1.trans X2)).two
    go_wp2
    exact ra_doneI (B3.out.ext (X1.trans X2)).set2 (((hX.trans (X1.trans X2)).setNew (by simp; omega) _).setNew (by simp; omega) _) rfl rfl _ _ _ (by simp [e2]) (by simp [e2]) (by simp [e2])
  subst e2
  have g00 := e00 V2 (X1.trans X2); have g01 := e01 V2 (X1.trans X2)
  obtain ⟨⟨k0, k1, k2, k3, k4, k5⟩, _⟩ := Bts.Box.sixc P1.out
  obtain ⟨⟨j0, j1, j2, j3, j4, j5⟩, _⟩ := Bts.Box.sixc P2.out
  go_wp2_with fail
  refine (KR.out (by trivial) (by trivial) _).mono ?_
  rintro e w3 ⟨rfl, hy⟩
  have X3 := X1.trans (X2.trans hy)
  obtain ⟨y1, y2, y3⟩ := ro_yes (s := f) (t := g) (HV1.out (by trivial)).1 (HV1.out (by trivial)).2 (HV2.out (by trivial)).2
  obtain ⟨⟨r0, r1⟩, r2, r3⟩ := (B3.out.ext X3).two
  go_wp2
  exact ra_doneI (B3.out.ext X3).set2 (((hX.trans X3).setNew (by simp; omega) _).setNew (by simp; omega) _) rfl rfl _ _ _ (by simp [y1]) (by simp [y2]) (by simp [y3])
theorem ra_doneS {n : Nat} {w F : World} {tmps : Array Value} {a b k : Int} (B : Box F n [.int .i64 a, .int .i64 b]) (hC : Ext w F) (h6 : tmps[12]? = some (.pointer (some ⟨n, 0, none⟩))) (h7 : tmps[13]? = some (.int .i64 k)) (X Y C : Int) (hX : X = a) (hY : Y = b) (hK : C = k) :
    bodyPost Tryz.prog Tryz.f30 (fun e w' => e = .returned (.tuple #[Pt X Y, .int .i64 C]) ∧ Ext w w') Exit.ret ⟨tmps, []⟩ F := by
  subst hX; subst hY; subst hK
  obtain ⟨⟨g0, g1⟩, _⟩ := B.two
  exact bodyPost_ret (v := .tuple #[Pt X Y, .int .i64 C]) (by simp [results, Tryz.results30, go_sem, h6, h7, g0, g1]) rfl ⟨rfl, hC⟩
set_option maxRecDepth 100000 in
set_option maxHeartbeats 8000000 in
theorem ruleAt_spec (x y : Int) (a0 b0 : Option Addr) (ca cb : Nat) (fs gs : List F3) (t l s : Int) (w : World) (hf : Fxs w a0 fs) (hg : Fxs w b0 gs) (hl1 : fs.length ≤ 1048576) (hl2 : gs.length ≤ 1048576) (hc1 : fs.length ≤ ca) (hc2 : gs.length ≤ cb) :
    Calls Tryz.prog 30 #[Pt x y, Tr (.slice a0 fs.length ca), Tr (.slice b0 gs.length cb), .int .i64 t, .int .i64 l, .int .i64 s] w fun e w' => e = .returned (.tuple #[Pt (rtK x y fs gs t l s) (rtR x y fs gs t l s), .int .i64 (raC x y fs gs t l s)]) ∧ Ext w w' := by
  have HF := Lib.hid hf
  have HG := Lib.hid hg
  clear hf hg
  have KA := Lib.hid (fun (w : World) (h : Fxs w a0 fs) => boatAt_spec x y a0 ca fs t l s w h hc1)
  have KB := Lib.hid (fun (w : World) (h : Fxs w b0 gs) => boatAt_spec x y b0 cb gs t l s w h hc2)
  have HV1 := Lib.hid (ba_valid (x := x) (y := y) (fs := fs) (t := t) (l := l) (s := s))
  have HV2 := Lib.hid (ba_valid (x := x) (y := y) (fs := gs) (t := t) (l := l) (s := s))
  unfold rtK rtR raC
  unfold baH at KA KB
  generalize baV x y fs t l s (pkX fs t (legOf fs t)) = a at *
  generalize baV x y fs t l s (pkY fs t (legOf fs t)) = b at *
  generalize baV x y fs t l s (heX fs t) = c at *
  generalize baV x y fs t l s (heY fs t) = d at *
  generalize baV x y fs t l s l = n at *
  generalize baB x y fs t l s = f at *
  generalize baC x y fs t l s = c1 at *
  generalize baV x y gs t l s (pkX gs t (legOf gs t)) = p at *
  generalize baV x y gs t l s (pkY gs t (legOf gs t)) = q at *
  generalize baV x y gs t l s (heX gs t) = u at *
  generalize baV x y gs t l s (heY gs t) = v at *
  generalize baV x y gs t l s l = m at *
  generalize baB x y gs t l s = g at *
  generalize baC x y gs t l s = c2 at *
  have KR := Lib.hid (fun (hc : c1 = 0) (hd : c2 = 0) (w : World) => rule_spec x y a b c d n f p q u v m g w (HV1.out hc).1 (HV1.out hc).2 (HV2.out hd).2)
  obtain ⟨W0, hW0⟩ : ∃ W0, W0 = (((w.alloc (.cells #[.int .i64 x, .int .i64 y] 54)).alloc (.cells #[.slice a0 fs.length ca] 33)).alloc (.cells #[.slice b0 gs.length cb] 33)).alloc (.cells #[.int .i64 0, .int .i64 0] 58) := ⟨_, rfl⟩
  have hX : Ext w W0 := hW0 ▸ (((((Ext.refl w).alloc _).alloc _).alloc _).alloc _)
  have hs0 : W0.heap.size = w.heap.size + 1 + 1 + 1 + 1 := by rw [hW0]; simp
  have e00 : ∀ w', (Ext W0) w' → w'.cell? ⟨w.heap.size, 0, none⟩ = some (.int .i64 x) := fun w' h => h.cellOf (by rw [hW0]; exact ((((Ext.refl _).alloc _).alloc _).alloc _).cellOf (boxed 0 rfl (by simp)))
  have e01 : ∀ w', (Ext W0) w' → w'.cell? ⟨w.heap.size, 1, none⟩ = some (.int .i64 y) := fun w' h => h.cellOf (by rw [hW0]; exact ((((Ext.refl _).alloc _).alloc _).alloc _).cellOf (boxed 1 rfl (by simp)))
  have e10 : ∀ w', (Ext W0) w' → w'.cell? ⟨w.heap.size + 1, 0, none⟩ = some (.slice a0 fs.length ca) := fun w' h => h.cellOf (by rw [hW0]; exact (((Ext.refl _).alloc _).alloc _).cellOf (boxed 0 rfl (by simp)))
  have e20 : ∀ w', (Ext W0) w' → w'.cell? ⟨w.heap.size + 1 + 1, 0, none⟩ = some (.slice b0 gs.length cb) := fun w' h => h.cellOf (by rw [hW0]; exact ((Ext.refl _).alloc _).cellOf (boxed 0 rfl (by simp)))
  have e30 : ∀ w', (Ext W0) w' → w'.cell? ⟨w.heap.size + 1 + 1 + 1, 0, none⟩ = some (.int .i64 0) := fun w' h => h.cellOf (by rw [hW0]; exact boxed 0 rfl (by simp))
  have e31 : ∀ w', (Ext W0) w' → w'.cell? ⟨w.heap.size + 1 + 1 + 1, 1, none⟩ = some (.int .i64 0) := fun w' h => h.cellOf (by rw [hW0]; exact boxed 1 rfl (by simp))
  have B3 := Lib.hid (show Box W0 (w.heap.size + 1 + 1 + 1) [.int .i64 0, .int .i64 0] from hW0 ▸ Box.new2 (by simp))
  go_enter Tryz.func30, Tryz.ntmps30
  go_wp2_with fail
  rw [← hW0]
  clear hW0
  refine (KA.out _ (HF.out.ext hX)).mono ?_
  rintro e w1 ⟨rfl, hz⟩
  obtain ⟨V1, hV1⟩ : ∃ V1, V1 = w1.alloc (.cells #[.int .i64 a, .int .i64 b, .int .i64 c, .int .i64 d, .int .i64 n, .bool f] 64) := ⟨_, rfl⟩
  have X1 : Ext W0 V1 := hV1 ▸ hz.alloc _
  have P1 := Lib.hid (show Box V1 w1.heap.size (L6 a b c d n f) from hV1 ▸ Box.new (vs := L6 a b c d n f) rfl)
  go_upto_region 2 with fail
  rw [← hV1]
  clear hV1 hz
  generalize w1.heap.size = h1 at *
  by_cases e1 : c1 = 0
  rotate_left
  · have e1b : (c1 != 0) = true := by simpa using e1
    obtain ⟨⟨r0, r1⟩, r2, r3⟩ := (B3.out.ext X1).two
    go_wp2
    exact ra_doneS (B3.out.ext X1).set2 (((hX.trans X1).setNew (by simp; omega) _).setNew (by simp; omega) _) rfl rfl _ _ _ (by simp [e1]) (by simp [e1]) (by simp [e1])
  subst e1
  have g00 := e00 V1 X1; have g01 := e01 V1 X1; have g20 := e20 V1 X1
  go_wp2_with fail
  refine (KB.out _ (HG.out.ext (hX.trans X1))).mono ?_
  rintro e w2 ⟨rfl, hz⟩
  obtain ⟨V2, hV2⟩ : ∃ V2, V2 = w2.alloc (.cells #[.int .i64 p, .int .i64 q, .int .i64 u, .int .i64 v, .int .i64 m, .bool g] 64) := ⟨_, rfl⟩
  have X2 : Ext V1 V2 := hV2 ▸ hz.alloc _
  have P2 := Lib.hid (show Box V2 w2.heap.size (L6 p q u v m g) from hV2 ▸ Box.new (vs := L6 p q u v m g) rfl)
  replace P1 := Lib.hid (P1.out.ext X2)
  go_upto_region 5 with fail
  rw [← hV2]
  clear hV2 hz g00 g01 g20
  generalize w2.heap.size = h2 at *
  by_cases e2 : c2 = 0
  rotate_left
  · have e2b : (c2 != 0) = true := by simpa using e2
    obtain ⟨⟨r0, r1⟩, r2, r3⟩ := (B3.out.ext (X1.trans X2)).two
    go_wp2
    exact ra_doneS (B3.out.ext (X1.trans X2)).set2 (((hX.trans (X1.trans X2)).setNew (by simp; omega) _).setNew (by simp; omega) _) rfl rfl _ _ _ (by simp [e2]) (by simp [e2]) (by simp [e2])
  subst e2
  have g00 := e00 V2 (X1.trans X2); have g01 := e01 V2 (X1.trans X2)
  obtain ⟨⟨k0, k1, k2, k3, k4, k5⟩, _⟩ := Bts.Box.sixc P1.out
  obtain ⟨⟨j0, j1, j2, j3, j4, j5⟩, _⟩ := Bts.Box.sixc P2.out
  go_wp2_with fail
  refine (KR.out (by trivial) (by trivial) _).mono ?_
  rintro e w3 ⟨rfl, hy⟩
  have X3 := X1.trans (X2.trans hy)
  obtain ⟨⟨r0, r1⟩, r2, r3⟩ := (B3.out.ext X3).two
  go_wp2
  exact ra_doneS (B3.out.ext X3).set2 (((hX.trans X3).setNew (by simp; omega) _).setNew (by simp; omega) _) rfl rfl _ _ _ (by simp) (by simp) (by simp)
end Go.Proofs.YtmlojndkpnhalaaGreat.Rlt
