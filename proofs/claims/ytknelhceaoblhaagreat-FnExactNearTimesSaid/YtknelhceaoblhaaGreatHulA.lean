import Derived.Test.YtknelhceaoblhaaGreatMWnd2
import Derived.Test.YtknelhceaoblhaaGreatPos
import Derived.Test.YtknelhceaoblhaaGreatHead
import Derived.Test.YtknelhceaoblhaaGreatWnd3
import Derived.Test.YtknelhceaoblhaaGreatRes5
namespace Go.Proofs.YtknelhceaoblhaaGreat.Hul
open Go.ChangeShapes Go.WideShapes Go.ChangeAt Go.RowKit
open Go.Proofs.YtknelhceaoblhaaGreat.Num Go.Proofs.YtknelhceaoblhaaGreat.Kit Go.Proofs.YtknelhceaoblhaaGreat.Pts Go.Proofs.YtknelhceaoblhaaGreat.Seg Go.Proofs.YtknelhceaoblhaaGreat.Wnd Go.Proofs.YtknelhceaoblhaaGreat.Trk
set_option linter.unusedVariables false
set_option linter.unusedSimpArgs false
def haC (fs : List F3) (t l : Int) : Int := if trB fs = true then (if inB l 1 1000 = true then heC fs t else 2) else 1
def haV (fs : List F3) (t l x : Int) : Int := if haC fs t l = 0 then x else 0
abbrev haH (fs : List F3) (t l : Int) : Value := Hv (haV fs t l (pkX fs t (legOf fs t))) (haV fs t l (pkY fs t (legOf fs t))) (haV fs t l (heX fs t)) (haV fs t l (heY fs t)) (haV fs t l l)
theorem ha_no {fs : List F3} {t l : Int} (h : haC fs t l ≠ 0) : haH fs t l = Hv 0 0 0 0 0 := by
  have e : ∀ x, haV fs t l x = 0 := fun x => if_neg h
  unfold haH
  rw [e, e, e, e, e]
theorem ha_yes {fs : List F3} {t l : Int} (h : haC fs t l = 0) : haH fs t l = Hv (pkX fs t (legOf fs t)) (pkY fs t (legOf fs t)) (heX fs t) (heY fs t) l := by
  have e : ∀ x, haV fs t l x = x := fun x => if_pos h
  unfold haH
  rw [e, e, e, e, e]
theorem he_in {fs : List F3} {t : Int} (h : heC fs t = 0) : ctI fs t = 0 := by
  by_cases hc : ctI fs t = 0
  · exact hc
  · rw [(he_no hc).1] at h; exact absurd h hc
theorem ha_done {n : Nat} {w F : World} {tmps : Array Value} {a b c d e k : Int} (B : Box F n [.int .i64 a, .int .i64 b, .int .i64 c, .int .i64 d, .int .i64 e]) (hC : Ext w F) (h6 : tmps[6]? = some (.pointer (some ⟨n, 0, none⟩))) (h7 : tmps[7]? = some (.int .i64 k)) (X : Value) (hX : X = Hv a b c d e) (K : Int) (hK : K = k) :
    bodyPost Tryz.prog Tryz.f91 (fun e w' => e = .returned (.tuple #[X, .int .i64 K]) ∧ Ext w w') Exit.ret ⟨tmps, []⟩ F := by
  subst hX; subst hK
  obtain ⟨⟨g0, g1, g2, g3, g4⟩, _⟩ := B.five
  exact bodyPost_ret (v := .tuple #[Hv a b c d e, .int .i64 K]) (by simp [results, Tryz.results91, go_sem, h6, h7, g0, g1, g2, g3, g4]) rfl ⟨rfl, hC⟩
theorem hs_done {n : Nat} {w F : World} {tmps : Array Value} {a b c d e k : Int} (B : Box F n [.int .i64 a, .int .i64 b, .int .i64 c, .int .i64 d, .int .i64 e]) (hC : Ext w F) (h6 : tmps[6]? = some (.pointer (some ⟨n, 0, none⟩))) (h7 : tmps[7]? = some (.int .i64 k)) (X : Value) (hX : X = Hv a b c d e) (K : Int) (hK : K = k) :
    bodyPost Tryz.prog Tryz.f73 (fun e w' => e = .returned (.tuple #[X, .int .i64 K]) ∧ Ext w w') Exit.ret ⟨tmps, []⟩ F := by
  subst hX; subst hK
  obtain ⟨⟨g0, g1, g2, g3, g4⟩, _⟩ := B.five
  exact bodyPost_ret (v := .tuple #[Hv a b c d e, .int .i64 K]) (by simp [results, Tryz.results73, go_sem, h6, h7, g0, g1, g2, g3, g4]) rfl ⟨rfl, hC⟩
set_option maxHeartbeats 2000000 in
theorem hullAt_impl (a : Option Addr) (cap : Nat) (fs : List F3) (t l : Int) (w : World) (hf : Fxs w a fs) (hcap : fs.length ≤ cap) :
    Calls Tryz.prog 91 #[Tr (.slice a fs.length cap), .int .i64 t, .int .i64 l] w fun e w' => e = .returned (.tuple #[haH fs t l, .int .i64 (haC fs t l)]) ∧ Ext w w' := by
  have HF := Lib.hid hf
  clear hf
  obtain ⟨W0, hW0⟩ : ∃ W0, W0 = w.alloc (.cells #[.slice a fs.length cap] 30) := ⟨_, rfl⟩
  have hX : Ext w W0 := hW0 ▸ ((Ext.refl w).alloc _)
  have hs0 : W0.heap.size = w.heap.size + 1 := by rw [hW0]; simp
  have e00 : ∀ w', (Res W0 (w.heap.size + 1) 5) w' → w'.cell? ⟨w.heap.size, 0, none⟩ = some (.slice a fs.length cap) := fun w' h => h.1.cellOf (by rw [hW0]; exact boxed 0 rfl (by simp))
  have S0 := Lib.hid (Res.new5 (W := W0) (x := .int .i64 0) (y := .int .i64 0) (z := .int .i64 0) (u := .int .i64 0) (r := .int .i64 0) (t := 115))
  rw [hs0] at S0
  go_enter Tryz.func91, Tryz.ntmps91
  go_wp2_with fail
  rw [← hW0]
  have S1 := S0.out
  clear hW0 S0
  generalize W0.alloc (.cells #[.int .i64 0, .int .i64 0, .int .i64 0, .int .i64 0, .int .i64 0] 115) = V at *
  have HH := HF.out.ext (hX.trans S1.1)
  refine (trackValid_any _ _ _ _ HH).mono ?_
  rintro e w1 ⟨rfl, hy⟩
  have S2 := S1.ext hy
  clear hy HH S1
  cases hv : trB fs
  · have HC := Lib.hid (show haC fs t l = 1 by unfold haC; rw [hv]; rfl)
    obtain ⟨x0, x1, x2, x3, x4, rb⟩ := Res.five S2
    obtain ⟨⟨r0, r1, r2, r3, r4⟩, s0, s1, s2, s3, s4⟩ := rb.five
    have BR := Lib.hid (rb.set5 (a := .int .i64 0) (b := .int .i64 0) (c := .int .i64 0) (d := .int .i64 0) (e := .int .i64 0))
    have XR := Lib.hid (Res.set (Res.set (Res.set (Res.set (Res.set S2 0 (.int .i64 0)) 1 (.int .i64 0)) 2 (.int .i64 0)) 3 (.int .i64 0)) 4 (.int .i64 0)).1
    go_wp2
    exact ha_done BR.out (hX.trans XR.out) rfl rfl _ (ha_no (by rw [HC.out]; decide)) _ HC.out
  go_wp2_with fail
  refine (isHullLength_any _ _).mono ?_
  rintro e w2 ⟨rfl, rfl⟩
  cases hn : inB l 1 1000
  · have HC := Lib.hid (show haC fs t l = 2 by unfold haC; rw [hv, hn]; rfl)
    obtain ⟨x0, x1, x2, x3, x4, rb⟩ := Res.five S2
    obtain ⟨⟨r0, r1, r2, r3, r4⟩, s0, s1, s2, s3, s4⟩ := rb.five
    have BR := Lib.hid (rb.set5 (a := .int .i64 0) (b := .int .i64 0) (c := .int .i64 0) (d := .int .i64 0) (e := .int .i64 0))
    have XR := Lib.hid (Res.set (Res.set (Res.set (Res.set (Res.set S2 0 (.int .i64 0)) 1 (.int .i64 0)) 2 (.int .i64 0)) 3 (.int .i64 0)) 4 (.int .i64 0)).1
    go_wp2
    exact ha_done BR.out (hX.trans XR.out) rfl rfl _ (ha_no (by rw [HC.out]; decide)) _ HC.out
  have HC := Lib.hid (show haC fs t l = heC fs t by unfold haC; rw [hv, hn]; rfl)
  have g00 := e00 _ S2
  have HH := HF.out.ext (hX.trans S2.1)
  go_wp2_with fail
  refine (headingAt_impl _ _ _ _ _ HH hcap).mono ?_
  rintro e w2 ⟨rfl, hy⟩
  have S3 := S2.ext hy
  clear hy HH S2 g00
  by_cases hc : heC fs t = 0
  · obtain ⟨_, hl⟩ := ctI_zero (he_in hc)
    have HA := Lib.hid (ha_yes (HC.out.trans hc))
    have HC0 := Lib.hid (HC.out.trans hc)
    have PP := Lib.hid (fun (W : World) (HH : Fxs W a fs) => positionAt_any a cap fs t W HH hcap hv hl)
    have hn1 : 1 ≤ l := (of_inB hn).1
    rw [hc]
    replace HA := HA.out
    clear hc HC hn hv
    generalize heX fs t = p at *
    generalize heY fs t = q at *
    generalize pkX fs t (legOf fs t) = x at *
    generalize pkY fs t (legOf fs t) = y at *
    replace HA := Lib.hid HA
    have S4 : ResB W0 (w.heap.size + 1) 5 w2.heap.size [.int .i64 p, .int .i64 q] (w2.alloc (.cells #[.int .i64 p, .int .i64 q] 113)) :=
      ⟨S3.ext ((Ext.refl w2).alloc _), by have := World.block_lt_of_cell? w2 _ (S3.2.2 0 (by omega)).choose_spec.1; simp only at this; omega, Box.new2 rfl⟩
    have f0 : ∀ w', ResB W0 (w.heap.size + 1) 5 w2.heap.size [.int .i64 p, .int .i64 q] w' → w'.cell? ⟨w.heap.size, 0, none⟩ = some (.slice a fs.length cap) := fun w' h => e00 w' h.1
    have f1 : ∀ w', ResB W0 (w.heap.size + 1) 5 w2.heap.size [.int .i64 p, .int .i64 q] w' → w'.cell? ⟨w2.heap.size, 0, none⟩ = some (.int .i64 p) := fun w' h => h.2.2.two.1.1
    have f2 : ∀ w', ResB W0 (w.heap.size + 1) 5 w2.heap.size [.int .i64 p, .int .i64 q] w' → w'.cell? ⟨w2.heap.size, 1, none⟩ = some (.int .i64 q) := fun w' h => h.2.2.two.1.2
    have HF2 := Lib.hid (fun (w' : World) (h : ResB W0 (w.heap.size + 1) 5 w2.heap.size [.int .i64 p, .int .i64 q] w') => HF.out.ext (hX.trans h.1.1))
    go_upto_region 8 with fail
    clear S3 e00 HF
    generalize w2.alloc (.cells #[.int .i64 p, .int .i64 q] 113) = V4 at *
    refine wp_region_held_drew (S := (ResB W0 (w.heap.size + 1) 5 w2.heap.size [.int .i64 p, .int .i64 q])) (by kernel_rfl) (by (try dsimp only); first | go_keep | exact (Ext.refl _).drew | exact Res.new2.drew | exact Res.new4.drew | exact ResB.drew (by assumption) | exact ResC.drew (by assumption) | assumption | exact Ext.drew (by assumption) | exact Res.drew (by assumption)) (fun hHeld => ?_)
    refine Ord.K 0 28 ?_
    refine Ord.K 1 29 ?_
    refine Ord.K 3 31 ?_
    refine Ord.K 4 32 ?_
    (refine wpAnyH_ready (rs := [2]) (by kernel_rfl) (by simp) ?_; refine AllReadyH.cons rfl (fun K hK => ?_) AllReadyH.nil; go_simp; (go_at_call 120; refine (PP.out _ (HF2.out _ hHeld)).mono ?_; rintro e w4 ⟨rfl, hy⟩); go_wp2_with fail; (refine hK.out _ _ (by first | assumption | exact Ext.trans (by assumption) hy | exact Res.ext (by assumption) hy | exact ResB.ext (by assumption) hy | exact ResC.ext (by assumption) hy | (go_split_ands; (repeat' apply And.intro) <;> exact Ext.cellOf hy (by assumption))) (fun hHeld => ?_)); clear hK K; (try simp only [Act.put, Ord.a, Ord.b, Ord.c]))
    refine Ord.K 5 33 ?_
    (((first | refine Exists.elim (Res.five hHeld) (fun rx rh => ?_) | refine Exists.elim (Res.five hHeld.1) (fun rx rh => ?_)); refine Exists.elim rh (fun ry rh => ?_); refine Exists.elim rh (fun rz rh => ?_); refine Exists.elim rh (fun ru rh => ?_); refine Exists.elim rh (fun rt rb => ?_); have r0 := rb.five.1.1; have r1 := rb.five.1.2.1; have r2 := rb.five.1.2.2.1; have r3 := rb.five.1.2.2.2.1; have r4 := rb.five.1.2.2.2.2; have r5 := rb.five.2.1; have r6 := rb.five.2.2.1; have r7 := rb.five.2.2.2.1; have r8 := rb.five.2.2.2.2.1; have r9 := rb.five.2.2.2.2.2; clear rh; (try simp only [World.cell?_drew, World.frozen?_drew] at r0 r1 r2 r3 r4 r5 r6 r7 r8 r9)); refine wpAnyH_ready (rs := [6]) (by kernel_rfl) (by simp) ?_; refine AllReadyH.cons rfl (fun K hK => ?_) AllReadyH.nil; go_simp; (refine hK.out _ _ (by with_reducible exact ResB.set (ResB.set (ResB.set (ResB.set (ResB.set hHeld _ _) _ _) _ _) _ _) _ _) (fun hHeld => ?_)); clear hK K; (try simp only [Act.put, Ord.a, Ord.b, Ord.c]))
    refine Ord.K 7 7 ?_
    refine wpAnyH_done (by kernel_rfl) ?_ _
    go_wp2
    exact ha_done (rb.set5 (a := .int .i64 x) (b := .int .i64 y) (c := .int .i64 p) (d := .int .i64 q) (e := .int .i64 l)) (hX.trans hHeld.1.1) rfl rfl _ HA.out _ HC0.out
  · have hc2 : (heC fs t != 0) = true := by simpa using hc
    replace HC := HC.out
    generalize heC fs t = k at *
    have S4 := S3.ext ((Ext.refl w2).alloc (.cells #[.int .i64 (heX fs t), .int .i64 (heY fs t)] 113))
    generalize heX fs t = p at *
    generalize heY fs t = q at *
    go_upto_region 6 with fail
    generalize w2.alloc (.cells #[.int .i64 p, .int .i64 q] 113) = V4 at *
    obtain ⟨x0, x1, x2, x3, x4, rb⟩ := Res.five S4
    obtain ⟨⟨r0, r1, r2, r3, r4⟩, s0, s1, s2, s3, s4⟩ := rb.five
    have BR := Lib.hid (rb.set5 (a := .int .i64 0) (b := .int .i64 0) (c := .int .i64 0) (d := .int .i64 0) (e := .int .i64 0))
    have XR := Lib.hid (Res.set (Res.set (Res.set (Res.set (Res.set S4 0 (.int .i64 0)) 1 (.int .i64 0)) 2 (.int .i64 0)) 3 (.int .i64 0)) 4 (.int .i64 0)).1
    go_wp2
    exact ha_done BR.out (hX.trans XR.out) rfl rfl _ (ha_no (by rw [HC]; exact hc)) _ HC
set_option maxHeartbeats 2000000 in
theorem hullAt_spec (a : Option Addr) (cap : Nat) (fs : List F3) (t l : Int) (w : World) (hf : Fxs w a fs) (hcap : fs.length ≤ cap) :
    Calls Tryz.prog 73 #[Tr (.slice a fs.length cap), .int .i64 t, .int .i64 l] w fun e w' => e = .returned (.tuple #[haH fs t l, .int .i64 (haC fs t l)]) ∧ Ext w w' := by
  have HF := Lib.hid hf
  clear hf
  obtain ⟨W0, hW0⟩ : ∃ W0, W0 = w.alloc (.cells #[.slice a fs.length cap] 30) := ⟨_, rfl⟩
  have hX : Ext w W0 := hW0 ▸ ((Ext.refl w).alloc _)
  have hs0 : W0.heap.size = w.heap.size + 1 := by rw [hW0]; simp
  have e00 : ∀ w', (Res W0 (w.heap.size + 1) 5) w' → w'.cell? ⟨w.heap.size, 0, none⟩ = some (.slice a fs.length cap) := fun w' h => h.1.cellOf (by rw [hW0]; exact boxed 0 rfl (by simp))
  have S0 := Lib.hid (Res.new5 (W := W0) (x := .int .i64 0) (y := .int .i64 0) (z := .int .i64 0) (u := .int .i64 0) (r := .int .i64 0) (t := 115))
  rw [hs0] at S0
  go_enter Tryz.func73, Tryz.ntmps73
  go_wp2_with fail
  rw [← hW0]
  have S1 := S0.out
  clear hW0 S0
  generalize W0.alloc (.cells #[.int .i64 0, .int .i64 0, .int .i64 0, .int .i64 0, .int .i64 0] 115) = V at *
  have HH := HF.out.ext (hX.trans S1.1)
  refine (isTrack_spec _ _ _ _ HH).mono ?_
  rintro e w1 ⟨rfl, hy⟩
  have S2 := S1.ext hy
  clear hy HH S1
  cases hv : trB fs
  · have HC := Lib.hid (show haC fs t l = 1 by unfold haC; rw [hv]; rfl)
    obtain ⟨x0, x1, x2, x3, x4, rb⟩ := Res.five S2
    obtain ⟨⟨r0, r1, r2, r3, r4⟩, s0, s1, s2, s3, s4⟩ := rb.five
    have BR := Lib.hid (rb.set5 (a := .int .i64 0) (b := .int .i64 0) (c := .int .i64 0) (d := .int .i64 0) (e := .int .i64 0))
    have XR := Lib.hid (Res.set (Res.set (Res.set (Res.set (Res.set S2 0 (.int .i64 0)) 1 (.int .i64 0)) 2 (.int .i64 0)) 3 (.int .i64 0)) 4 (.int .i64 0)).1
    go_wp2
    exact hs_done BR.out (hX.trans XR.out) rfl rfl _ (ha_no (by rw [HC.out]; decide)) _ HC.out
  go_wp2_with fail
  refine (in_any _ _ _ _).mono ?_
  rintro e w2 ⟨rfl, rfl⟩
  cases hn : inB l 1 1000
  · have HC := Lib.hid (show haC fs t l = 2 by unfold haC; rw [hv, hn]; rfl)
    obtain ⟨x0, x1, x2, x3, x4, rb⟩ := Res.five S2
    obtain ⟨⟨r0, r1, r2, r3, r4⟩, s0, s1, s2, s3, s4⟩ := rb.five
    have BR := Lib.hid (rb.set5 (a := .int .i64 0) (b := .int .i64 0) (c := .int .i64 0) (d := .int .i64 0) (e := .int .i64 0))
    have XR := Lib.hid (Res.set (Res.set (Res.set (Res.set (Res.set S2 0 (.int .i64 0)) 1 (.int .i64 0)) 2 (.int .i64 0)) 3 (.int .i64 0)) 4 (.int .i64 0)).1
    go_wp2
    exact hs_done BR.out (hX.trans XR.out) rfl rfl _ (ha_no (by rw [HC.out]; decide)) _ HC.out
  have HC := Lib.hid (show haC fs t l = heC fs t by unfold haC; rw [hv, hn]; rfl)
  have g00 := e00 _ S2
  have HH := HF.out.ext (hX.trans S2.1)
  go_wp2_with fail
  refine (headingAt_spec _ _ _ _ _ HH).mono ?_
  rintro e w2 ⟨rfl, hy⟩
  have S3 := S2.ext hy
  clear hy HH S2 g00
  by_cases hc : heC fs t = 0
  · obtain ⟨_, hl⟩ := ctI_zero (he_in hc)
    have HA := Lib.hid (ha_yes (HC.out.trans hc))
    have HC0 := Lib.hid (HC.out.trans hc)
    have PP := Lib.hid (fun (W : World) (HH : Fxs W a fs) => at_spec a cap fs t W HH hv hl)
    have hn1 : 1 ≤ l := (of_inB hn).1
    rw [hc]
    replace HA := HA.out
    clear hc HC hn hv
    generalize heX fs t = p at *
    generalize heY fs t = q at *
    generalize pkX fs t (legOf fs t) = x at *
    generalize pkY fs t (legOf fs t) = y at *
    replace HA := Lib.hid HA
    have S4 : ResB W0 (w.heap.size + 1) 5 w2.heap.size [.int .i64 p, .int .i64 q] (w2.alloc (.cells #[.int .i64 p, .int .i64 q] 113)) :=
      ⟨S3.ext ((Ext.refl w2).alloc _), by have := World.block_lt_of_cell? w2 _ (S3.2.2 0 (by omega)).choose_spec.1; simp only at this; omega, Box.new2 rfl⟩
    have f0 : ∀ w', ResB W0 (w.heap.size + 1) 5 w2.heap.size [.int .i64 p, .int .i64 q] w' → w'.cell? ⟨w.heap.size, 0, none⟩ = some (.slice a fs.length cap) := fun w' h => e00 w' h.1
    have f1 : ∀ w', ResB W0 (w.heap.size + 1) 5 w2.heap.size [.int .i64 p, .int .i64 q] w' → w'.cell? ⟨w2.heap.size, 0, none⟩ = some (.int .i64 p) := fun w' h => h.2.2.two.1.1
    have f2 : ∀ w', ResB W0 (w.heap.size + 1) 5 w2.heap.size [.int .i64 p, .int .i64 q] w' → w'.cell? ⟨w2.heap.size, 1, none⟩ = some (.int .i64 q) := fun w' h => h.2.2.two.1.2
    have HF2 := Lib.hid (fun (w' : World) (h : ResB W0 (w.heap.size + 1) 5 w2.heap.size [.int .i64 p, .int .i64 q] w') => HF.out.ext (hX.trans h.1.1))
    go_upto_region 8 with fail
    clear S3 e00 HF
    generalize w2.alloc (.cells #[.int .i64 p, .int .i64 q] 113) = V4 at *
    refine wp_region_held_drew (S := (ResB W0 (w.heap.size + 1) 5 w2.heap.size [.int .i64 p, .int .i64 q])) (by kernel_rfl) (by (try dsimp only); first | go_keep | exact (Ext.refl _).drew | exact Res.new2.drew | exact Res.new4.drew | exact ResB.drew (by assumption) | exact ResC.drew (by assumption) | assumption | exact Ext.drew (by assumption) | exact Res.drew (by assumption)) (fun hHeld => ?_)
    refine Ord.K 0 28 ?_
    refine Ord.K 1 29 ?_
    refine Ord.K 3 31 ?_
    refine Ord.K 4 32 ?_
    (refine wpAnyH_ready (rs := [2]) (by kernel_rfl) (by simp) ?_; refine AllReadyH.cons rfl (fun K hK => ?_) AllReadyH.nil; go_simp; (go_at_call 94; refine (PP.out _ (HF2.out _ hHeld)).mono ?_; rintro e w4 ⟨rfl, hy⟩); go_wp2_with fail; (refine hK.out _ _ (by first | assumption | exact Ext.trans (by assumption) hy | exact Res.ext (by assumption) hy | exact ResB.ext (by assumption) hy | exact ResC.ext (by assumption) hy | (go_split_ands; (repeat' apply And.intro) <;> exact Ext.cellOf hy (by assumption))) (fun hHeld => ?_)); clear hK K; (try simp only [Act.put, Ord.a, Ord.b, Ord.c]))
    refine Ord.K 5 33 ?_
    (((first | refine Exists.elim (Res.five hHeld) (fun rx rh => ?_) | refine Exists.elim (Res.five hHeld.1) (fun rx rh => ?_)); refine Exists.elim rh (fun ry rh => ?_); refine Exists.elim rh (fun rz rh => ?_); refine Exists.elim rh (fun ru rh => ?_); refine Exists.elim rh (fun rt rb => ?_); have r0 := rb.five.1.1; have r1 := rb.five.1.2.1; have r2 := rb.five.1.2.2.1; have r3 := rb.five.1.2.2.2.1; have r4 := rb.five.1.2.2.2.2; have r5 := rb.five.2.1; have r6 := rb.five.2.2.1; have r7 := rb.five.2.2.2.1; have r8 := rb.five.2.2.2.2.1; have r9 := rb.five.2.2.2.2.2; clear rh; (try simp only [World.cell?_drew, World.frozen?_drew] at r0 r1 r2 r3 r4 r5 r6 r7 r8 r9)); refine wpAnyH_ready (rs := [6]) (by kernel_rfl) (by simp) ?_; refine AllReadyH.cons rfl (fun K hK => ?_) AllReadyH.nil; go_simp; (refine hK.out _ _ (by with_reducible exact ResB.set (ResB.set (ResB.set (ResB.set (ResB.set hHeld _ _) _ _) _ _) _ _) _ _) (fun hHeld => ?_)); clear hK K; (try simp only [Act.put, Ord.a, Ord.b, Ord.c]))
    refine Ord.K 7 7 ?_
    refine wpAnyH_done (by kernel_rfl) ?_ _
    go_wp2
    exact hs_done (rb.set5 (a := .int .i64 x) (b := .int .i64 y) (c := .int .i64 p) (d := .int .i64 q) (e := .int .i64 l)) (hX.trans hHeld.1.1) rfl rfl _ HA.out _ HC0.out
  · have hc2 : (heC fs t != 0) = true := by simpa using hc
    replace HC := HC.out
    generalize heC fs t = k at *
    have S4 := S3.ext ((Ext.refl w2).alloc (.cells #[.int .i64 (heX fs t), .int .i64 (heY fs t)] 113))
    generalize heX fs t = p at *
    generalize heY fs t = q at *
    go_upto_region 6 with fail
    generalize w2.alloc (.cells #[.int .i64 p, .int .i64 q] 113) = V4 at *
    obtain ⟨x0, x1, x2, x3, x4, rb⟩ := Res.five S4
    obtain ⟨⟨r0, r1, r2, r3, r4⟩, s0, s1, s2, s3, s4⟩ := rb.five
    have BR := Lib.hid (rb.set5 (a := .int .i64 0) (b := .int .i64 0) (c := .int .i64 0) (d := .int .i64 0) (e := .int .i64 0))
    have XR := Lib.hid (Res.set (Res.set (Res.set (Res.set (Res.set S4 0 (.int .i64 0)) 1 (.int .i64 0)) 2 (.int .i64 0)) 3 (.int .i64 0)) 4 (.int .i64 0)).1
    go_wp2
    exact hs_done BR.out (hX.trans XR.out) rfl rfl _ (ha_no (by rw [HC]; exact hc)) _ HC
end Go.Proofs.YtknelhceaoblhaaGreat.Hul
