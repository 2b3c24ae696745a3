import Derived.Test.YtmlojndkpnhalaaGreatMan2
import Derived.Test.YtmlojndkpnhalaaGreatMan3
import Derived.Test.YtmlojndkpnhalaaGreatMTrk
import Derived.Laws.EntriesVeiled
namespace Go.Proofs.YtmlojndkpnhalaaGreat.Wnd
open Go.ChangeShapes Go.WideShapes Go.ChangeAt Go.RowKit
open Go.Proofs.YtmlojndkpnhalaaGreat.Num Go.Proofs.YtmlojndkpnhalaaGreat.Kit Go.Proofs.YtmlojndkpnhalaaGreat.Pts Go.Proofs.YtmlojndkpnhalaaGreat.Seg Go.Proofs.YtmlojndkpnhalaaGreat.Gcd Go.Proofs.YtmlojndkpnhalaaGreat.Rt Go.Proofs.YtmlojndkpnhalaaGreat.Root
open Go.Proofs.YtmlojndkpnhalaaGreat.Mnv (M2 Mxs OwnM)
open Go.Proofs.YtmlojndkpnhalaaGreat.Trk (F3 Fxs Tr trB fx trB_yes trackValid_any isTrack_spec)
set_option linter.unusedVariables false
set_option linter.unusedSimpArgs false
set_option maxRecDepth 100000 in
set_option maxHeartbeats 2000000 in
theorem manoeuvresOf_impl (x y : Int) (a : Option Addr) (cap : Nat) (fs : List F3) (w : World) (hf : Fxs w a fs) :
    Calls Tryz.prog 158 #[Pt x y, Tr (.slice a fs.length cap)] w fun e w' => ∃ v, e = .returned (.tuple #[v, .int .i64 (moC x y fs)]) ∧ OwnM w' w.heap.size v (moL x y fs) ∧ Ext w w' := by
  have HF := Lib.hid hf
  clear hf
  obtain ⟨W0, hW0⟩ : ∃ W0, W0 = (w.alloc (.cells #[.int .i64 x, .int .i64 y] 54)).alloc (.cells #[.slice a fs.length cap] 33) := ⟨_, rfl⟩
  have hX : Ext w W0 := hW0 ▸ (((Ext.refl w).alloc _).alloc _)
  have hs0 : W0.heap.size = w.heap.size + 1 + 1 := by rw [hW0]; simp
  have e00 : ∀ w', (Ext W0) w' → w'.cell? ⟨w.heap.size, 0, none⟩ = some (.int .i64 x) := fun w' h => h.cellOf (by rw [hW0]; exact ((Ext.refl _).alloc _).cellOf (boxed 0 rfl (by simp)))
  have e01 : ∀ w', (Ext W0) w' → w'.cell? ⟨w.heap.size, 1, none⟩ = some (.int .i64 y) := fun w' h => h.cellOf (by rw [hW0]; exact ((Ext.refl _).alloc _).cellOf (boxed 1 rfl (by simp)))
  have e10 : ∀ w', (Ext W0) w' → w'.cell? ⟨w.heap.size + 1, 0, none⟩ = some (.slice a fs.length cap) := fun w' h => h.cellOf (by rw [hW0]; exact boxed 0 rfl (by simp))
  have q00 := e00 W0 (Ext.refl W0)
  have q01 := e01 W0 (Ext.refl W0)
  go_enter Tryz.func158, Tryz.ntmps158
  go_wp2_with fail
  refine (windValid_any _ _ _).mono ?_
  rintro e w1 ⟨rfl, hz⟩
  rw [← hW0] at hz
  clear hW0 q00 q01
  replace hz : Ext W0 w1 := hz
  cases h1 : wdB x y
  · have HE := Lib.hid (mo_no1 (fs := fs) h1)
    go_wp2
    rw [HE.out.1, HE.out.2]
    go_ret2
    exact ⟨_, rfl, OwnM.nil _ _, hX.trans hz⟩
  have g10 := e10 w1 hz
  go_wp2_with fail
  refine (trackValid_any _ _ _ _ (HF.out.ext (hX.trans hz))).mono ?_
  rintro e w2 ⟨rfl, hy⟩
  replace hz := hz.trans hy
  clear hy g10
  cases h2 : trB fs
  · have HE := Lib.hid (mo_no2 (x := x) (y := y) h2)
    go_wp2
    rw [HE.out.1, HE.out.2]
    go_ret2
    exact ⟨_, rfl, OwnM.nil _ _, hX.trans hz⟩
  have HE := Lib.hid (mo_yes h1 h2)
  obtain ⟨⟨l2, l40⟩, _⟩ := trB_yes h2
  obtain ⟨W3, hW3⟩ : ∃ W3, W3 = w2.alloc (.cells #[.slice none 0 0] 231) := ⟨_, rfl⟩
  have hx3 : Ext w2 W3 := hW3 ▸ (Ext.refl w2).alloc _
  have B3 : Box W3 w2.heap.size [.slice none 0 0] := hW3 ▸ Box.new (vs := [.slice none 0 0]) rfl
  have F3' := HF.out.ext (hX.trans (hz.trans hx3))
  have hq : ∀ ad, a = some ad → ad.block ≠ w2.heap.size := by
    intro ad e
    rcases (HF.out.ext (hX.trans hz)).2 with h | ⟨b, off, ha, hc⟩
    · rw [h] at l2; simp at l2
    · have hb := World.block_lt_of_cell? w2 _ (hc 0 (by omega)).1
      rw [ha] at e; cases e
      simp at hb ⊢; omega
  have HA := Lib.hid (addManoeuvres_any x y w2.heap.size a cap fs W3 F3' h2 h1 hq B3)
  have hS := Ext.size hX
  have hS2 := Ext.size hz
  have g10 := e10 W3 (hz.trans hx3)
  have g00 := e00 W3 (hz.trans hx3)
  have g01 := e01 W3 (hz.trans hx3)
  clear B3 F3' hq l2 l40
  go_upto_region 4 with fail
  rw [← hW3]
  clear hW3
  go_wp2_with fail
  refine HA.out.mono ?_
  rintro e w4 ⟨rfl, v, hb, hO, hc⟩
  obtain ⟨r0, _⟩ := hb 0 _ rfl
  have HO := Lib.hid (hO.mono (show w.heap.size ≤ W3.heap.size by have := Ext.size hx3; omega))
  have XF := Lib.hid (hc.ext (hX.trans (hz.trans hx3)) (by omega))
  clear hb hO hc g10 g00 g01 HA
  go_wp2
  rw [HE.out.1, HE.out.2]
  go_ret2
  exact ⟨_, rfl, HO.out, XF.out⟩
end Go.Proofs.YtmlojndkpnhalaaGreat.Wnd
namespace Go.Proofs.YtmlojndkpnhalaaGreat.Trn
open Go.ChangeShapes Go.WideShapes Go.ChangeAt Go.RowKit
open Go.Proofs.YtmlojndkpnhalaaGreat.Num Go.Proofs.YtmlojndkpnhalaaGreat.Kit Go.Proofs.YtmlojndkpnhalaaGreat.Pts Go.Proofs.YtmlojndkpnhalaaGreat.Seg Go.Proofs.YtmlojndkpnhalaaGreat.Gcd Go.Proofs.YtmlojndkpnhalaaGreat.Wnd
open Go.Proofs.YtmlojndkpnhalaaGreat.Mnv (M2 Mxs OwnM px PAt RelE)
open Go.Proofs.YtmlojndkpnhalaaGreat.Trk (F3 Fxs Tr trB fx trB_yes trackValid_any isTrack_spec lastsAt_any lasts_spec lastB leg_bounds)
set_option linter.unusedVariables false
set_option linter.unusedSimpArgs false
def nrB (fs : List F3) (t s : Int) (p : M2) : Bool := decide (ab ((fx fs p.x.toNat).t - t) ≤ s)
def tnB (fs : List F3) (t s : Int) (ps : List M2) : Bool := (List.range ps.length).any fun i => nrB fs t s (px ps i)
theorem tn_yes {fs : List F3} {t s : Int} {ps : List M2} {j : Nat} (hj : j < ps.length) (h : nrB fs t s (px ps j) = true) : tnB fs t s ps = true := List.any_eq_true.2 ⟨j, by simpa using hj, h⟩
theorem tn_no {fs : List F3} {t s : Int} {ps : List M2} (h : ∀ j, j < ps.length → nrB fs t s (px ps j) = false) : tnB fs t s ps = false :=
  List.any_eq_false.2 fun j hj => by rw [h j (by simpa using hj)]; decide
def tuC (x y : Int) (fs : List F3) (t s : Int) : Int := if moC x y fs = 0 then (if lastB fs t = true then (if inB s 0 60000 = true then 0 else 2) else 2) else 1
def tuB (x y : Int) (fs : List F3) (t s : Int) : Bool := if tuC x y fs t s = 0 then tnB fs t s (mnL x y fs (fs.length - 2)) else false
theorem tu_bad {x y : Int} {fs : List F3} {t s : Int} (h : moC x y fs ≠ 0) : tuC x y fs t s = 1 ∧ tuB x y fs t s = false := by
  have e : tuC x y fs t s = 1 := if_neg h
  exact ⟨e, by unfold tuB; rw [e]; rfl⟩
theorem tu_out {x y : Int} {fs : List F3} {t s : Int} (h : moC x y fs = 0) (g : lastB fs t = false) : tuC x y fs t s = 2 ∧ tuB x y fs t s = false := by
  have e : tuC x y fs t s = 2 := by unfold tuC; rw [if_pos h, g]; rfl
  exact ⟨e, by unfold tuB; rw [e]; rfl⟩
theorem tu_span {x y : Int} {fs : List F3} {t s : Int} (h : moC x y fs = 0) (g : lastB fs t = true) (f : inB s 0 60000 = false) : tuC x y fs t s = 2 ∧ tuB x y fs t s = false := by
  have e : tuC x y fs t s = 2 := by unfold tuC; rw [if_pos h, g, f]; rfl
  exact ⟨e, by unfold tuB; rw [e]; rfl⟩
theorem tu_yes {x y : Int} {fs : List F3} {t s : Int} (h : moC x y fs = 0) (g : lastB fs t = true) (f : inB s 0 60000 = true) : tuC x y fs t s = 0 ∧ tuB x y fs t s = tnB fs t s (mnL x y fs (fs.length - 2)) := by
  have e : tuC x y fs t s = 0 := by unfold tuC; rw [if_pos h, g, f]; rfl
  exact ⟨e, by unfold tuB; rw [if_pos e]⟩
theorem mo_ok {x y : Int} {fs : List F3} (h : moC x y fs = 0) : wdB x y = true ∧ trB fs = true := by
  by_cases g : wdB x y = true ∧ trB fs = true
  · exact g
  · unfold moC at h; rw [if_neg g] at h; cases h
theorem px_snocM (ps : List M2) (f : M2) (i : Nat) : px (ps ++ [f]) i = if i < ps.length then px ps i else if i = ps.length then f else ⟨0, 0⟩ := by
  unfold px
  rw [List.getD_eq_getElem?_getD, List.getD_eq_getElem?_getD, List.getElem?_append]
  by_cases h : i < ps.length
  · rw [if_pos h, if_pos h]
  · rw [if_neg h, if_neg h]
    by_cases h2 : i = ps.length
    · subst h2; simp
    · rw [if_neg h2, List.getElem?_eq_none (by simp; omega)]; rfl
theorem mn_fix (x y : Int) (fs : List F3) : ∀ n i, i < (mnL x y fs n).length → ∃ k : Nat, (px (mnL x y fs n) i).x = k ∧ 1 ≤ k ∧ k ≤ n
  | 0, i, h => absurd h (by simp [mnL])
  | n + 1, i, h => by
    unfold mnL at h ⊢
    split
    · rename_i hop
      rw [if_pos hop] at h
      rw [px_snocM]
      by_cases g : i < (mnL x y fs n).length
      · rw [if_pos g]
        obtain ⟨k, a, b, c⟩ := mn_fix x y fs n i g
        exact ⟨k, a, b, by omega⟩
      · rw [if_neg g, if_pos (by simp at h; omega)]
        exact ⟨n + 1, by simp, by omega, by omega⟩
    · rename_i hop
      rw [if_neg hop] at h
      obtain ⟨k, a, b, c⟩ := mn_fix x y fs n i h
      exact ⟨k, a, b, by omega⟩
theorem fx_time {fs : List F3} (hv : trB fs = true) {k : Nat} (hk : k < fs.length) : 0 ≤ (fx fs k).t ∧ (fx fs k).t ≤ 1000000000 := by
  have h := (trB_yes hv).2 k hk
  unfold Trk.okB Trk.fxB at h
  simp only [Bool.and_eq_true] at h
  exact of_inB h.1.1
theorem last_bd {fs : List F3} {t : Int} (hv : trB fs = true) (hl : lastB fs t = true) : 0 ≤ t ∧ t ≤ 1000000000 := by
  obtain ⟨⟨h2, _⟩, _⟩ := trB_yes hv
  have a := fx_time hv (k := 0) (by omega)
  have b := fx_time hv (k := fs.length - 1) (by omega)
  have := of_inB hl
  omega
theorem isSpan_any (n : Int) (w : World) : Calls Tryz.prog 160 #[.int .i64 n] w fun e w' => e = .returned (.bool (inB n 0 60000)) ∧ w = w' := by
  by_cases h1 : 0 ≤ n
  · by_cases h2 : n ≤ 60000
    · have H := Lib.hid (inB_yes h1 h2)
      go_enter Tryz.func160, Tryz.ntmps160
      go_wp2
      go_ret
      exact ⟨ret_bool H.out, rfl⟩
    · have H := Lib.hid (inB_no (n := n) (lo := 0) (hi := 60000) (fun h => h2 h.2))
      go_enter Tryz.func160, Tryz.ntmps160
      go_wp2
      go_ret
      exact ⟨ret_bool H.out, rfl⟩
  · have H := Lib.hid (inB_no (n := n) (lo := 0) (hi := 60000) (fun h => h1 h.1))
    go_enter Tryz.func160, Tryz.ntmps160
    go_wp2
    go_ret
    exact ⟨ret_bool H.out, rfl⟩
structure Cap (w : World) (kt kn ks : Nat) (a : Option Addr) (cap : Nat) (fs : List F3) (t s : Int) : Prop where
  tr : w.cell? ⟨kt, 0, none⟩ = some (.slice a fs.length cap)
  tm : w.cell? ⟨kn, 0, none⟩ = some (.int .i64 t)
  sp : w.cell? ⟨ks, 0, none⟩ = some (.int .i64 s)
  fx : Fxs w a fs
theorem Cap.ext {w w' : World} {kt kn ks : Nat} {a : Option Addr} {cap : Nat} {fs : List F3} {t s : Int} (h : Cap w kt kn ks a cap fs t s) (k : Ext w w') : Cap w' kt kn ks a cap fs t s := ⟨k.cellOf h.tr, k.cellOf h.tm, k.cellOf h.sp, h.fx.ext k⟩
set_option maxHeartbeats 1000000 in
theorem near_any (kt kn ks : Nat) (a : Option Addr) (cap : Nat) (fs : List F3) (t s : Int) (k : Nat) (z : Int) (w : World) (hC : Cap w kt kn ks a cap fs t s) (hk : k < fs.length) (hv : trB fs = true) (ht : 0 ≤ t ∧ t ≤ 1000000000) :
    Calls Tryz.prog 161 #[Pt k z, PtrW kt, PtrW kn, PtrW ks] w fun e w' => e = .returned (.bool (nrB fs t s ⟨k, z⟩)) ∧ Ext w w' := by
  have hb := fx_time hv hk
  have HN := Lib.hid (show nrB fs t s ⟨k, z⟩ = decide (ab ((fx fs k).t - t) ≤ s) by unfold nrB; simp)
  obtain ⟨bb, off, rfl, hc⟩ : ∃ bb off, a = some ⟨bb, off, none⟩ ∧ ∀ i, i < fs.length → w.cell? ⟨bb, off + i * 3, none⟩ = some (.int .i64 (fx fs i).t) := by
    rcases hC.fx.2 with h | ⟨bb, off, h, h2⟩
    · rw [h] at hk; simp at hk
    · exact ⟨bb, off, h, fun i hi => (h2 i hi).1⟩
  have c0 := hc k hk
  have i0 : (0 : Int) ≤ (k : Int) := by omega
  have i1 : (k : Int) < (fs.length : Int) := by omega
  generalize (fx fs k).t = u at *
  have T0 : IntKind.i64.wrap (u - t) = u - t := IntWalk.i64_in _ (by omega)
  have PA := Lib.hid (fun w => absolute_any (u - t) w (by omega) (by omega))
  generalize ab (u - t) = v at *
  obtain ⟨W0, hW0⟩ : ∃ W0, W0 = w.alloc (.cells #[.int .i64 k, .int .i64 z] 235) := ⟨_, rfl⟩
  have hX : Ext w W0 := hW0 ▸ ((Ext.refl w).alloc _)
  have hs0 : W0.heap.size = w.heap.size + 1 := by rw [hW0]; simp
  have e00 : ∀ w', (Ext W0) w' → w'.cell? ⟨w.heap.size, 0, none⟩ = some (.int .i64 k) := fun w' h => h.cellOf (by rw [hW0]; exact boxed 0 rfl (by simp))
  have e01 : ∀ w', (Ext W0) w' → w'.cell? ⟨w.heap.size, 1, none⟩ = some (.int .i64 z) := fun w' h => h.cellOf (by rw [hW0]; exact boxed 1 rfl (by simp))
  have f0 : ∀ w', Ext W0 w' → w'.cell? ⟨kt, 0, none⟩ = some (.slice (some ⟨bb, off, none⟩) fs.length cap) := fun w' h => (hX.trans h).cellOf hC.tr
  have f1 : ∀ w', Ext W0 w' → w'.cell? ⟨kn, 0, none⟩ = some (.int .i64 t) := fun w' h => (hX.trans h).cellOf hC.tm
  have f2 : ∀ w', Ext W0 w' → w'.cell? ⟨ks, 0, none⟩ = some (.int .i64 s) := fun w' h => (hX.trans h).cellOf hC.sp
  have f3 : ∀ w', Ext W0 w' → w'.cell? ⟨bb, off + k * 3, none⟩ = some (.int .i64 u) := fun w' h => (hX.trans h).cellOf c0
  clear hc c0 hC hb hv ht
  have hr := Ext.refl W0
  go_enter Tryz.func161, Tryz.ntmps161
  go_wp2_with fail
  rw [← hW0]
  clear hW0
  refine wp_region_held_drew (S := (fun w' => Ext W0 w')) (by kernel_rfl) (by (try dsimp only); first | go_keep | exact (Ext.refl _).drew | exact Res.new2.drew | exact Res.new4.drew | exact ResB.drew (by assumption) | exact ResC.drew (by assumption) | assumption | exact Ext.drew (by assumption) | exact Res.drew (by assumption)) (fun hHeld => ?_)
  refine Ord.K 0 6 ?_
  refine Ord.K 1 7 ?_
  refine Ord.K 2 8 ?_
  refine Ord.K 3 9 ?_
  refine Ord.K 4 10 ?_
  refine Ord.K 5 11 ?_
  refine Ord.K 6 12 ?_
  refine Ord.K 7 13 ?_
  refine Ord.K 8 14 ?_
  refine Ord.K 10 16 ?_
  (refine wpAnyH_ready (rs := [9]) (by kernel_rfl) (by simp) ?_; refine AllReadyH.cons rfl (fun K hK => ?_) AllReadyH.nil; go_simp; (go_at_call 162; refine (PA.out _).mono ?_; rintro e w1 ⟨rfl, rfl⟩); go_wp2_with fail; (refine hK.out _ _ (by first | assumption | exact Ext.trans (by assumption) hy | exact Res.ext (by assumption) hy | exact ResB.ext (by assumption) hy | exact ResC.ext (by assumption) hy | (go_split_ands; (repeat' apply And.intro) <;> exact Ext.cellOf hy (by assumption))) (fun hHeld => ?_)); clear hK K; (try simp only [Act.put, Ord.a, Ord.b, Ord.c]))
  refine Ord.K 11 17 ?_
  refine Ord.K 12 5 ?_
  refine wpAnyH_done (by kernel_rfl) ?_ _
  go_wp2
  go_ret
  exact ⟨ret_bool HN.out, hX.trans (by assumption)⟩
abbrev NrF (kt kn ks : Nat) : Value := .func (.func 161) #[] #[PtrW kt, PtrW kn, PtrW ks]
def RelIn (w : World) (fs : List F3) (t s : Int) (ps : List M2) (i : Value) (wr : World) : Prop := ∃ k : Nat, i = .int .i64 k ∧ k ≤ ps.length ∧ (∀ j, j < k → nrB fs t s (px ps j) = false) ∧ Ext w wr
set_option maxHeartbeats 1000000 in
theorem indexMn_any (kt kn ks : Nat) (a : Option Addr) (cap : Nat) (fs : List F3) (t s : Int) (g : Option Addr) (gc : Nat) (ps : List M2) (w : World) (hC : Cap w kt kn ks a cap fs t s) (hp : Mxs w g ps) (hk : ∀ i, i < ps.length → ∃ k : Nat, (px ps i).x = k ∧ k < fs.length) (hv : trB fs = true) (ht : 0 ≤ t ∧ t ≤ 1000000000) :
    Calls Tryz.prog 221 #[.slice g ps.length gc, NrF kt kn ks] w fun e w' => ∃ r : Int, e = .returned (.int .i64 r) ∧ ((tnB fs t s ps = false ∧ r = -1) ∨ (tnB fs t s ps = true ∧ 0 ≤ r)) ∧ Ext w w' := by
  have hm := hp.1
  unfold maxLen at hm
  have HP := Lib.hid hp
  have HC := Lib.hid hC
  have HK := Lib.hid hk
  clear hp hC hk
  go_enter Tryz.func221, Tryz.ntmps221
  go_wp2
  go_loopw [8] (fun i wr => RelIn w fs t s ps i wr) (fun i _ => ps.length - (intOf i).toNat)
  case atStart => exact ⟨0, rfl, Nat.zero_le _, fun j hj => absurd hj (by omega), Ext.refl _⟩
  case round =>
    obtain ⟨j, rfl, hj, hd, hx⟩ := hrel
    have HD := Lib.hid hd
    have HX := Lib.hid hx
    clear hd hx
    by_cases hj1 : j < ps.length
    · obtain ⟨b, off, rfl, hb⟩ := HP.out.row (by omega)
      obtain ⟨c0, c1⟩ := (hb j hj1).ext HX.out
      obtain ⟨k, ek, hk⟩ := HK.out j hj1
      have i0 : (0 : Int) ≤ (j : Int) := by omega
      have i1 : (j : Int) < (ps.length : Int) := by omega
      have T7 : IntKind.i64.wrap ((j : Int) + 1) = (j : Int) + 1 := IntWalk.i64_in _ (by omega)
      have hc := near_any kt kn ks a cap fs t s k (px ps j).y wr (HC.out.ext HX.out) hk hv ht
      rw [ek] at c0
      have HE := Lib.hid (show nrB fs t s ⟨k, (px ps j).y⟩ = nrB fs t s (px ps j) by rw [← ek])
      clear hb ek
      generalize (px ps j).y = z at *
      cases h : nrB fs t s ⟨k, z⟩
      · have H := Lib.hid (HE.out.symm.trans h)
        rw [h] at hc
        clear h
        go_wp2_with (go_at_call 161; refine hc.mono ?_; rintro e w1 ⟨rfl, hy⟩)
        have HY := Lib.hid (HX.out.trans hy)
        clear hy
        go_roundw
        case rel => exact ⟨j + 1, by go_num, by omega, fun x hx => by rcases Nat.lt_or_ge x j with g | g; exact HD.out x g; exact (show x = j by omega) ▸ H.out, HY.out⟩
        case measure => simp [intOf]; omega
      · have H := Lib.hid (tn_yes hj1 (HE.out.symm.trans h))
        rw [h] at hc
        clear h
        go_wp2_with (go_at_call 161; refine hc.mono ?_; rintro e w1 ⟨rfl, hy⟩)
        go_ret
        exact ⟨_, rfl, .inr ⟨H.out, by omega⟩, HX.out.trans hy⟩
    · obtain rfl : j = ps.length := by omega
      have H := Lib.hid (tn_no HD.out)
      go_wp2
      go_ret
      exact ⟨_, rfl, .inl ⟨H.out, rfl⟩, HX.out⟩
theorem containsMn_any (kt kn ks : Nat) (a : Option Addr) (cap : Nat) (fs : List F3) (t s : Int) (g : Option Addr) (gc : Nat) (ps : List M2) (w : World) (hC : Cap w kt kn ks a cap fs t s) (hp : Mxs w g ps) (hk : ∀ i, i < ps.length → ∃ k : Nat, (px ps i).x = k ∧ k < fs.length) (hv : trB fs = true) (ht : 0 ≤ t ∧ t ≤ 1000000000) :
    Calls Tryz.prog 163 #[.slice g ps.length gc, NrF kt kn ks] w fun e w' => e = .returned (.bool (tnB fs t s ps)) ∧ Ext w w' := by
  have KI := Lib.hid (indexMn_any kt kn ks a cap fs t s g gc ps w hC hp hk hv ht)
  clear hC hp hk
  obtain ⟨B, hB⟩ : ∃ B, B = tnB fs t s ps := ⟨_, rfl⟩
  rw [← hB] at KI ⊢
  clear hB
  cases B
  · go_enter Tryz.func163, Tryz.ntmps163
    go_wp2_with fail
    refine KI.out.mono ?_
    rintro e w1 ⟨r, rfl, hr, hx⟩
    obtain rfl : r = -1 := by rcases hr with ⟨_, h⟩ | ⟨h, _⟩; exact h; cases h
    clear hr
    go_wp2
    go_ret
    exact ⟨rfl, hx⟩
  · go_enter Tryz.func163, Tryz.ntmps163
    go_wp2_with fail
    refine KI.out.mono ?_
    rintro e w1 ⟨r, rfl, hr, hx⟩
    have hr2 : 0 ≤ r := by rcases hr with ⟨h, _⟩ | ⟨_, h⟩; cases h; exact h
    have q : decide (r ≥ 0) = true := decide_eq_true (by omega)
    clear hr
    go_wp2
    go_ret
    exact ⟨rfl, hx⟩
end Go.Proofs.YtmlojndkpnhalaaGreat.Trn
namespace Go.Proofs.YtmlojndkpnhalaaGreat.Trn
open Go.ChangeShapes Go.WideShapes Go.ChangeAt Go.RowKit
open Go.Proofs.YtmlojndkpnhalaaGreat.Num Go.Proofs.YtmlojndkpnhalaaGreat.Kit Go.Proofs.YtmlojndkpnhalaaGreat.Pts Go.Proofs.YtmlojndkpnhalaaGreat.Seg Go.Proofs.YtmlojndkpnhalaaGreat.Gcd Go.Proofs.YtmlojndkpnhalaaGreat.Wnd
open Go.Proofs.YtmlojndkpnhalaaGreat.Mnv (M2 Mxs OwnM px PAt RelE)
open Go.Proofs.YtmlojndkpnhalaaGreat.Trk (F3 Fxs Tr trB fx trB_yes trackValid_any isTrack_spec lastsAt_any lasts_spec lastB leg_bounds)
set_option linter.unusedVariables false
set_option linter.unusedSimpArgs false
theorem ret_bi {a b : Int} {c d : Bool} (g : d = c) (h : b = a) : Ending.returned (.tuple #[.bool c, .int .i64 a]) = .returned (.tuple #[.bool d, .int .i64 b]) := by rw [h, g]
set_option maxRecDepth 100000 in
set_option maxHeartbeats 2000000 in
theorem turningAt_impl (x y : Int) (a : Option Addr) (cap : Nat) (fs : List F3) (t s : Int) (w : World) (hf : Fxs w a fs) (hl : fs.length ≤ 1048576) :
    Calls Tryz.prog 90 #[Pt x y, Tr (.slice a fs.length cap), .int .i64 t, .int .i64 s] w fun e w' => e = .returned (.tuple #[.bool (tuB x y fs t s), .int .i64 (tuC x y fs t s)]) ∧ Ext w w' := by
  have HF := Lib.hid hf
  have HL := Lib.hid hl
  clear hf hl
  obtain ⟨W0, hW0⟩ : ∃ W0, W0 = (((w.alloc (.cells #[.int .i64 x, .int .i64 y] 54)).alloc (.cells #[.slice a fs.length cap] 33)).alloc (.cells #[.int .i64 t] 2)).alloc (.cells #[.int .i64 s] 2) := ⟨_, rfl⟩
  have hX : Ext w W0 := hW0 ▸ (((((Ext.refl w).alloc _).alloc _).alloc _).alloc _)
  have hs0 : W0.heap.size = w.heap.size + 1 + 1 + 1 + 1 := by rw [hW0]; simp
  have e00 : ∀ w', (Ext W0) w' → w'.cell? ⟨w.heap.size, 0, none⟩ = some (.int .i64 x) := fun w' h => h.cellOf (by rw [hW0]; exact ((((Ext.refl _).alloc _).alloc _).alloc _).cellOf (boxed 0 rfl (by simp)))
  have e01 : ∀ w', (Ext W0) w' → w'.cell? ⟨w.heap.size, 1, none⟩ = some (.int .i64 y) := fun w' h => h.cellOf (by rw [hW0]; exact ((((Ext.refl _).alloc _).alloc _).alloc _).cellOf (boxed 1 rfl (by simp)))
  have e10 : ∀ w', (Ext W0) w' → w'.cell? ⟨w.heap.size + 1, 0, none⟩ = some (.slice a fs.length cap) := fun w' h => h.cellOf (by rw [hW0]; exact (((Ext.refl _).alloc _).alloc _).cellOf (boxed 0 rfl (by simp)))
  have e20 : ∀ w', (Ext W0) w' → w'.cell? ⟨w.heap.size + 1 + 1, 0, none⟩ = some (.int .i64 t) := fun w' h => h.cellOf (by rw [hW0]; exact ((Ext.refl _).alloc _).cellOf (boxed 0 rfl (by simp)))
  have e30 : ∀ w', (Ext W0) w' → w'.cell? ⟨w.heap.size + 1 + 1 + 1, 0, none⟩ = some (.int .i64 s) := fun w' h => h.cellOf (by rw [hW0]; exact boxed 0 rfl (by simp))
  have KM := Lib.hid (manoeuvresOf_impl x y a cap fs W0 (HF.out.ext hX))
  have HM := Lib.hid (moL_len x y fs HL.out)
  go_enter Tryz.func90, Tryz.ntmps90
  go_wp2_with fail
  rw [← hW0]
  clear hW0
  refine KM.out.mono ?_
  rintro e w1 ⟨v, rfl, hO, hz⟩
  replace hz : Ext W0 w1 := hz
  by_cases hc : moC x y fs = 0
  · obtain ⟨hw, hv⟩ := mo_ok hc
    have HMO := Lib.hid (mo_yes hw hv).2
    have l2 := (trB_yes hv).1.1
    obtain ⟨g, gc, rfl, hP⟩ := hO.mxs (by unfold maxLen; have := HM.out; omega)
    have HP := Lib.hid hP
    have C := Lib.hid (show Cap w1 (w.heap.size + 1) (w.heap.size + 1 + 1) (w.heap.size + 1 + 1 + 1) a cap fs t s from ⟨e10 w1 hz, e20 w1 hz, e30 w1 hz, HF.out.ext (hX.trans hz)⟩)
    have HU0 := Lib.hid (fun g => tu_out (s := s) (t := t) hc g)
    have HU1 := Lib.hid (fun g f => tu_span (s := s) (t := t) hc g f)
    have HU2 := Lib.hid (fun g f => tu_yes (s := s) (t := t) hc g f)
    rw [hc]
    clear hP hO hc
    have g1 := C.out.tr
    have g2 := C.out.tm
    go_wp2_with fail
    refine (lastsAt_any _ _ _ _ _ C.out.fx (by omega)).mono ?_
    rintro e w2 ⟨rfl, hy⟩
    replace C := Lib.hid (C.out.ext hy)
    replace HP := Lib.hid (HP.out.ext hy)
    replace hz := hz.trans hy
    clear hy g1 g2
    cases h1 : lastB fs t
    · have HU := Lib.hid (HU0.out h1)
      go_wp2
      go_ret2
      exact ⟨ret_bi HU.out.2 HU.out.1, hX.trans hz⟩
    have g3 := C.out.sp
    go_wp2_with fail
    refine (isSpan_any _ _).mono ?_
    rintro e w3 ⟨rfl, rfl⟩
    cases h2 : inB s 0 60000
    · have HU := Lib.hid (HU1.out h1 h2)
      go_wp2
      go_ret2
      exact ⟨ret_bi HU.out.2 HU.out.1, hX.trans hz⟩
    have HU := Lib.hid (HU2.out h1 h2)
    have PC := Lib.hid (containsMn_any (w.heap.size + 1) (w.heap.size + 1 + 1) (w.heap.size + 1 + 1 + 1) a cap fs t s g gc (moL x y fs) w2 C.out HP.out (fun i hi => by
      rw [HMO.out] at hi ⊢
      obtain ⟨k, ek, k1, k2⟩ := mn_fix x y fs _ i hi
      exact ⟨k, ek, by omega⟩) hv (last_bd hv h1))
    rw [HMO.out] at PC
    rw [HMO.out]
    go_wp2_with fail
    refine PC.out.mono ?_
    rintro e w4 ⟨rfl, hy⟩
    go_wp2
    go_ret2
    exact ⟨ret_bi HU.out.2 HU.out.1, hX.trans (hz.trans hy)⟩
  · have HU := Lib.hid (tu_bad (t := t) (s := s) hc)
    have he : moC x y fs = 1 := by
      unfold moC at hc ⊢
      split
      · rename_i h; rw [if_pos h] at hc; exact absurd rfl hc
      · rfl
    rw [he]
    clear he hc KM HM hO
    go_wp2
    go_ret2
    exact ⟨ret_bi HU.out.2 HU.out.1, hX.trans hz⟩
def RelTs (W : World) (base : Nat) (v : Value) (fs : List F3) (t s : Int) (ps : List M2) (i : Value) (wr : World) : Prop := ∃ k : Nat, i = .int .i64 k ∧ k ≤ ps.length ∧ (∀ j, j < k → nrB fs t s (px ps j) = false) ∧ Ext W wr
set_option maxRecDepth 100000 in
set_option maxHeartbeats 2000000 in
theorem turning_spec (x y : Int) (a : Option Addr) (cap : Nat) (fs : List F3) (t s : Int) (w : World) (hf : Fxs w a fs) (hw : wdB x y = true) (hv : trB fs = true) (ht : 0 ≤ t ∧ t ≤ 1000000000) :
    Calls Tryz.prog 211 #[Pt x y, Tr (.slice a fs.length cap), .int .i64 t, .int .i64 s] w fun e w' => e = .returned (.bool (tnB fs t s (mnL x y fs (fs.length - 2)))) ∧ Ext w w' := by
  have HF := Lib.hid hf
  clear hf
  obtain ⟨⟨l2, l40⟩, _⟩ := trB_yes hv
  have hmx := mn_fix x y fs (fs.length - 2)
  have HK := Lib.hid (show ∀ i, i < (mnL x y fs (fs.length - 2)).length → ∃ k : Nat, (px (mnL x y fs (fs.length - 2)) i).x = k ∧ k < fs.length from fun i hi => by
    obtain ⟨k, ek, k1, k2⟩ := hmx i hi
    exact ⟨k, ek, by omega⟩)
  have hlen := mnL_len x y fs (fs.length - 2)
  have HT := Lib.hid (fun k (hk : k < fs.length) => fx_time hv hk)
  obtain ⟨W0, hW0⟩ : ∃ W0, W0 = (w.alloc (.cells #[.int .i64 x, .int .i64 y] 54)).alloc (.cells #[.slice a fs.length cap] 33) := ⟨_, rfl⟩
  have hX : Ext w W0 := hW0 ▸ (((Ext.refl w).alloc _).alloc _)
  have hs0 : W0.heap.size = w.heap.size + 1 + 1 := by rw [hW0]; simp
  have e00 : ∀ w', (Ext W0) w' → w'.cell? ⟨w.heap.size, 0, none⟩ = some (.int .i64 x) := fun w' h => h.cellOf (by rw [hW0]; exact ((Ext.refl _).alloc _).cellOf (boxed 0 rfl (by simp)))
  have e01 : ∀ w', (Ext W0) w' → w'.cell? ⟨w.heap.size, 1, none⟩ = some (.int .i64 y) := fun w' h => h.cellOf (by rw [hW0]; exact ((Ext.refl _).alloc _).cellOf (boxed 1 rfl (by simp)))
  have e10 : ∀ w', (Ext W0) w' → w'.cell? ⟨w.heap.size + 1, 0, none⟩ = some (.slice a fs.length cap) := fun w' h => h.cellOf (by rw [hW0]; exact boxed 0 rfl (by simp))
  have KM := Lib.hid (manoeuvres_spec x y a cap fs W0 (HF.out.ext hX) hv hw)
  generalize mnL x y fs (fs.length - 2) = ps at *
  clear hmx hv hw
  go_enter Tryz.func211, Tryz.ntmps211
  go_wp2_with fail
  rw [← hW0]
  clear hW0
  refine KM.out.mono ?_
  rintro e w1 ⟨v, rfl, hO, hz⟩
  replace hz : Ext W0 w1 := hz
  obtain ⟨g, gc, rfl, hP⟩ := hO.mxs (by unfold maxLen; omega)
  have HP := Lib.hid hP
  clear hP hO KM
  go_wp2
  go_loopw [10] (fun i wr => RelTs w1 0 (.slice g ps.length gc) fs t s ps i wr) (fun i _ => ps.length - (intOf i).toNat)
  case atStart => exact ⟨0, rfl, Nat.zero_le _, fun j hj => absurd hj (by omega), Ext.refl _⟩
  case round =>
    obtain ⟨j, rfl, hj, hd, hx⟩ := hrel
    have HD := Lib.hid hd
    have HX := Lib.hid hx
    clear hd hx
    have i0 : (0 : Int) ≤ (j : Int) := by omega
    have T7 : IntKind.i64.wrap ((j : Int) + 1) = (j : Int) + 1 := IntWalk.i64_in _ (by omega)
    by_cases hj1 : j < ps.length
    · obtain ⟨b, off, rfl, hb⟩ := HP.out.row (by omega)
      have hb0 := (hb j hj1).ext HX.out
      obtain ⟨k, ek, hk⟩ := HK.out j hj1
      obtain ⟨u0, u1⟩ := HT.out k hk
      have i1 : (j : Int) < (ps.length : Int) := by omega
      have j0 : (0 : Int) ≤ (k : Int) := by omega
      have j1 : (k : Int) < (fs.length : Int) := by omega
      obtain ⟨bb, of2, rfl, hc⟩ : ∃ bb off, a = some ⟨bb, off, none⟩ ∧ ∀ i, i < fs.length → w.cell? ⟨bb, off + i * 3, none⟩ = some (.int .i64 (fx fs i).t) := by
        rcases HF.out.2 with h | ⟨bb, off, h, h2⟩
        · rw [h] at hk; simp at hk
        · exact ⟨bb, off, h, fun i hi => (h2 i hi).1⟩
      have HN := Lib.hid (show nrB fs t s (px ps j) = decide (ab ((fx fs k).t - t) ≤ s) by unfold nrB; rw [ek]; simp)
      have c0 : ∀ w', Ext wr w' → w'.cell? ⟨bb, of2 + k * 3, none⟩ = some (.int .i64 (fx fs k).t) := fun w' h => (hX.trans (hz.trans (HX.out.trans h))).cellOf (hc k hk)
      have c1 : ∀ w', Ext wr w' → w'.cell? ⟨b, off + j * 2, none⟩ = some (.int .i64 k) := fun w' h => by have := (hb0.ext h).1; rw [ek] at this; exact this
      have c2 : ∀ w', Ext wr w' → w'.cell? ⟨w.heap.size + 1, 0, none⟩ = some (.slice (some ⟨bb, of2, none⟩) fs.length cap) := fun w' h => e10 w' (hz.trans (HX.out.trans h))
      clear hb hb0 hc ek
      generalize (fx fs k).t = u at *
      have T0 : IntKind.i64.wrap (u - t) = u - t := IntWalk.i64_in _ (by omega)
      have PA := Lib.hid (fun w => absS_any (u - t) w (by omega) (by omega))
      generalize ab (u - t) = z at *
      have hr := Ext.refl wr
      go_wp2_with fail
      refine wp_region_held_drew (S := (fun w' => Ext wr w')) (by kernel_rfl) (by (try dsimp only); first | go_keep | exact (Ext.refl _).drew | exact Res.new2.drew | exact Res.new4.drew | exact ResB.drew (by assumption) | exact ResC.drew (by assumption) | assumption | exact Ext.drew (by assumption) | exact Res.drew (by assumption)) (fun hHeld => ?_)
      refine Ord.K 0 20 ?_
      refine Ord.K 1 21 ?_
      refine Ord.K 2 22 ?_
      refine Ord.K 3 23 ?_
      refine Ord.K 4 24 ?_
      refine Ord.K 5 25 ?_
      refine Ord.K 6 26 ?_
      refine Ord.K 7 27 ?_
      refine Ord.K 8 28 ?_
      refine Ord.K 9 29 ?_
      refine Ord.K 10 30 ?_
      refine Ord.K 11 31 ?_
      refine Ord.K 13 33 ?_
      (refine wpAnyH_ready (rs := [12]) (by kernel_rfl) (by simp) ?_; refine AllReadyH.cons rfl (fun K hK => ?_) AllReadyH.nil; go_simp; (go_at_call 259; refine (PA.out _).mono ?_; rintro e w2 ⟨rfl, rfl⟩); go_wp2_with fail; (refine hK.out _ _ (by first | assumption | exact Ext.trans (by assumption) hy | exact Res.ext (by assumption) hy | exact ResB.ext (by assumption) hy | exact ResC.ext (by assumption) hy | (go_split_ands; (repeat' apply And.intro) <;> exact Ext.cellOf hy (by assumption))) (fun hHeld => ?_)); clear hK K; (try simp only [Act.put, Ord.a, Ord.b, Ord.c]))
      refine Ord.K 14 34 ?_
      refine wpAnyH_done (by kernel_rfl) ?_ _
      have HY := Lib.hid (HX.out.trans hHeld)
      cases hle : decide (z ≤ s)
      · have H := Lib.hid (HN.out.trans hle)
        have hle2 : ¬ z ≤ s := by simpa using hle
        go_wp2
        go_roundw
        case rel => exact ⟨j + 1, by go_num, by omega, fun x hx => by rcases Nat.lt_or_ge x j with g | g; exact HD.out x g; exact (show x = j by omega) ▸ H.out, HY.out⟩
        case measure => simp [intOf]; omega
      · have H := Lib.hid (tn_yes hj1 (HN.out.trans hle))
        have hle2 : z ≤ s := by simpa using hle
        go_wp2
        go_ret
        exact ⟨ret_bool H.out, hX.trans (hz.trans HY.out)⟩
    · obtain rfl : j = ps.length := by omega
      have H := Lib.hid (tn_no HD.out)
      go_wp2
      go_ret
      exact ⟨ret_bool H.out, hX.trans (hz.trans HX.out)⟩
set_option maxRecDepth 100000 in
set_option maxHeartbeats 2000000 in
theorem turningAt_spec (x y : Int) (a : Option Addr) (cap : Nat) (fs : List F3) (t s : Int) (w : World) (hf : Fxs w a fs) :
    Calls Tryz.prog 152 #[Pt x y, Tr (.slice a fs.length cap), .int .i64 t, .int .i64 s] w fun e w' => e = .returned (.tuple #[.bool (tuB x y fs t s), .int .i64 (tuC x y fs t s)]) ∧ Ext w w' := by
  have HF := Lib.hid hf
  clear hf
  obtain ⟨W0, hW0⟩ : ∃ W0, W0 = (w.alloc (.cells #[.int .i64 x, .int .i64 y] 54)).alloc (.cells #[.slice a fs.length cap] 33) := ⟨_, rfl⟩
  have hX : Ext w W0 := hW0 ▸ (((Ext.refl w).alloc _).alloc _)
  have hs0 : W0.heap.size = w.heap.size + 1 + 1 := by rw [hW0]; simp
  have e00 : ∀ w', (Ext W0) w' → w'.cell? ⟨w.heap.size, 0, none⟩ = some (.int .i64 x) := fun w' h => h.cellOf (by rw [hW0]; exact ((Ext.refl _).alloc _).cellOf (boxed 0 rfl (by simp)))
  have e01 : ∀ w', (Ext W0) w' → w'.cell? ⟨w.heap.size, 1, none⟩ = some (.int .i64 y) := fun w' h => h.cellOf (by rw [hW0]; exact ((Ext.refl _).alloc _).cellOf (boxed 1 rfl (by simp)))
  have e10 : ∀ w', (Ext W0) w' → w'.cell? ⟨w.heap.size + 1, 0, none⟩ = some (.slice a fs.length cap) := fun w' h => h.cellOf (by rw [hW0]; exact boxed 0 rfl (by simp))
  go_enter Tryz.func152, Tryz.ntmps152
  go_wp2_with fail
  rw [← hW0]
  clear hW0
  refine (isWind_spec _ _ _).mono ?_
  rintro e w1 ⟨rfl, hz⟩
  replace hz : Ext W0 w1 := hz
  cases h1 : wdB x y
  · have HU := Lib.hid (tu_bad (t := t) (s := s) (show moC x y fs ≠ 0 by rw [(mo_no1 h1).1]; decide))
    go_wp2
    go_ret2
    exact ⟨ret_bi HU.out.2 HU.out.1, hX.trans hz⟩
  have g10 := e10 w1 hz
  go_wp2_with fail
  refine (isTrack_spec _ _ _ _ (HF.out.ext (hX.trans hz))).mono ?_
  rintro e w2 ⟨rfl, hy⟩
  replace hz := hz.trans hy
  clear hy g10
  cases h2 : trB fs
  · have HU := Lib.hid (tu_bad (t := t) (s := s) (show moC x y fs ≠ 0 by rw [(mo_no2 h2).1]; decide))
    go_wp2
    go_ret2
    exact ⟨ret_bi HU.out.2 HU.out.1, hX.trans hz⟩
  have hc := (mo_yes h1 h2).1
  have l2 := (trB_yes h2).1.1
  have HU0 := Lib.hid (fun g => tu_out (s := s) (t := t) hc g)
  have HU1 := Lib.hid (fun g f => tu_span (s := s) (t := t) hc g f)
  have HU2 := Lib.hid (fun g f => tu_yes (s := s) (t := t) hc g f)
  clear hc
  have g10 := e10 w2 hz
  go_wp2_with fail
  refine (lasts_spec _ _ _ _ _ (HF.out.ext (hX.trans hz)) (by omega)).mono ?_
  rintro e w3 ⟨rfl, hy⟩
  replace hz := hz.trans hy
  clear hy g10
  cases h3 : lastB fs t
  · have HU := Lib.hid (HU0.out h3)
    go_wp2
    go_ret2
    exact ⟨ret_bi HU.out.2 HU.out.1, hX.trans hz⟩
  go_wp2_with fail
  refine (in_any _ _ _ _).mono ?_
  rintro e w4 ⟨rfl, rfl⟩
  cases h4 : inB s 0 60000
  · have HU := Lib.hid (HU1.out h3 h4)
    go_wp2
    go_ret2
    exact ⟨ret_bi HU.out.2 HU.out.1, hX.trans hz⟩
  have HU := Lib.hid (HU2.out h3 h4)
  have PT := Lib.hid (turning_spec x y a cap fs t s w3 (HF.out.ext (hX.trans hz)) h1 h2 (last_bd h2 h3))
  have g00 := e00 w3 hz; have g01 := e01 w3 hz; have g10 := e10 w3 hz
  go_wp2_with fail
  refine PT.out.mono ?_
  rintro e w5 ⟨rfl, hy⟩
  go_wp2
  go_ret2
  exact ⟨ret_bi HU.out.2 HU.out.1, hX.trans (hz.trans hy)⟩
end Go.Proofs.YtmlojndkpnhalaaGreat.Trn
