import Derived.Test.YtmlojndkpnhalaaGreatCrv5
import Derived.Test.YtmlojndkpnhalaaGreatMPlace
import Derived.RangeFuncNested
import Derived.RangeFuncBound
import Derived.RangeFuncCalls
import Derived.RangeFuncLeaves
import Derived.Shelf.Abstract
import Derived.Shelf.RegionOpen
import Derived.OwnWalkIn
import Derived.TacticsInMore
import Derived.LoopNIn
import Derived.LoopIn
namespace Go.Proofs.YtmlojndkpnhalaaGreat.Trk
open Go.ChangeShapes Go.WideShapes Go.ChangeAt Go.RowKit Go.Shelf
open Go.Proofs.YtmlojndkpnhalaaGreat.Num Go.Proofs.YtmlojndkpnhalaaGreat.Kit Go.Proofs.YtmlojndkpnhalaaGreat.Pts Go.Proofs.YtmlojndkpnhalaaGreat.Seg Go.Proofs.YtmlojndkpnhalaaGreat.Gcd Go.Proofs.YtmlojndkpnhalaaGreat.Crs
set_option linter.unusedVariables false
set_option linter.unusedSimpArgs false
attribute [local go_sem] Oper.semAt_some
def Kp (n0 B : Nat) (W W' : World) : Prop := Below n0 W W' ∧ W'.heap[B]? = W.heap[B]? ∧ W'.heap[B + 1]? = W.heap[B + 1]?
theorem Kp.refl (n0 B : Nat) (W : World) : Kp n0 B W W := ⟨Below.refl _ _, rfl, rfl⟩
theorem Kp.trans {n0 B : Nat} {X Y Z : World} (h : Kp n0 B X Y) (k : Kp n0 B Y Z) : Kp n0 B X Z := ⟨h.1.trans k.1, k.2.1.trans h.2.1, k.2.2.trans h.2.2⟩
theorem Kp.ext {n0 B : Nat} {W W' : World} (h : Ext W W') (hn : n0 ≤ W.heap.size) (hB : B + 1 < W.heap.size) : Kp n0 B W W' :=
  ⟨Below.mono h hn, Below.block h B (by omega), Below.block h (B + 1) hB⟩
theorem kp_b {n0 B : Nat} {w : World} (hn : n0 ≤ w.heap.size) (hB : B + 1 < w.heap.size) (W : World) (l : Nat) (o o' : Obj) (hl : w.heap.size ≤ l) (h : W.heap[l]? = some o) (hc : o.isCells = false) (hw : o.isWalk = false) : Kp n0 B W (W.putObj l o') :=
  ⟨belowK_b hn W l o o' hl h hc hw, World.putObj_heap_other (by omega), World.putObj_heap_other (by omega)⟩
theorem Kp.cell0 {n0 B : Nat} {W W' : World} (h : Kp n0 B W W') {o : Nat} {v : Value} (hc : W.cell? ⟨B, o, none⟩ = some v) : W'.cell? ⟨B, o, none⟩ = some v := (World.cell?_of_block (w := W) h.2.1).trans hc
theorem Kp.cell1 {n0 B : Nat} {W W' : World} (h : Kp n0 B W W') {o : Nat} {v : Value} (hc : W.cell? ⟨B + 1, o, none⟩ = some v) : W'.cell? ⟨B + 1, o, none⟩ = some v := (World.cell?_of_block (w := W) h.2.2).trans hc
theorem ext_grown {w w' : World} (h : Ext w w') : w.grownBy w' none := ⟨Below.os h, Below.tape h, Below.output h, Below.size h, fun k hk _ => Below.block h k hk⟩
theorem crL_prefix (fs : List F3) (a b c d : Int) (j : Nat) : ∀ k, j ≤ k → crL fs a b c d j <+: crL fs a b c d k
  | 0, h => by rw [show j = 0 by omega]; exact List.prefix_refl _
  | k + 1, h => by
    by_cases e : j = k + 1
    · rw [e]; exact List.prefix_refl _
    · have h1 := crL_prefix fs a b c d j k (by omega)
      by_cases g : lwI fs a b c d k = 0
      · rw [crL_same g]; exact h1
      · rw [crL_more g]; exact h1.trans (List.prefix_append _ _)
theorem cp_yes {a b c d p q u v : Int} (h1 : sgB a b c d = true) (h2 : sgB p q u v = true) : cpN a b c d p q u v = plN (crs p q u v a b) (crs p q u v c d) ∧ cpD a b c d p q u v = plD (crs p q u v a b) (crs p q u v c d) :=
  ⟨if_pos ⟨h1, h2⟩, if_pos ⟨h1, h2⟩⟩
set_option maxRecDepth 100000 in
set_option maxHeartbeats 2000000 in
theorem crossings1_in (n : Nat) (hn : 1 ≤ n) (l B : Nat) (w0 : World) (a0 : Option Addr) (cap : Nat) (fs : List F3) (a b c d : Int) (hf : Fxs w0 a0 fs) (hv : trB fs = true) (hs : sgB a b c d = true) (J Jx : List C5 → World → Prop)
    (hY : ∀ pre x W, J pre W → pre.length < 39 → YieldAt Fence.wide (n - 1) Tryz.prog l #[CrV x] W fun e W' =>
      (e = .returned (.bool true) ∧ J (pre ++ [x]) W' ∧ Kp w0.heap.size B W W') ∨ (e = .returned (.bool false) ∧ Jx (pre ++ [x]) W'))
    (W : World) (hJ : AbidesFrom W.heap.size J) (hx : Ext w0 W) (hB : w0.heap.size ≤ B) (hB2 : B + 1 < W.heap.size)
    (c0 : W.cell? ⟨B, 0, none⟩ = some (.slice a0 fs.length cap)) (c1 : W.cell? ⟨B + 1, 0, none⟩ = some (.int .i64 a)) (c2 : W.cell? ⟨B + 1, 1, none⟩ = some (.int .i64 b))
    (c3 : W.cell? ⟨B + 1, 2, none⟩ = some (.int .i64 c)) (c4 : W.cell? ⟨B + 1, 3, none⟩ = some (.int .i64 d)) (h0 : J [] W) :
    CallsIn Fence.wide n Tryz.prog 244 #[.func (.yield l) #[] #[], .pointer (some ⟨B, 0, none⟩), .pointer (some ⟨B + 1, 0, none⟩)] W fun e W' => (∃ v, e = .returned v) ∧
      ((∃ ys, ys = crL fs a b c d (fs.length - 1) ∧ J ys W') ∨ (∃ pre, pre <+: crL fs a b c d (fs.length - 1) ∧ Jx pre W')) := by
  obtain ⟨⟨h2, h40⟩, _⟩ := trB_yes hv
  have HF := Lib.hid hf
  have HY := Lib.hid hY
  have HJ := Lib.hid hJ
  clear hf hY hJ
  refine callsIn_of_wp Tryz.func244 rfl trivial ?_ rfl
  simp only [Tryz.ntmps244, List.size_toArray, List.length_cons, List.length_nil, Nat.reduceAdd, Nat.reduceSub, Array.replicate_succ, Array.replicate_zero, List.push_toArray, List.append_toArray, List.nil_append, List.cons_append]
  gi_wp2_with (refine ⟨trivial, ?_⟩; gi_at_call 148; refine (callsIn_wide.2 (legCount_any _ _ _ _ (by omega) (by omega))).mono ?_; rintro e w1 ⟨rfl, hx1⟩)
  gi_loopw [12] (fun i wr => ∃ k : Nat, k ≤ fs.length - 1 ∧ i = .int .i64 k ∧ J (crL fs a b c d k) wr ∧ Kp w0.heap.size B W wr)
    (fun i _ => fs.length - (intOf i).toNat)
  case atStart => exact ⟨0, Nat.zero_le _, rfl, HJ.out _ _ _ none h0 (ext_grown hx1) (fun r e => by cases e), Kp.ext hx1 hx.size hB2⟩
  case round =>
    obtain ⟨k, hk, rfl, hJs, hkp⟩ := hrel
    by_cases hlt : k < fs.length - 1
    · replace c0 := hkp.cell0 c0
      replace c1 := hkp.cell1 c1
      replace c2 := hkp.cell1 c2
      replace c3 := hkp.cell1 c3
      replace c4 := hkp.cell1 c4
      have hx0 : Ext w0 wr := Below.trans hx hkp.1
      have i1 : (k : Int) < ((fs.length - 1 : Nat) : Int) := by omega
      have hk1 : k + 1 < fs.length := by omega
      obtain ⟨⟨la, lb, lc, ld⟩, _⟩ := leg_bounds hv hk1
      obtain ⟨⟨ga, gb, gc, gd⟩, _⟩ := sgB_yes hs
      have HW := Lib.hid (fun w' => wayOf_any a b c d (fx fs k).x (fx fs k).y (fx fs (k + 1)).x (fx fs (k + 1)).y w' ga gb gc gd la lb lc ld)
      have HZ := Lib.hid hx0
      have zz := hx0.size
      have zB : B + 1 < wr.heap.size := Nat.lt_of_lt_of_le hB2 hkp.1.size
      clear hx0
      by_cases hz : lwI fs a b c d k = 0
      · have HN := Lib.hid (show wyI a b c d (fx fs k).x (fx fs k).y (fx fs (k + 1)).x (fx fs (k + 1)).y = 0 from hz)
        gi_wp2_with first
          | (refine ⟨trivial, ?_⟩; gi_at_call 150; refine (callsIn_wide.2 (leg_any _ _ _ _ _ (HF.out.ext HZ.out) (by omega) (by omega))).mono ?_; rintro e w2 ⟨rfl, hx2⟩; have hx3 := hx2.alloc (.cells #[.int .i64 (fx fs k).x, .int .i64 (fx fs k).y, .int .i64 (fx fs (k + 1)).x, .int .i64 (fx fs (k + 1)).y] 225); replace c1 := hx3.cellOf c1; replace c2 := hx3.cellOf c2; replace c3 := hx3.cellOf c3; replace c4 := hx3.cellOf c4)
          | (refine ⟨trivial, ?_⟩; gi_at_call 245; refine (callsIn_wide.2 (HW.out _)).mono ?_; rintro e w3 ⟨rfl, hx4⟩; rw [HN.out]; replace hx3 := hx3.trans hx4; clear hx4)
        go_roundw
        case rel => exact ⟨k + 1, by omega, by go_num, by rw [crL_same hz]; exact HJ.out _ _ _ none hJs (ext_grown hx3) (fun r e => by cases e), hkp.trans (Kp.ext hx3 zz zB)⟩
        case measure => simp [intOf]; omega
      · obtain ⟨_, b1, b2, b3, b4⟩ := lx_bd hv hk1 hs hz
        have hm := mom_bd hv hk1 b1 b2 b3
        have HN := Lib.hid hz
        have hz2 : ¬ wyI a b c d (fx fs k).x (fx fs k).y (fx fs (k + 1)).x (fx fs (k + 1)).y = 0 := hz
        have HP : Hid (∀ w', Calls Tryz.prog 246 #[Sg (fx fs k).x (fx fs k).y (fx fs (k + 1)).x (fx fs (k + 1)).y, Sg a b c d] w' fun e w'' => e = .returned (.tuple #[Pt (lxN fs a b c d k) (lxD fs a b c d k), .int .i64 (cpC (fx fs k).x (fx fs k).y (fx fs (k + 1)).x (fx fs (k + 1)).y a b c d)]) ∧ Ext w' w'') := Lib.hid (fun w' => by
          have h := crossingPlace_impl (fx fs k).x (fx fs k).y (fx fs (k + 1)).x (fx fs (k + 1)).y a b c d w'
          obtain ⟨e1, e2⟩ := cp_yes (lw_sg hv hk1 hz) hs
          rw [e1, e2] at h
          exact h)
        have HM := Lib.hid (fun w' (h : Ext w0 w') => momentAt_any a0 cap fs k (lxN fs a b c d k) (lxD fs a b c d k) w' (HF.out.ext h) hk1 hv b1 b2 b3 b4)
        have HR := Lib.hid (fun w' => roundedUp_any (mwI fs k (lxN fs a b c d k) (lxD fs a b c d k)) (mrI fs k (lxN fs a b c d k) (lxD fs a b c d k)) (lxD fs a b c d k) w' (by unfold mwI; omega) (by unfold mwI; omega))
        clear hz b1 b2 b3 b4 hm
        gi_wp2_with first
          | (refine ⟨trivial, ?_⟩; gi_at_call 150; refine (callsIn_wide.2 (leg_any _ _ _ _ _ (HF.out.ext HZ.out) (by omega) (by omega))).mono ?_; rintro e w2 ⟨rfl, hx2⟩; have hx3 := hx2.alloc (.cells #[.int .i64 (fx fs k).x, .int .i64 (fx fs k).y, .int .i64 (fx fs (k + 1)).x, .int .i64 (fx fs (k + 1)).y] 225); replace c0 := hx3.cellOf c0; replace c1 := hx3.cellOf c1; replace c2 := hx3.cellOf c2; replace c3 := hx3.cellOf c3; replace c4 := hx3.cellOf c4
             have s0 : (w2.alloc (.cells #[.int .i64 (fx fs k).x, .int .i64 (fx fs k).y, .int .i64 (fx fs (k + 1)).x, .int .i64 (fx fs (k + 1)).y] 225)).cell? ⟨w2.heap.size, 0, none⟩ = some (.int .i64 (fx fs k).x) := boxed 0 rfl rfl
             have s1 : (w2.alloc (.cells #[.int .i64 (fx fs k).x, .int .i64 (fx fs k).y, .int .i64 (fx fs (k + 1)).x, .int .i64 (fx fs (k + 1)).y] 225)).cell? ⟨w2.heap.size, 1, none⟩ = some (.int .i64 (fx fs k).y) := boxed 1 rfl rfl
             have s2 : (w2.alloc (.cells #[.int .i64 (fx fs k).x, .int .i64 (fx fs k).y, .int .i64 (fx fs (k + 1)).x, .int .i64 (fx fs (k + 1)).y] 225)).cell? ⟨w2.heap.size, 2, none⟩ = some (.int .i64 (fx fs (k + 1)).x) := boxed 2 rfl rfl
             have s3 : (w2.alloc (.cells #[.int .i64 (fx fs k).x, .int .i64 (fx fs k).y, .int .i64 (fx fs (k + 1)).x, .int .i64 (fx fs (k + 1)).y] 225)).cell? ⟨w2.heap.size, 3, none⟩ = some (.int .i64 (fx fs (k + 1)).y) := boxed 3 rfl rfl)
          | (refine ⟨trivial, ?_⟩; gi_at_call 245; refine (callsIn_wide.2 (HW.out _)).mono ?_; rintro e w3 ⟨rfl, hx4⟩; replace hx3 := hx3.trans hx4; replace c0 := hx4.cellOf c0; replace c1 := hx4.cellOf c1; replace c2 := hx4.cellOf c2; replace c3 := hx4.cellOf c3; replace c4 := hx4.cellOf c4; replace s0 := hx4.cellOf s0; replace s1 := hx4.cellOf s1; replace s2 := hx4.cellOf s2; replace s3 := hx4.cellOf s3; clear hx4)
          | (refine ⟨trivial, ?_⟩; gi_at_call 246; refine (callsIn_wide.2 (HP.out _)).mono ?_; rintro e w4 ⟨rfl, hx4⟩; replace hx4 := hx4.alloc (.cells #[.int .i64 (lxN fs a b c d k), .int .i64 (lxD fs a b c d k)] 186); replace hx3 := hx3.trans hx4; replace c0 := hx4.cellOf c0; clear hx4 c1 c2 c3 c4 s0 s1 s2 s3
             have r0 : (w4.alloc (.cells #[.int .i64 (lxN fs a b c d k), .int .i64 (lxD fs a b c d k)] 186)).cell? ⟨w4.heap.size, 0, none⟩ = some (.int .i64 (lxN fs a b c d k)) := boxed 0 rfl rfl
             have r1 : (w4.alloc (.cells #[.int .i64 (lxN fs a b c d k), .int .i64 (lxD fs a b c d k)] 186)).cell? ⟨w4.heap.size, 1, none⟩ = some (.int .i64 (lxD fs a b c d k)) := boxed 1 rfl rfl)
          | (refine ⟨trivial, ?_⟩; gi_at_call 247; refine (callsIn_wide.2 (HM.out _ (HZ.out.trans hx3))).mono ?_; rintro e w5 ⟨rfl, hx4⟩; replace hx3 := hx3.trans hx4; replace r0 := hx4.cellOf r0; replace r1 := hx4.cellOf r1; clear hx4 c0)
          | (refine ⟨trivial, ?_⟩; gi_at_call 248; refine (callsIn_wide.2 (HR.out _)).mono ?_; rintro e w6 ⟨rfl, hx4⟩; replace hx3 := hx3.trans hx4; replace r0 := hx4.cellOf r0; replace r1 := hx4.cellOf r1; clear hx4
             obtain ⟨fn, tmps, assign, body, hy, hR⟩ := HY.out (crL fs a b c d k) (legC fs a b c d k) w6 (HJ.out _ _ _ none hJs (ext_grown hx3) (fun r e => by cases e)) (Nat.lt_of_le_of_lt (crL_len fs a b c d k) (by omega))
             dsimp only [legC, lwI] at hy)
        refine hR.mono ?_
        rintro e W3 (⟨rfl, hJ3, hk3⟩ | ⟨rfl, hJx3⟩)
        · gi_wp2
          go_roundw
          case rel => exact ⟨k + 1, by omega, by go_num, by rw [crL_more HN.out]; exact hJ3, (hkp.trans (Kp.ext hx3 zz zB)).trans hk3⟩
          case measure => simp [intOf]; omega
        · gi_wp2
          refine bodyPost_ret (results_none rfl _ _ _) rfl ?_
          exact ⟨⟨_, rfl⟩, .inr ⟨crL fs a b c d k ++ [legC fs a b c d k], by rw [← crL_more HN.out]; exact crL_prefix _ _ _ _ _ _ _ (by omega), hJx3⟩⟩
    · obtain rfl : k = fs.length - 1 := by omega
      gi_wp2
      go_end0
      exact ⟨⟨_, rfl⟩, .inl ⟨_, rfl, hJs⟩⟩
end Go.Proofs.YtmlojndkpnhalaaGreat.Trk
