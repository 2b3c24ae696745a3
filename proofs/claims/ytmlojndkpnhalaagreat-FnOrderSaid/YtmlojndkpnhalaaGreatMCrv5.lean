import Derived.Test.YtmlojndkpnhalaaGreatMMom
import Derived.Test.YtmlojndkpnhalaaGreatMRel
import Derived.RangeFuncNested
import Derived.RangeFuncBound
import Derived.RangeFuncCalls
import Derived.RangeFuncLeaves
import Derived.Shelf.Abstract
import Derived.Shelf.RegionOpen
import Derived.OwnWalkIn
import Derived.TacticsInMore
import Derived.LoopNIn
import Derived.LoopIn
import Derived.Test.YtmlojndkpnhalaaGreatMPts
import Derived.Test.YtmlojndkpnhalaaGreatOrd
import Derived.Test.YtmlojndkpnhalaaGreatMKit
namespace Go.Proofs.YtmlojndkpnhalaaGreat.Trk
open Go.ChangeShapes Go.WideShapes Go.ChangeAt Go.RowKit
open Go.Proofs.YtmlojndkpnhalaaGreat.Num Go.Proofs.YtmlojndkpnhalaaGreat.Kit Go.Proofs.YtmlojndkpnhalaaGreat.Pts Go.Proofs.YtmlojndkpnhalaaGreat.Seg Go.Proofs.YtmlojndkpnhalaaGreat.Gcd Go.Proofs.YtmlojndkpnhalaaGreat.Crs
set_option linter.unusedVariables false
set_option linter.unusedSimpArgs false
structure C5 where
  t : Int
  l : Int
  g : Int
  x : Int
  y : Int
deriving DecidableEq
abbrev CrV (c : C5) : Value := Cr c.t c.l c.g c.x c.y
def lwI (fs : List F3) (a b c d : Int) (k : Nat) : Int := wyI a b c d (fx fs k).x (fx fs k).y (fx fs (k + 1)).x (fx fs (k + 1)).y
def lA (fs : List F3) (a b c d : Int) (k : Nat) : Int := crs a b c d (fx fs k).x (fx fs k).y
def lB (fs : List F3) (a b c d : Int) (k : Nat) : Int := crs a b c d (fx fs (k + 1)).x (fx fs (k + 1)).y
def lxN (fs : List F3) (a b c d : Int) (k : Nat) : Int := plN (lA fs a b c d k) (lB fs a b c d k)
def lxD (fs : List F3) (a b c d : Int) (k : Nat) : Int := plD (lA fs a b c d k) (lB fs a b c d k)
def upI (w r : Int) : Int := if 0 < r then w + 1 else w
def legC (fs : List F3) (a b c d : Int) (k : Nat) : C5 :=
  ⟨upI (mwI fs k (lxN fs a b c d k) (lxD fs a b c d k)) (mrI fs k (lxN fs a b c d k) (lxD fs a b c d k)), k, lwI fs a b c d k, lxN fs a b c d k, lxD fs a b c d k⟩
def crL (fs : List F3) (a b c d : Int) : Nat → List C5
  | 0 => []
  | k + 1 => if lwI fs a b c d k = 0 then crL fs a b c d k else crL fs a b c d k ++ [legC fs a b c d k]
theorem pl_bd {A B : Int} (hA : -8000000000000 ≤ A ∧ A ≤ 8000000000000) (hB : -8000000000000 ≤ B ∧ B ≤ 8000000000000) (h : (0 < A ∧ B ≤ 0) ∨ (A ≤ 0 ∧ 0 < B)) :
    sgn A ≠ sgn B ∧ 0 ≤ plN A B ∧ plN A B ≤ plD A B ∧ 1 ≤ plD A B ∧ plD A B ≤ 100000000000000 := by
  have hs : sgn A ≠ sgn B := by
    rcases sgn_cases A with ⟨g, e⟩ | ⟨g, e⟩ | ⟨g, e⟩ <;> rcases sgn_cases B with ⟨k, f⟩ | ⟨k, f⟩ | ⟨k, f⟩ <;> rw [e, f] <;> omega
  refine ⟨hs, ?_⟩
  unfold plN plD
  rw [if_neg hs, if_neg hs]
  obtain ⟨n, hn⟩ : ∃ n, n = ab A := ⟨_, rfl⟩
  obtain ⟨m, hm⟩ : ∃ m, m = ab (A - B) := ⟨_, rfl⟩
  have b1 : 0 ≤ n ∧ n ≤ m ∧ 1 ≤ m ∧ m ≤ 16000000000000 := by
    rw [hn, hm]; unfold ab
    by_cases g : A < 0
    · rw [if_pos g]
      by_cases k : A - B < 0
      · rw [if_pos k]; omega
      · rw [if_neg k]; omega
    · rw [if_neg g]
      by_cases k : A - B < 0
      · rw [if_pos k]; omega
      · rw [if_neg k]; omega
  rw [← hn, ← hm]
  clear hn hm
  obtain ⟨n0, n1, m1, m2⟩ := b1
  have g1 : 1 ≤ gc n m := gc_pos m1
  have g2 : gc n m ≤ m := by
    unfold gc
    have := Nat.gcd_le_right n.toNat (show 0 < m.toNat by omega)
    omega
  obtain ⟨q0, q1⟩ := div_bd n0 g1
  obtain ⟨r0, r1⟩ := div_bd (show 0 ≤ m by omega) g1
  refine ⟨q0, Int.ediv_le_ediv (by omega) n1, ?_, by omega⟩
  have := Int.ediv_le_ediv (show 0 < gc n m by omega) g2
  rw [Int.ediv_self (by omega)] at this
  exact this
theorem lw_no {fs : List F3} {a b c d : Int} {k : Nat} (h : lwI fs a b c d k ≠ 0) :
    (0 < lA fs a b c d k ∧ lB fs a b c d k ≤ 0) ∨ (lA fs a b c d k ≤ 0 ∧ 0 < lB fs a b c d k) := by
  by_cases g : bhB a b c d (fx fs k).x (fx fs k).y = bhB a b c d (fx fs (k + 1)).x (fx fs (k + 1)).y
  · exact absurd (wyI_same g) h
  · unfold bhB at g
    unfold lA lB
    by_cases p : 0 < crs a b c d (fx fs k).x (fx fs k).y
    · rw [decide_eq_true p] at g
      by_cases q : 0 < crs a b c d (fx fs (k + 1)).x (fx fs (k + 1)).y
      · rw [decide_eq_true q] at g; exact absurd rfl g
      · omega
    · rw [decide_eq_false p] at g
      by_cases q : 0 < crs a b c d (fx fs (k + 1)).x (fx fs (k + 1)).y
      · omega
      · rw [decide_eq_false q] at g; exact absurd rfl g
theorem lw_sg {fs : List F3} {a b c d : Int} {k : Nat} (hv : trB fs = true) (hk : k + 1 < fs.length) (h : lwI fs a b c d k ≠ 0) : sgB (fx fs k).x (fx fs k).y (fx fs (k + 1)).x (fx fs (k + 1)).y = true := by
  obtain ⟨⟨ca, cb, cc, cd⟩, _⟩ := leg_bounds hv hk
  have hn := lw_no h
  unfold lA lB at hn
  unfold sgB ptB coB
  rw [inB_yes ca.1 ca.2, inB_yes cb.1 cb.2, inB_yes cc.1 cc.2, inB_yes cd.1 cd.2]
  by_cases e1 : (fx fs k).x = (fx fs (k + 1)).x
  · by_cases e2 : (fx fs k).y = (fx fs (k + 1)).y
    · rw [e1, e2] at hn; omega
    · rw [beq_eq_false_iff_ne.2 e2]; simp
  · rw [beq_eq_false_iff_ne.2 e1]; rfl
theorem lx_bd {fs : List F3} {a b c d : Int} {k : Nat} (hv : trB fs = true) (hk : k + 1 < fs.length) (hs : sgB a b c d = true) (h : lwI fs a b c d k ≠ 0) :
    sgn (lA fs a b c d k) ≠ sgn (lB fs a b c d k) ∧ 0 ≤ lxN fs a b c d k ∧ lxN fs a b c d k ≤ lxD fs a b c d k ∧ 1 ≤ lxD fs a b c d k ∧ lxD fs a b c d k ≤ 100000000000000 := by
  obtain ⟨⟨ca, cb, cc, cd⟩, _⟩ := leg_bounds hv hk
  obtain ⟨⟨ga, gb, gc, gd⟩, _⟩ := sgB_yes hs
  exact pl_bd (crs_bd ga gb gc gd ca cb) (crs_bd ga gb gc gd cc cd) (lw_no h)
theorem roundedUp_any (m r y : Int) (w : World) (m0 : 0 ≤ m) (m1 : m ≤ 1000000000) : Calls Tryz.prog 248 #[Fx m r y] w fun e w' => e = .returned (.int .i64 (upI m r)) ∧ Ext w w' := by
  have E1 : IntKind.i64.wrap (m + 1) = m + 1 := IntWalk.i64_in _ (by omega)
  by_cases h : 0 < r
  · have H := Lib.hid (show upI m r = m + 1 from if_pos h)
    go_enter Tryz.func248, Tryz.ntmps248
    go_wp2
    go_ret
    exact ⟨ret_int H.out, (by repeat (first | exact Ext.refl _ | assumption | apply Ext.alloc | apply Ext.drew | (refine Ext.trans ?_ (by assumption)) | (refine Ext.setNew ?_ (by simp <;> omega) _)))⟩
  · have H := Lib.hid (show upI m r = m from if_neg h)
    go_enter Tryz.func248, Tryz.ntmps248
    go_wp2
    go_ret
    exact ⟨ret_int H.out, (by repeat (first | exact Ext.refl _ | assumption | apply Ext.alloc | apply Ext.drew | (refine Ext.trans ?_ (by assumption)) | (refine Ext.setNew ?_ (by simp <;> omega) _)))⟩
def cellsC (cs : List C5) : List Value := cs.flatMap fun c => [.int .i64 c.t, .int .i64 c.l, .int .i64 c.g, .int .i64 c.x, .int .i64 c.y]
theorem cellsC_app (cs : List C5) (c : C5) : cellsC cs ++ [.int .i64 c.t, .int .i64 c.l, .int .i64 c.g, .int .i64 c.x, .int .i64 c.y] = cellsC (cs ++ [c]) := by simp [cellsC]
def cx (cs : List C5) (i : Nat) : C5 := cs.getD i ⟨0, 0, 0, 0, 0⟩
theorem cellsC_get : ∀ (cs : List C5) (i : Nat), i < cs.length → (cellsC cs)[i * 5]? = some (.int .i64 (cx cs i).t) ∧ (cellsC cs)[i * 5 + 1]? = some (.int .i64 (cx cs i).l) ∧ (cellsC cs)[i * 5 + 2]? = some (.int .i64 (cx cs i).g) ∧ (cellsC cs)[i * 5 + 3]? = some (.int .i64 (cx cs i).x) ∧ (cellsC cs)[i * 5 + 4]? = some (.int .i64 (cx cs i).y)
  | [], i, h => absurd h (by simp)
  | c :: cs, 0, _ => by simp [cellsC, cx]
  | c :: cs, i + 1, h => by
    have := cellsC_get cs i (by simpa using h)
    have e : cellsC (c :: cs) = .int .i64 c.t :: .int .i64 c.l :: .int .i64 c.g :: .int .i64 c.x :: .int .i64 c.y :: cellsC cs := by simp [cellsC]
    rw [e, show (i + 1) * 5 = i * 5 + 5 by omega]
    simpa [cx] using this
theorem crossInfo : (Tryz.prog.info? 188).map (fun i => (i.zero, i.size, i.bytes)) = some (some (Cr 0 0 0 0 0), 5, 40) := by kernel_rfl
theorem ones5 (c : C5) : ∀ u ∈ ([.int .i64 c.t, .int .i64 c.l, .int .i64 c.g, .int .i64 c.x, .int .i64 c.y] : List Value), u.oneCell' = true := by
  intro u hu
  simp at hu
  rcases hu with rfl | rfl | rfl | rfl | rfl <;> rfl
theorem crL_len (fs : List F3) (a b c d : Int) : ∀ k, (crL fs a b c d k).length ≤ k
  | 0 => Nat.le_refl _
  | k + 1 => by
    have := crL_len fs a b c d k
    unfold crL
    split
    · omega
    · simp; omega
theorem crL_same {fs : List F3} {a b c d : Int} {k : Nat} (h : lwI fs a b c d k = 0) : crL fs a b c d (k + 1) = crL fs a b c d k := if_pos h
theorem crL_more {fs : List F3} {a b c d : Int} {k : Nat} (h : lwI fs a b c d k ≠ 0) : crL fs a b c d (k + 1) = crL fs a b c d k ++ [legC fs a b c d k] := if_neg h
end Go.Proofs.YtmlojndkpnhalaaGreat.Trk
namespace Go.Proofs.YtmlojndkpnhalaaGreat.Trk
open Go.ChangeShapes Go.WideShapes Go.ChangeAt Go.RowKit Go.Shelf
open Go.Proofs.YtmlojndkpnhalaaGreat.Num Go.Proofs.YtmlojndkpnhalaaGreat.Kit Go.Proofs.YtmlojndkpnhalaaGreat.Pts Go.Proofs.YtmlojndkpnhalaaGreat.Seg Go.Proofs.YtmlojndkpnhalaaGreat.Gcd Go.Proofs.YtmlojndkpnhalaaGreat.Crs
set_option linter.unusedVariables false
set_option linter.unusedSimpArgs false
attribute [local go_sem] Oper.semAt_some
def Kp (n0 B : Nat) (W W' : World) : Prop := Below n0 W W' ∧ W'.heap[B]? = W.heap[B]? ∧ W'.heap[B + 1]? = W.heap[B + 1]?
theorem Kp.refl (n0 B : Nat) (W : World) : Kp n0 B W W := ⟨Below.refl _ _, rfl, rfl⟩
theorem Kp.trans {n0 B : Nat} {X Y Z : World} (h : Kp n0 B X Y) (k : Kp n0 B Y Z) : Kp n0 B X Z := ⟨h.1.trans k.1, k.2.1.trans h.2.1, k.2.2.trans h.2.2⟩
theorem Kp.ext {n0 B : Nat} {W W' : World} (h : Ext W W') (hn : n0 ≤ W.heap.size) (hB : B + 1 < W.heap.size) : Kp n0 B W W' :=
  ⟨Below.mono h hn, Below.block h B (by omega), Below.block h (B + 1) hB⟩
theorem kp_b {n0 B : Nat} {w : World} (hn : n0 ≤ w.heap.size) (hB : B + 1 < w.heap.size) (W : World) (l : Nat) (o o' : Obj) (hl : w.heap.size ≤ l) (h : W.heap[l]? = some o) (hc : o.isCells = false) (hw : o.isWalk = false) : Kp n0 B W (W.putObj l o') :=
  ⟨belowK_b hn W l o o' hl h hc hw, World.putObj_heap_other (by omega), World.putObj_heap_other (by omega)⟩
theorem Kp.cell0 {n0 B : Nat} {W W' : World} (h : Kp n0 B W W') {o : Nat} {v : Value} (hc : W.cell? ⟨B, o, none⟩ = some v) : W'.cell? ⟨B, o, none⟩ = some v := (World.cell?_of_block (w := W) h.2.1).trans hc
theorem Kp.cell1 {n0 B : Nat} {W W' : World} (h : Kp n0 B W W') {o : Nat} {v : Value} (hc : W.cell? ⟨B + 1, o, none⟩ = some v) : W'.cell? ⟨B + 1, o, none⟩ = some v := (World.cell?_of_block (w := W) h.2.2).trans hc
theorem ext_grown {w w' : World} (h : Ext w w') : w.grownBy w' none := ⟨Below.os h, Below.tape h, Below.output h, Below.size h, fun k hk _ => Below.block h k hk⟩
theorem crL_prefix (fs : List F3) (a b c d : Int) (j : Nat) : ∀ k, j ≤ k → crL fs a b c d j <+: crL fs a b c d k
  | 0, h => by rw [show j = 0 by omega]; exact List.prefix_refl _
  | k + 1, h => by
    by_cases e : j = k + 1
    · rw [e]; exact List.prefix_refl _
    · have h1 := crL_prefix fs a b c d j k (by omega)
      by_cases g : lwI fs a b c d k = 0
      · rw [crL_same g]; exact h1
      · rw [crL_more g]; exact h1.trans (List.prefix_append _ _)
theorem cp_yes {a b c d p q u v : Int} (h1 : sgB a b c d = true) (h2 : sgB p q u v = true) : cpN a b c d p q u v = plN (crs p q u v a b) (crs p q u v c d) ∧ cpD a b c d p q u v = plD (crs p q u v a b) (crs p q u v c d) :=
  ⟨if_pos ⟨h1, h2⟩, if_pos ⟨h1, h2⟩⟩
set_option maxRecDepth 100000 in
set_option maxHeartbeats 2000000 in
theorem crossings1_in (n : Nat) (hn : 1 ≤ n) (l B : Nat) (w0 : World) (a0 : Option Addr) (cap : Nat) (fs : List F3) (a b c d : Int) (hf : Fxs w0 a0 fs) (hv : trB fs = true) (hs : sgB a b c d = true) (J Jx : List C5 → World → Prop)
    (hY : ∀ pre x W, J pre W → pre.length < 39 → YieldAt Fence.wide (n - 1) Tryz.prog l #[CrV x] W fun e W' =>
      (e = .returned (.bool true) ∧ J (pre ++ [x]) W' ∧ Kp w0.heap.size B W W') ∨ (e = .returned (.bool false) ∧ Jx (pre ++ [x]) W'))
    (W : World) (hJ : AbidesFrom W.heap.size J) (hx : Ext w0 W) (hB : w0.heap.size ≤ B) (hB2 : B + 1 < W.heap.size)
    (c0 : W.cell? ⟨B, 0, none⟩ = some (.slice a0 fs.length cap)) (c1 : W.cell? ⟨B + 1, 0, none⟩ = some (.int .i64 a)) (c2 : W.cell? ⟨B + 1, 1, none⟩ = some (.int .i64 b))
    (c3 : W.cell? ⟨B + 1, 2, none⟩ = some (.int .i64 c)) (c4 : W.cell? ⟨B + 1, 3, none⟩ = some (.int .i64 d)) (h0 : J [] W) :
    CallsIn Fence.wide n Tryz.prog 244 #[.func (.yield l) #[] #[], .pointer (some ⟨B, 0, none⟩), .pointer (some ⟨B + 1, 0, none⟩)] W fun e W' => (∃ v, e = .returned v) ∧
      ((∃ ys, ys = crL fs a b c d (fs.length - 1) ∧ J ys W') ∨ (∃ pre, pre <+: crL fs a b c d (fs.length - 1) ∧ Jx pre W')) := by
  obtain ⟨⟨h2, h40⟩, _⟩ := trB_yes hv
  have HF := Lib.hid hf
  have HY := Lib.hid hY
  have HJ := Lib.hid hJ
  clear hf hY hJ
  refine callsIn_of_wp Tryz.func244 rfl trivial ?_ rfl
  simp only [Tryz.ntmps244, List.size_toArray, List.length_cons, List.length_nil, Nat.reduceAdd, Nat.reduceSub, Array.replicate_succ, Array.replicate_zero, List.push_toArray, List.append_toArray, List.nil_append, List.cons_append]
  gi_wp2_with (refine ⟨trivial, ?_⟩; gi_at_call 148; refine (callsIn_wide.2 (legCount_any _ _ _ _ (by omega) (by omega))).mono ?_; rintro e w1 ⟨rfl, hx1⟩)
  gi_loopw [12] (fun i wr => ∃ k : Nat, k ≤ fs.length - 1 ∧ i = .int .i64 k ∧ J (crL fs a b c d k) wr ∧ Kp w0.heap.size B W wr)
    (fun i _ => fs.length - (intOf i).toNat)
  case atStart => exact ⟨0, Nat.zero_le _, rfl, HJ.out _ _ _ none h0 (ext_grown hx1) (fun r e => by cases e), Kp.ext hx1 hx.size hB2⟩
  case round =>
    obtain ⟨k, hk, rfl, hJs, hkp⟩ := hrel
    by_cases hlt : k < fs.length - 1
    · replace c0 := hkp.cell0 c0
      replace c1 := hkp.cell1 c1
      replace c2 := hkp.cell1 c2
      replace c3 := hkp.cell1 c3
      replace c4 := hkp.cell1 c4
      have hx0 : Ext w0 wr := Below.trans hx hkp.1
      have i1 : (k : Int) < ((fs.length - 1 : Nat) : Int) := by omega
      have hk1 : k + 1 < fs.length := by omega
      obtain ⟨⟨la, lb, lc, ld⟩, _⟩ := leg_bounds hv hk1
      obtain ⟨⟨ga, gb, gc, gd⟩, _⟩ := sgB_yes hs
      have HW := Lib.hid (fun w' => wayOf_any a b c d (fx fs k).x (fx fs k).y (fx fs (k + 1)).x (fx fs (k + 1)).y w' ga gb gc gd la lb lc ld)
      have HZ := Lib.hid hx0
      have zz := hx0.size
      have zB : B + 1 < wr.heap.size := Nat.lt_of_lt_of_le hB2 hkp.1.size
      clear hx0
      by_cases hz : lwI fs a b c d k = 0
      · have HN := Lib.hid (show wyI a b c d (fx fs k).x (fx fs k).y (fx fs (k + 1)).x (fx fs (k + 1)).y = 0 from hz)
        gi_wp2_with first
          | (refine ⟨trivial, ?_⟩; gi_at_call 150; refine (callsIn_wide.2 (leg_any _ _ _ _ _ (HF.out.ext HZ.out) (by omega) (by omega))).mono ?_; rintro e w2 ⟨rfl, hx2⟩; have hx3 := hx2.alloc (.cells #[.int .i64 (fx fs k).x, .int .i64 (fx fs k).y, .int .i64 (fx fs (k + 1)).x, .int .i64 (fx fs (k + 1)).y] 225); replace c1 := hx3.cellOf c1; replace c2 := hx3.cellOf c2; replace c3 := hx3.cellOf c3; replace c4 := hx3.cellOf c4)
          | (refine ⟨trivial, ?_⟩; gi_at_call 245; refine (callsIn_wide.2 (HW.out _)).mono ?_; rintro e w3 ⟨rfl, hx4⟩; rw [HN.out]; replace hx3 := hx3.trans hx4; clear hx4)
        go_roundw
        case rel => exact ⟨k + 1, by omega, by go_num, by rw [crL_same hz]; exact HJ.out _ _ _ none hJs (ext_grown hx3) (fun r e => by cases e), hkp.trans (Kp.ext hx3 zz zB)⟩
        case measure => simp [intOf]; omega
      · obtain ⟨_, b1, b2, b3, b4⟩ := lx_bd hv hk1 hs hz
        have hm := mom_bd hv hk1 b1 b2 b3
        have HN := Lib.hid hz
        have hz2 : ¬ wyI a b c d (fx fs k).x (fx fs k).y (fx fs (k + 1)).x (fx fs (k + 1)).y = 0 := hz
        have HP : Hid (∀ w', Calls Tryz.prog 246 #[Sg (fx fs k).x (fx fs k).y (fx fs (k + 1)).x (fx fs (k + 1)).y, Sg a b c d] w' fun e w'' => e = .returned (.tuple #[Pt (lxN fs a b c d k) (lxD fs a b c d k), .int .i64 (cpC (fx fs k).x (fx fs k).y (fx fs (k + 1)).x (fx fs (k + 1)).y a b c d)]) ∧ Ext w' w'') := Lib.hid (fun w' => by
          have h := crossingPlace_impl (fx fs k).x (fx fs k).y (fx fs (k + 1)).x (fx fs (k + 1)).y a b c d w'
          obtain ⟨e1, e2⟩ := cp_yes (lw_sg hv hk1 hz) hs
          rw [e1, e2] at h
          exact h)
        have HM := Lib.hid (fun w' (h : Ext w0 w') => momentAt_any a0 cap fs k (lxN fs a b c d k) (lxD fs a b c d k) w' (HF.out.ext h) hk1 hv b1 b2 b3 b4)
        have HR := Lib.hid (fun w' => roundedUp_any (mwI fs k (lxN fs a b c d k) (lxD fs a b c d k)) (mrI fs k (lxN fs a b c d k) (lxD fs a b c d k)) (lxD fs a b c d k) w' (by unfold mwI; omega) (by unfold mwI; omega))
        clear hz b1 b2 b3 b4 hm
        gi_wp2_with first
          | (refine ⟨trivial, ?_⟩; gi_at_call 150; refine (callsIn_wide.2 (leg_any _ _ _ _ _ (HF.out.ext HZ.out) (by omega) (by omega))).mono ?_; rintro e w2 ⟨rfl, hx2⟩; have hx3 := hx2.alloc (.cells #[.int .i64 (fx fs k).x, .int .i64 (fx fs k).y, .int .i64 (fx fs (k + 1)).x, .int .i64 (fx fs (k + 1)).y] 225); replace c0 := hx3.cellOf c0; replace c1 := hx3.cellOf c1; replace c2 := hx3.cellOf c2; replace c3 := hx3.cellOf c3; replace c4 := hx3.cellOf c4
             have s0 : (w2.alloc (.cells #[.int .i64 (fx fs k).x, .int .i64 (fx fs k).y, .int .i64 (fx fs (k + 1)).x, .int .i64 (fx fs (k + 1)).y] 225)).cell? ⟨w2.heap.size, 0, none⟩ = some (.int .i64 (fx fs k).x) := boxed 0 rfl rfl
             have s1 : (w2.alloc (.cells #[.int .i64 (fx fs k).x, .int .i64 (fx fs k).y, .int .i64 (fx fs (k + 1)).x, .int .i64 (fx fs (k + 1)).y] 225)).cell? ⟨w2.heap.size, 1, none⟩ = some (.int .i64 (fx fs k).y) := boxed 1 rfl rfl
             have s2 : (w2.alloc (.cells #[.int .i64 (fx fs k).x, .int .i64 (fx fs k).y, .int .i64 (fx fs (k + 1)).x, .int .i64 (fx fs (k + 1)).y] 225)).cell? ⟨w2.heap.size, 2, none⟩ = some (.int .i64 (fx fs (k + 1)).x) := boxed 2 rfl rfl
             have s3 : (w2.alloc (.cells #[.int .i64 (fx fs k).x, .int .i64 (fx fs k).y, .int .i64 (fx fs (k + 1)).x, .int .i64 (fx fs (k + 1)).y] 225)).cell? ⟨w2.heap.size, 3, none⟩ = some (.int .i64 (fx fs (k + 1)).y) := boxed 3 rfl rfl)
          | (refine ⟨trivial, ?_⟩; gi_at_call 245; refine (callsIn_wide.2 (HW.out _)).mono ?_; rintro e w3 ⟨rfl, hx4⟩; replace hx3 := hx3.trans hx4; replace c0 := hx4.cellOf c0; replace c1 := hx4.cellOf c1; replace c2 := hx4.cellOf c2; replace c3 := hx4.cellOf c3; replace c4 := hx4.cellOf c4; replace s0 := hx4.cellOf s0; replace s1 := hx4.cellOf s1; replace s2 := hx4.cellOf s2; replace s3 := hx4.cellOf s3; clear hx4)
          | (refine ⟨trivial, ?_⟩; gi_at_call 246; refine (callsIn_wide.2 (HP.out _)).mono ?_; rintro e w4 ⟨rfl, hx4⟩; replace hx4 := hx4.alloc (.cells #[.int .i64 (lxN fs a b c d k), .int .i64 (lxD fs a b c d k)] 186); replace hx3 := hx3.trans hx4; replace c0 := hx4.cellOf c0; clear hx4 c1 c2 c3 c4 s0 s1 s2 s3
             have r0 : (w4.alloc (.cells #[.int .i64 (lxN fs a b c d k), .int .i64 (lxD fs a b c d k)] 186)).cell? ⟨w4.heap.size, 0, none⟩ = some (.int .i64 (lxN fs a b c d k)) := boxed 0 rfl rfl
             have r1 : (w4.alloc (.cells #[.int .i64 (lxN fs a b c d k), .int .i64 (lxD fs a b c d k)] 186)).cell? ⟨w4.heap.size, 1, none⟩ = some (.int .i64 (lxD fs a b c d k)) := boxed 1 rfl rfl)
          | (refine ⟨trivial, ?_⟩; gi_at_call 247; refine (callsIn_wide.2 (HM.out _ (HZ.out.trans hx3))).mono ?_; rintro e w5 ⟨rfl, hx4⟩; replace hx3 := hx3.trans hx4; replace r0 := hx4.cellOf r0; replace r1 := hx4.cellOf r1; clear hx4 c0)
          | (refine ⟨trivial, ?_⟩; gi_at_call 248; refine (callsIn_wide.2 (HR.out _)).mono ?_; rintro e w6 ⟨rfl, hx4⟩; replace hx3 := hx3.trans hx4; replace r0 := hx4.cellOf r0; replace r1 := hx4.cellOf r1; clear hx4
             obtain ⟨fn, tmps, assign, body, hy, hR⟩ := HY.out (crL fs a b c d k) (legC fs a b c d k) w6 (HJ.out _ _ _ none hJs (ext_grown hx3) (fun r e => by cases e)) (Nat.lt_of_le_of_lt (crL_len fs a b c d k) (by omega))
             dsimp only [legC, lwI] at hy)
        refine hR.mono ?_
        rintro e W3 (⟨rfl, hJ3, hk3⟩ | ⟨rfl, hJx3⟩)
        · gi_wp2
          go_roundw
          case rel => exact ⟨k + 1, by omega, by go_num, by rw [crL_more HN.out]; exact hJ3, (hkp.trans (Kp.ext hx3 zz zB)).trans hk3⟩
          case measure => simp [intOf]; omega
        · gi_wp2
          refine bodyPost_ret (results_none rfl _ _ _) rfl ?_
          exact ⟨⟨_, rfl⟩, .inr ⟨crL fs a b c d k ++ [legC fs a b c d k], by rw [← crL_more HN.out]; exact crL_prefix _ _ _ _ _ _ _ (by omega), hJx3⟩⟩
    · obtain rfl : k = fs.length - 1 := by omega
      gi_wp2
      go_end0
      exact ⟨⟨_, rfl⟩, .inl ⟨_, rfl, hJs⟩⟩
end Go.Proofs.YtmlojndkpnhalaaGreat.Trk
namespace Go.Proofs.YtmlojndkpnhalaaGreat.Trk
open Go.ChangeShapes Go.WideShapes Go.ChangeAt Go.RowKit Go.Shelf
open Go.Proofs.YtmlojndkpnhalaaGreat.Num Go.Proofs.YtmlojndkpnhalaaGreat.Kit Go.Proofs.YtmlojndkpnhalaaGreat.Pts Go.Proofs.YtmlojndkpnhalaaGreat.Seg Go.Proofs.YtmlojndkpnhalaaGreat.Gcd Go.Proofs.YtmlojndkpnhalaaGreat.Crs
set_option linter.unusedVariables false
set_option linter.unusedSimpArgs false
attribute [local go_sem] Oper.semAt_some
theorem crossings_any (sl : Value) (a b c d : Int) (w : World) :
    Calls Tryz.prog 198 #[Tr sl, Sg a b c d] w fun e w' => e = .returned (.func (.func 244) #[] #[.pointer (some ⟨w.heap.size, 0, none⟩), .pointer (some ⟨w.heap.size + 1, 0, none⟩)]) ∧
      w' = (w.alloc (.cells #[sl] 33)).alloc (.cells #[.int .i64 a, .int .i64 b, .int .i64 c, .int .i64 d] 27) := by
  go_enter Tryz.func198, Tryz.ntmps198
  go_wp2
  go_ret
  exact ⟨rfl, rfl⟩
theorem crossings_stops (n : Nat) (hn : 1 ≤ n) (B : Nat) (w0 : World) (a0 : Option Addr) (cap : Nat) (fs : List F3) (a b c d : Int) (hf : Fxs w0 a0 fs) (hv : trB fs = true) (hs : sgB a b c d = true)
    (w : World) (hx : Ext w0 w) (hB : w0.heap.size ≤ B) (hB2 : B + 1 < w.heap.size)
    (c0 : w.cell? ⟨B, 0, none⟩ = some (.slice a0 fs.length cap)) (c1 : w.cell? ⟨B + 1, 0, none⟩ = some (.int .i64 a)) (c2 : w.cell? ⟨B + 1, 1, none⟩ = some (.int .i64 b))
    (c3 : w.cell? ⟨B + 1, 2, none⟩ = some (.int .i64 c)) (c4 : w.cell? ⟨B + 1, 3, none⟩ = some (.int .i64 d)) :
    SeqStopsK Fence.wide n Tryz.prog 244 #[.pointer (some ⟨B, 0, none⟩), .pointer (some ⟨B + 1, 0, none⟩)] (fun x : C5 => #[CrV x]) (Kp w0.heap.size B)
      (fun ys => ys = crL fs a b c d (fs.length - 1)) (fun pre => pre <+: crL fs a b c d (fs.length - 1)) 39 w := fun l J Jx W hW hJ _ hY h0 => by
  have hW' : Ext w W := hW
  exact crossings1_in n hn l B w0 a0 cap fs a b c d hf hv hs J Jx hY W hJ (hx.trans hW') hB (Nat.lt_of_lt_of_le hB2 hW'.size)
    (hW'.cellOf c0) (hW'.cellOf c1) (hW'.cellOf c2) (hW'.cellOf c3) (hW'.cellOf c4) h0
def VC (W : World) (Bx : Nat) (c : C5) : Prop := ∀ i v, ([.int .i64 c.t, .int .i64 c.l, .int .i64 c.g, .int .i64 c.x, .int .i64 c.y] : List Value)[i]? = some v → W.cell? ⟨Bx, i, none⟩ = some v
theorem VC.new (W : World) (c : C5) (t : TypeId) : VC (W.alloc (.cells #[.int .i64 c.t, .int .i64 c.l, .int .i64 c.g, .int .i64 c.x, .int .i64 c.y] t)) W.heap.size c := fun i v h => boxed i (by simpa using h) rfl
theorem Kp.set {n0 B F : Nat} (W : World) (v : Value) (h0 : n0 ≤ F) (h1 : B ≠ F) (h2 : B + 1 ≠ F) : Kp n0 B W (W.setCell ⟨F, 0, none⟩ v) :=
  ⟨(Below.refl n0 W).setCell (p := ⟨F, 0, none⟩) h0 _, Below.heap_setCell W ⟨F, 0, none⟩ v B h1, Below.heap_setCell W ⟨F, 0, none⟩ v (B + 1) h2⟩
end Go.Proofs.YtmlojndkpnhalaaGreat.Trk
namespace Go.Proofs.YtmlojndkpnhalaaGreat.Trk
open Go.ChangeShapes Go.WideShapes Go.ChangeAt Go.RowKit Go.Shelf
open Go.Proofs.YtmlojndkpnhalaaGreat.Num Go.Proofs.YtmlojndkpnhalaaGreat.Kit Go.Proofs.YtmlojndkpnhalaaGreat.Pts Go.Proofs.YtmlojndkpnhalaaGreat.Seg Go.Proofs.YtmlojndkpnhalaaGreat.Gcd Go.Proofs.YtmlojndkpnhalaaGreat.Crs
set_option linter.unusedVariables false
set_option linter.unusedSimpArgs false
attribute [local go_sem] Oper.semAt_some
theorem box_own {β : Type} (n : Nat) (f : β → List Value) : Go.Own (fun s W => Box W n (f s)) := fun s A B row hs hg hr i v hv => ⟨cell_kept (hs i v hv).1 hg hr, (frozen_kept (hs i v hv).1 hg hr).trans (hs i v hv).2⟩
def isC (g f : Int) (c : C5) : Bool := c.g == g && decide (c.t ≥ f)
def fcO (cs : List C5) (g f : Int) : Option C5 := cs.find? (isC g f)
def fcV (cs : List C5) (g f : Int) : C5 := (fcO cs g f).getD ⟨0, 0, 0, 0, 0⟩
def fcC (cs : List C5) (g f : Int) : Int := if (fcO cs g f).isSome then 0 else 4
theorem fc_no {cs : List C5} {g f : Int} (h : ∀ c ∈ cs, isC g f c = false) : fcV cs g f = ⟨0, 0, 0, 0, 0⟩ ∧ fcC cs g f = 4 := by
  have e : fcO cs g f = none := List.find?_eq_none.2 (fun c hc => by rw [h c hc]; simp)
  unfold fcV fcC
  rw [e]; exact ⟨rfl, rfl⟩
theorem fc_yes {cs ini : List C5} {c : C5} {g f : Int} (h : ∀ c ∈ ini, isC g f c = false) (hc : isC g f c = true) (hp : ini ++ [c] <+: cs) : fcV cs g f = c ∧ fcC cs g f = 0 := by
  obtain ⟨r, rfl⟩ := hp
  have e : fcO (ini ++ [c] ++ r) g f = some c := by
    unfold fcO
    rw [List.append_assoc, List.find?_append, List.find?_eq_none.2 (fun c hc => by rw [h c hc]; simp)]
    simp [hc]
  unfold fcV fcC
  rw [e]; exact ⟨rfl, rfl⟩
abbrev CL (c : C5) : List Value := [.int .i64 c.t, .int .i64 c.l, .int .i64 c.g, .int .i64 c.x, .int .i64 c.y]
set_option maxRecDepth 100000 in
set_option maxHeartbeats 2000000 in
theorem first_fwd (a0 : Option Addr) (cap : Nat) (fs : List F3) (a b c d f : Int) (w : World) (hf : Fxs w a0 fs) (hv : trB fs = true) (hs : sgB a b c d = true) :
    Calls Tryz.prog 124 #[Tr (.slice a0 fs.length cap), Sg a b c d, .int .i64 1, .int .i64 f] w fun e w' => e = .returned (.tuple #[CrV (fcV (crL fs a b c d (fs.length - 1)) 1 f), .int .i64 (fcC (crL fs a b c d (fs.length - 1)) 1 f)]) ∧ Ext w w' := by
  have HF := Lib.hid hf
  clear hf
  refine (callsIn_wide (n := 5)).1 ?_
  refine callsIn_of_wp_marks Tryz.func124 rfl trivial ?_ rfl
  simp only [Tryz.ntmps124, List.size_toArray, List.length_cons, List.length_nil, Nat.reduceAdd, Nat.reduceSub, Array.replicate_succ, Array.replicate_zero, List.push_toArray, List.append_toArray, List.nil_append, List.cons_append]
  obtain ⟨W0, hW0⟩ : ∃ W0, W0 = (((((w.alloc (.cells #[.slice a0 fs.length cap] 33)).alloc (.cells #[.int .i64 a, .int .i64 b, .int .i64 c, .int .i64 d] 27)).alloc (.cells #[.int .i64 1] 2)).alloc (.cells #[.int .i64 f] 2)).alloc (.cells #[.int .i64 0, .int .i64 0, .int .i64 0, .int .i64 0, .int .i64 0] 188)).alloc (.cells #[.int .i64 0] 2) := ⟨_, rfl⟩
  have hX : Ext w W0 := hW0 ▸ ((((((Ext.refl w).alloc _).alloc _).alloc _).alloc _).alloc _).alloc _
  have c0 : W0.cell? ⟨w.heap.size, 0, none⟩ = some (.slice a0 fs.length cap) := by rw [hW0]; exact ((((((Ext.refl _).alloc _).alloc _).alloc _).alloc _).alloc _).cellOf (boxed 0 rfl rfl)
  have cl : ∀ i v, (#[.int .i64 a, .int .i64 b, .int .i64 c, .int .i64 d] : Array Value)[i]? = some v → W0.cell? ⟨w.heap.size + 1, i, none⟩ = some v := fun i v hv => by rw [hW0]; exact (((((Ext.refl _).alloc _).alloc _).alloc _).alloc _).cellOf (boxed i hv (by simp))
  have c1 : W0.cell? ⟨w.heap.size + 1, 0, none⟩ = some (.int .i64 a) := cl 0 _ rfl
  have c2 : W0.cell? ⟨w.heap.size + 1, 1, none⟩ = some (.int .i64 b) := cl 1 _ rfl
  have c3 : W0.cell? ⟨w.heap.size + 1, 2, none⟩ = some (.int .i64 c) := cl 2 _ rfl
  have c4 : W0.cell? ⟨w.heap.size + 1, 3, none⟩ = some (.int .i64 d) := cl 3 _ rfl
  have cg : W0.cell? ⟨w.heap.size + 1 + 1, 0, none⟩ = some (.int .i64 1) := by rw [hW0]; exact ((((Ext.refl _).alloc _).alloc _).alloc _).cellOf (boxed 0 rfl (by simp))
  have cf : W0.cell? ⟨w.heap.size + 1 + 1 + 1, 0, none⟩ = some (.int .i64 f) := by rw [hW0]; exact (((Ext.refl _).alloc _).alloc _).cellOf (boxed 0 rfl (by simp))
  have bR : Box W0 (w.heap.size + 1 + 1 + 1 + 1) (CL ⟨0, 0, 0, 0, 0⟩) := by rw [hW0]; exact (Box.new5 (by simp)).alloc _
  have bC : Box W0 (w.heap.size + 1 + 1 + 1 + 1 + 1) [.int .i64 0] := by rw [hW0]; exact Box.new (by simp)
  have hs0 : W0.heap.size = w.heap.size + 6 := by rw [hW0]; simp
  clear cl
  gi_wp2_with fail
  all_goals (try rw [← hW0])
  clear hW0
  gi_wp2_with first
    | (refine ⟨trivial, ?_⟩; gi_at_call 164; refine (callsIn_wide.2 (trackValid_any _ _ _ _ (HF.out.ext hX))).mono ?_; rintro e w1 ⟨rfl, hx1⟩; rw [hv]; replace hX := hX.trans hx1; replace c0 := hx1.cellOf c0; replace c1 := hx1.cellOf c1; replace c2 := hx1.cellOf c2; replace c3 := hx1.cellOf c3; replace c4 := hx1.cellOf c4; replace cg := hx1.cellOf cg; replace cf := hx1.cellOf cf; replace bR := bR.ext hx1; replace bC := bC.ext hx1; have hs1 := hx1.size; clear hx1)
    | (refine ⟨trivial, ?_⟩; gi_at_call 122; refine (callsIn_wide.2 (lineValid_any _ _ _ _ _)).mono ?_; rintro e w2 ⟨rfl, hx1⟩; rw [hs]; replace hX := hX.trans hx1; replace c0 := hx1.cellOf c0; replace c1 := hx1.cellOf c1; replace c2 := hx1.cellOf c2; replace c3 := hx1.cellOf c3; replace c4 := hx1.cellOf c4; replace cg := hx1.cellOf cg; replace cf := hx1.cellOf cf; replace bR := bR.ext hx1; replace bC := bC.ext hx1; have hs2 := Nat.le_trans hs1 hx1.size; clear hx1)
    | (refine ⟨trivial, ?_⟩; gi_at_call 198; refine (callsIn_wide.2 (crossings_any _ _ _ _ _ _)).mono ?_; rintro e w3 ⟨rfl, rfl⟩)
  have hsw := hX.size
  have WB : ∀ w', w' = (w2.alloc (.cells #[.slice a0 fs.length cap] 33)).alloc (.cells #[.int .i64 a, .int .i64 b, .int .i64 c, .int .i64 d] 27) → Ext w2 w' := fun w' h => h ▸ ((Ext.refl w2).alloc _).alloc _
  have k0 : ((w2.alloc (.cells #[.slice a0 fs.length cap] 33)).alloc (.cells #[.int .i64 a, .int .i64 b, .int .i64 c, .int .i64 d] 27)).cell? ⟨w2.heap.size, 0, none⟩ = some (.slice a0 fs.length cap) := ((Ext.refl _).alloc _).cellOf (boxed 0 rfl rfl)
  have k1 : ∀ i v, (#[.int .i64 a, .int .i64 b, .int .i64 c, .int .i64 d] : Array Value)[i]? = some v → ((w2.alloc (.cells #[.slice a0 fs.length cap] 33)).alloc (.cells #[.int .i64 a, .int .i64 b, .int .i64 c, .int .i64 d] 27)).cell? ⟨w2.heap.size + 1, i, none⟩ = some v := fun i v hv => boxed i hv (by simp)
  have hsz : ((w2.alloc (.cells #[.slice a0 fs.length cap] 33)).alloc (.cells #[.int .i64 a, .int .i64 b, .int .i64 c, .int .i64 d] 27)).heap.size = w2.heap.size + 2 := by simp
  obtain ⟨WL, hWL⟩ : ∃ WL, (w2.alloc (.cells #[.slice a0 fs.length cap] 33)).alloc (.cells #[.int .i64 a, .int .i64 b, .int .i64 c, .int .i64 d] 27) = WL := ⟨_, rfl⟩
  have hx9 := WB WL hWL.symm
  rw [hWL] at k0 k1 hsz ⊢
  replace bR := bR.ext hx9
  replace bC := bC.ext hx9
  replace cg := hx9.cellOf cg
  replace cf := hx9.cellOf cf
  replace hX := hX.trans hx9
  clear hWL WB hx9 c0 c1 c2 c3 c4
  refine wpIn_rangeFunc_ownH rfl (by omega) (gf := 244) (lb := #[.pointer (some ⟨w2.heap.size, 0, none⟩), .pointer (some ⟨w2.heap.size + 1, 0, none⟩)]) rfl trivial (enters_of Tryz.func244 (by kernel_rfl) rfl)
    (crossings_stops (5 - 1) (by omega) w2.heap.size w a0 cap fs a b c d HF.out hv hs WL hX (by omega) (by omega) k0 (k1 0 _ rfl) (k1 1 _ rfl) (k1 2 _ rfl) (k1 3 _ rfl)) (fun h k => h.trans k) (kp_b (by omega) (by omega)) (Below.refl _ _) (fun _ => rfl)
    (fun pre W => ((((Box W (w.heap.size + 1 + 1 + 1 + 1) (CL ⟨0, 0, 0, 0, 0⟩) ∧ Box W (w.heap.size + 1 + 1 + 1 + 1 + 1) [.int .i64 0]) ∧ (∀ c ∈ pre, isC 1 f c = false)) ∧ (W.cell? ⟨w.heap.size + 1 + 1, 0, none⟩ = some (.int .i64 1) ∧ W.cell? ⟨w.heap.size + 1 + 1 + 1, 0, none⟩ = some (.int .i64 f))) ∧ w2.heap.size + 2 ≤ W.heap.size) ∧ Below w.heap.size w W)
    (fun co pre W => (co = .ret ∧ ∃ ini last, pre = ini ++ [last] ∧ (∀ c ∈ ini, isC 1 f c = false) ∧ isC 1 f last = true ∧ Box W (w.heap.size + 1 + 1 + 1 + 1) (CL last) ∧ Box W (w.heap.size + 1 + 1 + 1 + 1 + 1) [.int .i64 0]) ∧ Below w.heap.size w W)
    (OwnFrom.and (OwnFrom.and (OwnFrom.and (OwnFrom.and (OwnFrom.and (Own.from (box_own _ _) _) (Own.from (box_own _ _) _)) (ownFrom_pure _ _)) (fun _ _ _ _ hs hg hr => ⟨cell_kept hs.1 hg (fun r e => (hr r e).2), cell_kept hs.2 hg (fun r e => (hr r e).2)⟩)) (fun _ _ _ _ hs hg _ => Nat.le_trans hs hg.size)) (ownFrom_below (Nat.le_refl _) (by omega)))
    (fun co => OwnFrom.and (fun _ _ _ _ hs hg hr => by
      obtain ⟨h1, ini, last, h2, h3, h4, h5, h6⟩ := hs
      exact ⟨h1, ini, last, h2, h3, h4, box_own (β := Unit) _ (fun _ => CL last) () _ _ _ h5 hg (fun r e => (hr r e).2), box_own (β := Unit) _ (fun _ => [.int .i64 0]) () _ _ _ h6 hg (fun r e => (hr r e).2)⟩) (ownFrom_below (Nat.le_refl _) (by omega)))
    ⟨⟨⟨⟨⟨bR, bC⟩, by simp⟩, cg, cf⟩, by omega⟩, hX⟩
    (fun x a' W => ∃ Bx, w2.heap.size + 1 < Bx ∧ VC W Bx x ∧ a' = { tmps := #[Tr (.slice a0 fs.length cap), Sg a b c d, .int .i64 1, .int .i64 f, .pointer (some ⟨w.heap.size, 0, none⟩), .pointer (some ⟨w.heap.size + 1, 0, none⟩), .pointer (some ⟨w.heap.size + 1 + 1, 0, none⟩), .pointer (some ⟨w.heap.size + 1 + 1 + 1, 0, none⟩),
      .pointer (some ⟨w.heap.size + 1 + 1 + 1 + 1, 0, none⟩), .pointer (some ⟨w.heap.size + 1 + 1 + 1 + 1 + 1, 0, none⟩), .pointer (some ⟨Bx, 0, none⟩), .agg #[.slice a0 fs.length cap], .bool true, .bool false, .bool false, Sg a b c d, .bool true, .bool false, .bool false, undef, .int .i64 1, .bool false, .bool false, undef, undef, .bool false, undef,
      .agg #[.slice a0 fs.length cap], Sg a b c d, .func (.func 244) #[] #[.pointer (some ⟨w2.heap.size, 0, none⟩), .pointer (some ⟨w2.heap.size + 1, 0, none⟩)], CrV x, undef, undef, undef, undef, undef, undef, undef, undef, undef, undef, undef, undef], defers := [] })
    (fun x a' _ X Y row hs hg hr => by obtain ⟨Bx, h1, h2, h3⟩ := hs; exact ⟨Bx, h1, fun i v hv => cell_kept (h2 i v hv) hg (fun r e => (hr r e).2), h3⟩)
    ?assign ?body ?done ?stop
  case assign =>
    rintro l pre x W K ⟨⟨⟨⟨⟨b1, b2⟩, hp⟩, g1, g2⟩, hsz1⟩, hB1⟩ hK
    gi_wp2
    exact hK _ _ ((KeepsOthers.alloc _ _).from _) (Kp.ext ((Ext.refl W).alloc _) hB1.size (by omega)) ⟨⟨⟨⟨⟨b1.alloc _, b2.alloc _⟩, hp⟩, ((Ext.refl _).alloc _).cellOf g1, ((Ext.refl _).alloc _).cellOf g2⟩, by simp; omega⟩, hB1.alloc hB1.size _⟩ ⟨W.heap.size, by omega, VC.new W x _, rfl⟩
  case body =>
    rintro l pre x a' W hl ⟨r, hr⟩ ⟨⟨⟨⟨⟨b1, b2⟩, hp⟩, g1, g2⟩, hsz1⟩, hB1⟩ ⟨Bx, hBx, bX, rfl⟩ hlt
    have v0 := bX 0 _ rfl
    have v1 := bX 1 _ rfl
    have v2 := bX 2 _ rfl
    have v3 := bX 3 _ rfl
    have v4 := bX 4 _ rfl
    have b1' := b1
    have b2' := b2
    obtain ⟨⟨r0, r1, r2, r3, r4⟩, s0, s1, s2, s3, s4⟩ := b1.five
    have q0 := (b2 0 _ rfl).1
    have q1 := (b2 0 _ rfl).2
    clear b1 b2
    have KF : ∀ {B : Nat} (X : World) (p : Addr) (v : Value), KeepsFrom B W X → KeepsFrom B W (X.setCell p v) := fun X p v h => h.trans ((KeepsOthers.setCell _ _ _).from _)
    have KB : ∀ (X : World) (B o : Nat) (v : Value), w.heap.size ≤ B → Below w.heap.size w X → Below w.heap.size w (X.setCell ⟨B, o, none⟩ v) := fun X B o v h1 h2 => h2.setCell (p := ⟨B, o, none⟩) h1 v
    by_cases hx : isC 1 f x = true
    · have hx' := hx
      unfold isC at hx'
      rw [Bool.and_eq_true] at hx'
      obtain ⟨x1, x2⟩ := hx'
      gi_wp2
      exact ⟨KF _ _ _ (KF _ _ _ (KF _ _ _ (KF _ _ _ (KF _ _ _ (KF _ _ _ (KeepsFrom.refl _ _)))))), ⟨rfl, pre, x, rfl, hp, hx, (b1'.set5).away (by simp) _, ((((((b2'.away (by simp) _).away (by simp) _).away (by simp) _).away (by simp) _).away (by simp) _).set 0 (by simp) _)⟩, KB _ _ _ _ (by omega) (KB _ _ _ _ (by omega) (KB _ _ _ _ (by omega) (KB _ _ _ _ (by omega) (KB _ _ _ _ (by omega) (KB _ _ _ _ (by omega) hB1)))))⟩
    · have hx2 : isC 1 f x = false := by simpa using hx
      have hp2 : ∀ c ∈ pre ++ [x], isC 1 f c = false := fun c hc => (List.mem_append.1 hc).elim (hp c) (fun e => by simp at e; subst e; exact hx2)
      have hx' := hx2
      unfold isC at hx'
      cases x1 : (x.g == 1)
      · gi_wp2
        exact ⟨KeepsFrom.refl _ _, Kp.refl _ _ _, ⟨⟨⟨⟨b1', b2'⟩, hp2⟩, g1, g2⟩, hsz1⟩, hB1⟩
      · rw [x1, Bool.true_and] at hx'
        gi_wp2
        exact ⟨KeepsFrom.refl _ _, Kp.refl _ _ _, ⟨⟨⟨⟨b1', b2'⟩, hp2⟩, g1, g2⟩, hsz1⟩, hB1⟩
  case done =>
    rintro D ys W hD rfl ⟨⟨⟨⟨⟨b1, b2⟩, hp⟩, g1, g2⟩, hsz1⟩, hB1⟩ hK
    obtain ⟨hV, hC⟩ := fc_no hp
    have b1' := b1
    have b2' := b2
    obtain ⟨⟨r0, r1, r2, r3, r4⟩, s0, s1, s2, s3, s4⟩ := b1.five
    have q0 := (b2 0 _ rfl).1
    have q1 := (b2 0 _ rfl).2
    clear b1 b2
    gi_wp2
    have c1 := (b1'.set5 (a := .int .i64 0) (b := .int .i64 0) (c := .int .i64 0) (d := .int .i64 0) (e := .int .i64 0)).away (p := ⟨w.heap.size + 1 + 1 + 1 + 1 + 1, 0, none⟩) (by simp) (.int .i64 4)
    have c2 := (((((b2'.away (p := ⟨w.heap.size + 1 + 1 + 1 + 1, 0, none⟩) (by simp) (.int .i64 0)).away (p := ⟨w.heap.size + 1 + 1 + 1 + 1, 1, none⟩) (by simp) (.int .i64 0)).away (p := ⟨w.heap.size + 1 + 1 + 1 + 1, 2, none⟩) (by simp) (.int .i64 0)).away (p := ⟨w.heap.size + 1 + 1 + 1 + 1, 3, none⟩) (by simp) (.int .i64 0)).away (p := ⟨w.heap.size + 1 + 1 + 1 + 1, 4, none⟩) (by simp) (.int .i64 0)).set 0 (by simp) (.int .i64 4)
    have hK6 := ((((((KeepsOthers.setCell W ⟨w.heap.size + 1 + 1 + 1 + 1, 0, none⟩ (.int .i64 0)).trans (KeepsOthers.setCell _ ⟨w.heap.size + 1 + 1 + 1 + 1, 1, none⟩ (.int .i64 0))).trans (KeepsOthers.setCell _ ⟨w.heap.size + 1 + 1 + 1 + 1, 2, none⟩ (.int .i64 0))).trans (KeepsOthers.setCell _ ⟨w.heap.size + 1 + 1 + 1 + 1, 3, none⟩ (.int .i64 0))).trans (KeepsOthers.setCell _ ⟨w.heap.size + 1 + 1 + 1 + 1, 4, none⟩ (.int .i64 0))).trans (KeepsOthers.setCell _ ⟨w.heap.size + 1 + 1 + 1 + 1 + 1, 0, none⟩ (.int .i64 4))).same D _ hK rfl
    have hB6 : Below w.heap.size w ((((((W.setCell ⟨w.heap.size + 1 + 1 + 1 + 1, 0, none⟩ (.int .i64 0)).setCell ⟨w.heap.size + 1 + 1 + 1 + 1, 1, none⟩ (.int .i64 0)).setCell ⟨w.heap.size + 1 + 1 + 1 + 1, 2, none⟩ (.int .i64 0)).setCell ⟨w.heap.size + 1 + 1 + 1 + 1, 3, none⟩ (.int .i64 0)).setCell ⟨w.heap.size + 1 + 1 + 1 + 1, 4, none⟩ (.int .i64 0)).setCell ⟨w.heap.size + 1 + 1 + 1 + 1 + 1, 0, none⟩ (.int .i64 4)) := ((((((hB1).setCell (p := ⟨w.heap.size + 1 + 1 + 1 + 1, 0, none⟩) (by simp; omega) (.int .i64 0)).setCell (p := ⟨w.heap.size + 1 + 1 + 1 + 1, 1, none⟩) (by simp; omega) (.int .i64 0)).setCell (p := ⟨w.heap.size + 1 + 1 + 1 + 1, 2, none⟩) (by simp; omega) (.int .i64 0)).setCell (p := ⟨w.heap.size + 1 + 1 + 1 + 1, 3, none⟩) (by simp; omega) (.int .i64 0)).setCell (p := ⟨w.heap.size + 1 + 1 + 1 + 1, 4, none⟩) (by simp; omega) (.int .i64 0)).setCell (p := ⟨w.heap.size + 1 + 1 + 1 + 1 + 1, 0, none⟩) (by simp; omega) (.int .i64 4)
    generalize ((((((W.setCell ⟨w.heap.size + 1 + 1 + 1 + 1, 0, none⟩ (.int .i64 0)).setCell ⟨w.heap.size + 1 + 1 + 1 + 1, 1, none⟩ (.int .i64 0)).setCell ⟨w.heap.size + 1 + 1 + 1 + 1, 2, none⟩ (.int .i64 0)).setCell ⟨w.heap.size + 1 + 1 + 1 + 1, 3, none⟩ (.int .i64 0)).setCell ⟨w.heap.size + 1 + 1 + 1 + 1, 4, none⟩ (.int .i64 0)).setCell ⟨w.heap.size + 1 + 1 + 1 + 1 + 1, 0, none⟩ (.int .i64 4)) = V at *
    refine ⟨by simp, .inl ⟨_, _, rfl, run_takeDeferred hK6, ?_⟩⟩
    obtain ⟨⟨r0, r1, r2, r3, r4⟩, _⟩ := (box_own (β := Unit) _ (fun _ => CL ⟨0, 0, 0, 0, 0⟩) () _ _ _ c1 (grownBy_putObj' _ D (.deferred none)) (fun r e => by cases e; exact ⟨_, hK6, rfl⟩)).five
    have q0 := (box_own (β := Unit) _ (fun _ => [Value.int .i64 4]) () _ _ _ c2 (grownBy_putObj' _ D (.deferred none)) (fun r e => by cases e; exact ⟨_, hK6, rfl⟩) 0 _ rfl).1
    refine ⟨.tuple #[CrV ⟨0, 0, 0, 0, 0⟩, .int .i64 4], ?_, rfl, hB6.trans (belowK_b (w := w) (Nat.le_refl _) _ D _ _ (by omega) hK6 rfl rfl)⟩
    simp [results, Tryz.f124, go_sem, r0, r1, r2, r3, r4, q0]
  case stop =>
    rintro D co pre W hD hpre ⟨⟨rfl, ini, last, rfl, h3, h4, b1, b2⟩, hB1⟩ hK
    obtain ⟨hV, hC⟩ := fc_yes h3 h4 hpre
    gi_wp2
    refine ⟨by simp, .inl ⟨_, _, rfl, run_takeDeferred hK, ?_⟩⟩
    obtain ⟨⟨r0, r1, r2, r3, r4⟩, _⟩ := (box_own (β := Unit) _ (fun _ => CL last) () _ _ _ b1 (grownBy_putObj' _ D (.deferred none)) (fun r e => by cases e; exact ⟨_, hK, rfl⟩)).five
    have q0 := (box_own (β := Unit) _ (fun _ => [Value.int .i64 0]) () _ _ _ b2 (grownBy_putObj' _ D (.deferred none)) (fun r e => by cases e; exact ⟨_, hK, rfl⟩) 0 _ rfl).1
    refine ⟨.tuple #[CrV last, .int .i64 0], ?_, by rw [hV, hC], hB1.trans (belowK_b (w := w) (Nat.le_refl _) _ D _ _ (by omega) hK rfl rfl)⟩
    simp [results, Tryz.f124, go_sem, r0, r1, r2, r3, r4, q0]
set_option maxRecDepth 100000 in
set_option maxHeartbeats 2000000 in
theorem first_bwd (a0 : Option Addr) (cap : Nat) (fs : List F3) (a b c d f : Int) (w : World) (hf : Fxs w a0 fs) (hv : trB fs = true) (hs : sgB a b c d = true) :
    Calls Tryz.prog 124 #[Tr (.slice a0 fs.length cap), Sg a b c d, .int .i64 (-1), .int .i64 f] w fun e w' => e = .returned (.tuple #[CrV (fcV (crL fs a b c d (fs.length - 1)) (-1) f), .int .i64 (fcC (crL fs a b c d (fs.length - 1)) (-1) f)]) ∧ Ext w w' := by
  have HF := Lib.hid hf
  clear hf
  refine (callsIn_wide (n := 5)).1 ?_
  refine callsIn_of_wp_marks Tryz.func124 rfl trivial ?_ rfl
  simp only [Tryz.ntmps124, List.size_toArray, List.length_cons, List.length_nil, Nat.reduceAdd, Nat.reduceSub, Array.replicate_succ, Array.replicate_zero, List.push_toArray, List.append_toArray, List.nil_append, List.cons_append]
  obtain ⟨W0, hW0⟩ : ∃ W0, W0 = (((((w.alloc (.cells #[.slice a0 fs.length cap] 33)).alloc (.cells #[.int .i64 a, .int .i64 b, .int .i64 c, .int .i64 d] 27)).alloc (.cells #[.int .i64 (-1)] 2)).alloc (.cells #[.int .i64 f] 2)).alloc (.cells #[.int .i64 0, .int .i64 0, .int .i64 0, .int .i64 0, .int .i64 0] 188)).alloc (.cells #[.int .i64 0] 2) := ⟨_, rfl⟩
  have hX : Ext w W0 := hW0 ▸ ((((((Ext.refl w).alloc _).alloc _).alloc _).alloc _).alloc _).alloc _
  have c0 : W0.cell? ⟨w.heap.size, 0, none⟩ = some (.slice a0 fs.length cap) := by rw [hW0]; exact ((((((Ext.refl _).alloc _).alloc _).alloc _).alloc _).alloc _).cellOf (boxed 0 rfl rfl)
  have cl : ∀ i v, (#[.int .i64 a, .int .i64 b, .int .i64 c, .int .i64 d] : Array Value)[i]? = some v → W0.cell? ⟨w.heap.size + 1, i, none⟩ = some v := fun i v hv => by rw [hW0]; exact (((((Ext.refl _).alloc _).alloc _).alloc _).alloc _).cellOf (boxed i hv (by simp))
  have c1 : W0.cell? ⟨w.heap.size + 1, 0, none⟩ = some (.int .i64 a) := cl 0 _ rfl
  have c2 : W0.cell? ⟨w.heap.size + 1, 1, none⟩ = some (.int .i64 b) := cl 1 _ rfl
  have c3 : W0.cell? ⟨w.heap.size + 1, 2, none⟩ = some (.int .i64 c) := cl 2 _ rfl
  have c4 : W0.cell? ⟨w.heap.size + 1, 3, none⟩ = some (.int .i64 d) := cl 3 _ rfl
  have cg : W0.cell? ⟨w.heap.size + 1 + 1, 0, none⟩ = some (.int .i64 (-1)) := by rw [hW0]; exact ((((Ext.refl _).alloc _).alloc _).alloc _).cellOf (boxed 0 rfl (by simp))
  have cf : W0.cell? ⟨w.heap.size + 1 + 1 + 1, 0, none⟩ = some (.int .i64 f) := by rw [hW0]; exact (((Ext.refl _).alloc _).alloc _).cellOf (boxed 0 rfl (by simp))
  have bR : Box W0 (w.heap.size + 1 + 1 + 1 + 1) (CL ⟨0, 0, 0, 0, 0⟩) := by rw [hW0]; exact (Box.new5 (by simp)).alloc _
  have bC : Box W0 (w.heap.size + 1 + 1 + 1 + 1 + 1) [.int .i64 0] := by rw [hW0]; exact Box.new (by simp)
  have hs0 : W0.heap.size = w.heap.size + 6 := by rw [hW0]; simp
  clear cl
  gi_wp2_with fail
  all_goals (try rw [← hW0])
  clear hW0
  gi_wp2_with first
    | (refine ⟨trivial, ?_⟩; gi_at_call 164; refine (callsIn_wide.2 (trackValid_any _ _ _ _ (HF.out.ext hX))).mono ?_; rintro e w1 ⟨rfl, hx1⟩; rw [hv]; replace hX := hX.trans hx1; replace c0 := hx1.cellOf c0; replace c1 := hx1.cellOf c1; replace c2 := hx1.cellOf c2; replace c3 := hx1.cellOf c3; replace c4 := hx1.cellOf c4; replace cg := hx1.cellOf cg; replace cf := hx1.cellOf cf; replace bR := bR.ext hx1; replace bC := bC.ext hx1; have hs1 := hx1.size; clear hx1)
    | (refine ⟨trivial, ?_⟩; gi_at_call 122; refine (callsIn_wide.2 (lineValid_any _ _ _ _ _)).mono ?_; rintro e w2 ⟨rfl, hx1⟩; rw [hs]; replace hX := hX.trans hx1; replace c0 := hx1.cellOf c0; replace c1 := hx1.cellOf c1; replace c2 := hx1.cellOf c2; replace c3 := hx1.cellOf c3; replace c4 := hx1.cellOf c4; replace cg := hx1.cellOf cg; replace cf := hx1.cellOf cf; replace bR := bR.ext hx1; replace bC := bC.ext hx1; have hs2 := Nat.le_trans hs1 hx1.size; clear hx1)
    | (refine ⟨trivial, ?_⟩; gi_at_call 198; refine (callsIn_wide.2 (crossings_any _ _ _ _ _ _)).mono ?_; rintro e w3 ⟨rfl, rfl⟩)
  have hsw := hX.size
  have WB : ∀ w', w' = (w2.alloc (.cells #[.slice a0 fs.length cap] 33)).alloc (.cells #[.int .i64 a, .int .i64 b, .int .i64 c, .int .i64 d] 27) → Ext w2 w' := fun w' h => h ▸ ((Ext.refl w2).alloc _).alloc _
  have k0 : ((w2.alloc (.cells #[.slice a0 fs.length cap] 33)).alloc (.cells #[.int .i64 a, .int .i64 b, .int .i64 c, .int .i64 d] 27)).cell? ⟨w2.heap.size, 0, none⟩ = some (.slice a0 fs.length cap) := ((Ext.refl _).alloc _).cellOf (boxed 0 rfl rfl)
  have k1 : ∀ i v, (#[.int .i64 a, .int .i64 b, .int .i64 c, .int .i64 d] : Array Value)[i]? = some v → ((w2.alloc (.cells #[.slice a0 fs.length cap] 33)).alloc (.cells #[.int .i64 a, .int .i64 b, .int .i64 c, .int .i64 d] 27)).cell? ⟨w2.heap.size + 1, i, none⟩ = some v := fun i v hv => boxed i hv (by simp)
  have hsz : ((w2.alloc (.cells #[.slice a0 fs.length cap] 33)).alloc (.cells #[.int .i64 a, .int .i64 b, .int .i64 c, .int .i64 d] 27)).heap.size = w2.heap.size + 2 := by simp
  obtain ⟨WL, hWL⟩ : ∃ WL, (w2.alloc (.cells #[.slice a0 fs.length cap] 33)).alloc (.cells #[.int .i64 a, .int .i64 b, .int .i64 c, .int .i64 d] 27) = WL := ⟨_, rfl⟩
  have hx9 := WB WL hWL.symm
  rw [hWL] at k0 k1 hsz ⊢
  replace bR := bR.ext hx9
  replace bC := bC.ext hx9
  replace cg := hx9.cellOf cg
  replace cf := hx9.cellOf cf
  replace hX := hX.trans hx9
  clear hWL WB hx9 c0 c1 c2 c3 c4
  refine wpIn_rangeFunc_ownH rfl (by omega) (gf := 244) (lb := #[.pointer (some ⟨w2.heap.size, 0, none⟩), .pointer (some ⟨w2.heap.size + 1, 0, none⟩)]) rfl trivial (enters_of Tryz.func244 (by kernel_rfl) rfl)
    (crossings_stops (5 - 1) (by omega) w2.heap.size w a0 cap fs a b c d HF.out hv hs WL hX (by omega) (by omega) k0 (k1 0 _ rfl) (k1 1 _ rfl) (k1 2 _ rfl) (k1 3 _ rfl)) (fun h k => h.trans k) (kp_b (by omega) (by omega)) (Below.refl _ _) (fun _ => rfl)
    (fun pre W => ((((Box W (w.heap.size + 1 + 1 + 1 + 1) (CL ⟨0, 0, 0, 0, 0⟩) ∧ Box W (w.heap.size + 1 + 1 + 1 + 1 + 1) [.int .i64 0]) ∧ (∀ c ∈ pre, isC (-1) f c = false)) ∧ (W.cell? ⟨w.heap.size + 1 + 1, 0, none⟩ = some (.int .i64 (-1)) ∧ W.cell? ⟨w.heap.size + 1 + 1 + 1, 0, none⟩ = some (.int .i64 f))) ∧ w2.heap.size + 2 ≤ W.heap.size) ∧ Below w.heap.size w W)
    (fun co pre W => (co = .ret ∧ ∃ ini last, pre = ini ++ [last] ∧ (∀ c ∈ ini, isC (-1) f c = false) ∧ isC (-1) f last = true ∧ Box W (w.heap.size + 1 + 1 + 1 + 1) (CL last) ∧ Box W (w.heap.size + 1 + 1 + 1 + 1 + 1) [.int .i64 0]) ∧ Below w.heap.size w W)
    (OwnFrom.and (OwnFrom.and (OwnFrom.and (OwnFrom.and (OwnFrom.and (Own.from (box_own _ _) _) (Own.from (box_own _ _) _)) (ownFrom_pure _ _)) (fun _ _ _ _ hs hg hr => ⟨cell_kept hs.1 hg (fun r e => (hr r e).2), cell_kept hs.2 hg (fun r e => (hr r e).2)⟩)) (fun _ _ _ _ hs hg _ => Nat.le_trans hs hg.size)) (ownFrom_below (Nat.le_refl _) (by omega)))
    (fun co => OwnFrom.and (fun _ _ _ _ hs hg hr => by
      obtain ⟨h1, ini, last, h2, h3, h4, h5, h6⟩ := hs
      exact ⟨h1, ini, last, h2, h3, h4, box_own (β := Unit) _ (fun _ => CL last) () _ _ _ h5 hg (fun r e => (hr r e).2), box_own (β := Unit) _ (fun _ => [.int .i64 0]) () _ _ _ h6 hg (fun r e => (hr r e).2)⟩) (ownFrom_below (Nat.le_refl _) (by omega)))
    ⟨⟨⟨⟨⟨bR, bC⟩, by simp⟩, cg, cf⟩, by omega⟩, hX⟩
    (fun x a' W => ∃ Bx, w2.heap.size + 1 < Bx ∧ VC W Bx x ∧ a' = { tmps := #[Tr (.slice a0 fs.length cap), Sg a b c d, .int .i64 (-1), .int .i64 f, .pointer (some ⟨w.heap.size, 0, none⟩), .pointer (some ⟨w.heap.size + 1, 0, none⟩), .pointer (some ⟨w.heap.size + 1 + 1, 0, none⟩), .pointer (some ⟨w.heap.size + 1 + 1 + 1, 0, none⟩),
      .pointer (some ⟨w.heap.size + 1 + 1 + 1 + 1, 0, none⟩), .pointer (some ⟨w.heap.size + 1 + 1 + 1 + 1 + 1, 0, none⟩), .pointer (some ⟨Bx, 0, none⟩), .agg #[.slice a0 fs.length cap], .bool true, .bool false, .bool false, Sg a b c d, .bool true, .bool false, .bool false, undef, .int .i64 (-1), .bool true, .bool true, .int .i64 (-1), .bool false, .bool false, undef,
      .agg #[.slice a0 fs.length cap], Sg a b c d, .func (.func 244) #[] #[.pointer (some ⟨w2.heap.size, 0, none⟩), .pointer (some ⟨w2.heap.size + 1, 0, none⟩)], CrV x, undef, undef, undef, undef, undef, undef, undef, undef, undef, undef, undef, undef], defers := [] })
    (fun x a' _ X Y row hs hg hr => by obtain ⟨Bx, h1, h2, h3⟩ := hs; exact ⟨Bx, h1, fun i v hv => cell_kept (h2 i v hv) hg (fun r e => (hr r e).2), h3⟩)
    ?assign ?body ?done ?stop
  case assign =>
    rintro l pre x W K ⟨⟨⟨⟨⟨b1, b2⟩, hp⟩, g1, g2⟩, hsz1⟩, hB1⟩ hK
    gi_wp2
    exact hK _ _ ((KeepsOthers.alloc _ _).from _) (Kp.ext ((Ext.refl W).alloc _) hB1.size (by omega)) ⟨⟨⟨⟨⟨b1.alloc _, b2.alloc _⟩, hp⟩, ((Ext.refl _).alloc _).cellOf g1, ((Ext.refl _).alloc _).cellOf g2⟩, by simp; omega⟩, hB1.alloc hB1.size _⟩ ⟨W.heap.size, by omega, VC.new W x _, rfl⟩
  case body =>
    rintro l pre x a' W hl ⟨r, hr⟩ ⟨⟨⟨⟨⟨b1, b2⟩, hp⟩, g1, g2⟩, hsz1⟩, hB1⟩ ⟨Bx, hBx, bX, rfl⟩ hlt
    have v0 := bX 0 _ rfl
    have v1 := bX 1 _ rfl
    have v2 := bX 2 _ rfl
    have v3 := bX 3 _ rfl
    have v4 := bX 4 _ rfl
    have b1' := b1
    have b2' := b2
    obtain ⟨⟨r0, r1, r2, r3, r4⟩, s0, s1, s2, s3, s4⟩ := b1.five
    have q0 := (b2 0 _ rfl).1
    have q1 := (b2 0 _ rfl).2
    clear b1 b2
    have KF : ∀ {B : Nat} (X : World) (p : Addr) (v : Value), KeepsFrom B W X → KeepsFrom B W (X.setCell p v) := fun X p v h => h.trans ((KeepsOthers.setCell _ _ _).from _)
    have KB : ∀ (X : World) (B o : Nat) (v : Value), w.heap.size ≤ B → Below w.heap.size w X → Below w.heap.size w (X.setCell ⟨B, o, none⟩ v) := fun X B o v h1 h2 => h2.setCell (p := ⟨B, o, none⟩) h1 v
    by_cases hx : isC (-1) f x = true
    · have hx' := hx
      unfold isC at hx'
      rw [Bool.and_eq_true] at hx'
      obtain ⟨x1, x2⟩ := hx'
      gi_wp2
      exact ⟨KF _ _ _ (KF _ _ _ (KF _ _ _ (KF _ _ _ (KF _ _ _ (KF _ _ _ (KeepsFrom.refl _ _)))))), ⟨rfl, pre, x, rfl, hp, hx, (b1'.set5).away (by simp) _, ((((((b2'.away (by simp) _).away (by simp) _).away (by simp) _).away (by simp) _).away (by simp) _).set 0 (by simp) _)⟩, KB _ _ _ _ (by omega) (KB _ _ _ _ (by omega) (KB _ _ _ _ (by omega) (KB _ _ _ _ (by omega) (KB _ _ _ _ (by omega) (KB _ _ _ _ (by omega) hB1)))))⟩
    · have hx2 : isC (-1) f x = false := by simpa using hx
      have hp2 : ∀ c ∈ pre ++ [x], isC (-1) f c = false := fun c hc => (List.mem_append.1 hc).elim (hp c) (fun e => by simp at e; subst e; exact hx2)
      have hx' := hx2
      unfold isC at hx'
      cases x1 : (x.g == (-1))
      · gi_wp2
        exact ⟨KeepsFrom.refl _ _, Kp.refl _ _ _, ⟨⟨⟨⟨b1', b2'⟩, hp2⟩, g1, g2⟩, hsz1⟩, hB1⟩
      · rw [x1, Bool.true_and] at hx'
        gi_wp2
        exact ⟨KeepsFrom.refl _ _, Kp.refl _ _ _, ⟨⟨⟨⟨b1', b2'⟩, hp2⟩, g1, g2⟩, hsz1⟩, hB1⟩
  case done =>
    rintro D ys W hD rfl ⟨⟨⟨⟨⟨b1, b2⟩, hp⟩, g1, g2⟩, hsz1⟩, hB1⟩ hK
    obtain ⟨hV, hC⟩ := fc_no hp
    have b1' := b1
    have b2' := b2
    obtain ⟨⟨r0, r1, r2, r3, r4⟩, s0, s1, s2, s3, s4⟩ := b1.five
    have q0 := (b2 0 _ rfl).1
    have q1 := (b2 0 _ rfl).2
    clear b1 b2
    gi_wp2
    have c1 := (b1'.set5 (a := .int .i64 0) (b := .int .i64 0) (c := .int .i64 0) (d := .int .i64 0) (e := .int .i64 0)).away (p := ⟨w.heap.size + 1 + 1 + 1 + 1 + 1, 0, none⟩) (by simp) (.int .i64 4)
    have c2 := (((((b2'.away (p := ⟨w.heap.size + 1 + 1 + 1 + 1, 0, none⟩) (by simp) (.int .i64 0)).away (p := ⟨w.heap.size + 1 + 1 + 1 + 1, 1, none⟩) (by simp) (.int .i64 0)).away (p := ⟨w.heap.size + 1 + 1 + 1 + 1, 2, none⟩) (by simp) (.int .i64 0)).away (p := ⟨w.heap.size + 1 + 1 + 1 + 1, 3, none⟩) (by simp) (.int .i64 0)).away (p := ⟨w.heap.size + 1 + 1 + 1 + 1, 4, none⟩) (by simp) (.int .i64 0)).set 0 (by simp) (.int .i64 4)
    have hK6 := ((((((KeepsOthers.setCell W ⟨w.heap.size + 1 + 1 + 1 + 1, 0, none⟩ (.int .i64 0)).trans (KeepsOthers.setCell _ ⟨w.heap.size + 1 + 1 + 1 + 1, 1, none⟩ (.int .i64 0))).trans (KeepsOthers.setCell _ ⟨w.heap.size + 1 + 1 + 1 + 1, 2, none⟩ (.int .i64 0))).trans (KeepsOthers.setCell _ ⟨w.heap.size + 1 + 1 + 1 + 1, 3, none⟩ (.int .i64 0))).trans (KeepsOthers.setCell _ ⟨w.heap.size + 1 + 1 + 1 + 1, 4, none⟩ (.int .i64 0))).trans (KeepsOthers.setCell _ ⟨w.heap.size + 1 + 1 + 1 + 1 + 1, 0, none⟩ (.int .i64 4))).same D _ hK rfl
    have hB6 : Below w.heap.size w ((((((W.setCell ⟨w.heap.size + 1 + 1 + 1 + 1, 0, none⟩ (.int .i64 0)).setCell ⟨w.heap.size + 1 + 1 + 1 + 1, 1, none⟩ (.int .i64 0)).setCell ⟨w.heap.size + 1 + 1 + 1 + 1, 2, none⟩ (.int .i64 0)).setCell ⟨w.heap.size + 1 + 1 + 1 + 1, 3, none⟩ (.int .i64 0)).setCell ⟨w.heap.size + 1 + 1 + 1 + 1, 4, none⟩ (.int .i64 0)).setCell ⟨w.heap.size + 1 + 1 + 1 + 1 + 1, 0, none⟩ (.int .i64 4)) := ((((((hB1).setCell (p := ⟨w.heap.size + 1 + 1 + 1 + 1, 0, none⟩) (by simp; omega) (.int .i64 0)).setCell (p := ⟨w.heap.size + 1 + 1 + 1 + 1, 1, none⟩) (by simp; omega) (.int .i64 0)).setCell (p := ⟨w.heap.size + 1 + 1 + 1 + 1, 2, none⟩) (by simp; omega) (.int .i64 0)).setCell (p := ⟨w.heap.size + 1 + 1 + 1 + 1, 3, none⟩) (by simp; omega) (.int .i64 0)).setCell (p := ⟨w.heap.size + 1 + 1 + 1 + 1, 4, none⟩) (by simp; omega) (.int .i64 0)).setCell (p := ⟨w.heap.size + 1 + 1 + 1 + 1 + 1, 0, none⟩) (by simp; omega) (.int .i64 4)
    generalize ((((((W.setCell ⟨w.heap.size + 1 + 1 + 1 + 1, 0, none⟩ (.int .i64 0)).setCell ⟨w.heap.size + 1 + 1 + 1 + 1, 1, none⟩ (.int .i64 0)).setCell ⟨w.heap.size + 1 + 1 + 1 + 1, 2, none⟩ (.int .i64 0)).setCell ⟨w.heap.size + 1 + 1 + 1 + 1, 3, none⟩ (.int .i64 0)).setCell ⟨w.heap.size + 1 + 1 + 1 + 1, 4, none⟩ (.int .i64 0)).setCell ⟨w.heap.size + 1 + 1 + 1 + 1 + 1, 0, none⟩ (.int .i64 4)) = V at *
    refine ⟨by simp, .inl ⟨_, _, rfl, run_takeDeferred hK6, ?_⟩⟩
    obtain ⟨⟨r0, r1, r2, r3, r4⟩, _⟩ := (box_own (β := Unit) _ (fun _ => CL ⟨0, 0, 0, 0, 0⟩) () _ _ _ c1 (grownBy_putObj' _ D (.deferred none)) (fun r e => by cases e; exact ⟨_, hK6, rfl⟩)).five
    have q0 := (box_own (β := Unit) _ (fun _ => [Value.int .i64 4]) () _ _ _ c2 (grownBy_putObj' _ D (.deferred none)) (fun r e => by cases e; exact ⟨_, hK6, rfl⟩) 0 _ rfl).1
    refine ⟨.tuple #[CrV ⟨0, 0, 0, 0, 0⟩, .int .i64 4], ?_, rfl, hB6.trans (belowK_b (w := w) (Nat.le_refl _) _ D _ _ (by omega) hK6 rfl rfl)⟩
    simp [results, Tryz.f124, go_sem, r0, r1, r2, r3, r4, q0]
  case stop =>
    rintro D co pre W hD hpre ⟨⟨rfl, ini, last, rfl, h3, h4, b1, b2⟩, hB1⟩ hK
    obtain ⟨hV, hC⟩ := fc_yes h3 h4 hpre
    gi_wp2
    refine ⟨by simp, .inl ⟨_, _, rfl, run_takeDeferred hK, ?_⟩⟩
    obtain ⟨⟨r0, r1, r2, r3, r4⟩, _⟩ := (box_own (β := Unit) _ (fun _ => CL last) () _ _ _ b1 (grownBy_putObj' _ D (.deferred none)) (fun r e => by cases e; exact ⟨_, hK, rfl⟩)).five
    have q0 := (box_own (β := Unit) _ (fun _ => [Value.int .i64 0]) () _ _ _ b2 (grownBy_putObj' _ D (.deferred none)) (fun r e => by cases e; exact ⟨_, hK, rfl⟩) 0 _ rfl).1
    refine ⟨.tuple #[CrV last, .int .i64 0], ?_, by rw [hV, hC], hB1.trans (belowK_b (w := w) (Nat.le_refl _) _ D _ _ (by omega) hK rfl rfl)⟩
    simp [results, Tryz.f124, go_sem, r0, r1, r2, r3, r4, q0]
end Go.Proofs.YtmlojndkpnhalaaGreat.Trk
