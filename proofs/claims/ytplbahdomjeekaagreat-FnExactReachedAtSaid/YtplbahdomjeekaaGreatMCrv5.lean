import Derived.Test.YtplbahdomjeekaaGreatMMom
import Derived.Test.YtplbahdomjeekaaGreatMRel
import Derived.RangeFuncNested
import Derived.RangeFuncBound
import Derived.RangeFuncCalls
import Derived.RangeFuncLeaves
import Derived.Shelf.Abstract
import Derived.Shelf.RegionOpen
import Derived.OwnWalkIn
import Derived.TacticsInMore
import Derived.LoopNIn
import Derived.LoopIn
import Derived.Test.YtplbahdomjeekaaGreatMPts
import Derived.Test.YtplbahdomjeekaaGreatOrd
import Derived.Test.YtplbahdomjeekaaGreatMKit
import Derived.Deep.DeepCutAuto
namespace Go.Proofs.YtplbahdomjeekaaGreat.Trk
open Go.ChangeShapes Go.WideShapes Go.ChangeAt Go.RowKit
open Go.Proofs.YtplbahdomjeekaaGreat.Num Go.Proofs.YtplbahdomjeekaaGreat.Kit Go.Proofs.YtplbahdomjeekaaGreat.Pts Go.Proofs.YtplbahdomjeekaaGreat.Seg Go.Proofs.YtplbahdomjeekaaGreat.Gcd Go.Proofs.YtplbahdomjeekaaGreat.Crs
set_option linter.unusedVariables false
set_option linter.unusedSimpArgs false
structure C5 where
  t : Int
  l : Int
  g : Int
  x : Int
  y : Int
deriving DecidableEq
abbrev CrV (c : C5) : Value := Cr c.t c.l c.g c.x c.y
def lwI (fs : List F3) (a b c d : Int) (k : Nat) : Int := wyI a b c d (fx fs k).x (fx fs k).y (fx fs (k + 1)).x (fx fs (k + 1)).y
def lA (fs : List F3) (a b c d : Int) (k : Nat) : Int := crs a b c d (fx fs k).x (fx fs k).y
def lB (fs : List F3) (a b c d : Int) (k : Nat) : Int := crs a b c d (fx fs (k + 1)).x (fx fs (k + 1)).y
def lxN (fs : List F3) (a b c d : Int) (k : Nat) : Int := plN (lA fs a b c d k) (lB fs a b c d k)
def lxD (fs : List F3) (a b c d : Int) (k : Nat) : Int := plD (lA fs a b c d k) (lB fs a b c d k)
def upI (w r : Int) : Int := if 0 < r then w + 1 else w
def legC (fs : List F3) (a b c d : Int) (k : Nat) : C5 :=
  ⟨upI (mwI fs k (lxN fs a b c d k) (lxD fs a b c d k)) (mrI fs k (lxN fs a b c d k) (lxD fs a b c d k)), k, lwI fs a b c d k, lxN fs a b c d k, lxD fs a b c d k⟩
def crL (fs : List F3) (a b c d : Int) : Nat → List C5
  | 0 => []
  | k + 1 => if lwI fs a b c d k = 0 then crL fs a b c d k else crL fs a b c d k ++ [legC fs a b c d k]
theorem pl_bd {A B : Int} (hA : -8000000000000 ≤ A ∧ A ≤ 8000000000000) (hB : -8000000000000 ≤ B ∧ B ≤ 8000000000000) (h : (0 < A ∧ B ≤ 0) ∨ (A ≤ 0 ∧ 0 < B)) :
    sgn A ≠ sgn B ∧ 0 ≤ plN A B ∧ plN A B ≤ plD A B ∧ 1 ≤ plD A B ∧ plD A B ≤ 100000000000000 := by
  have hs : sgn A ≠ sgn B := by
    rcases sgn_cases A with ⟨g, e⟩ | ⟨g, e⟩ | ⟨g, e⟩ <;> rcases sgn_cases B with ⟨k, f⟩ | ⟨k, f⟩ | ⟨k, f⟩ <;> rw [e, f] <;> omega
  refine ⟨hs, ?_⟩
  unfold plN plD
  rw [if_neg hs, if_neg hs]
  obtain ⟨n, hn⟩ : ∃ n, n = ab A := ⟨_, rfl⟩
  obtain ⟨m, hm⟩ : ∃ m, m = ab (A - B) := ⟨_, rfl⟩
  have b1 : 0 ≤ n ∧ n ≤ m ∧ 1 ≤ m ∧ m ≤ 16000000000000 := by
    rw [hn, hm]; unfold ab
    by_cases g : A < 0
    · rw [if_pos g]
      by_cases k : A - B < 0
      · rw [if_pos k]; omega
      · rw [if_neg k]; omega
    · rw [if_neg g]
      by_cases k : A - B < 0
      · rw [if_pos k]; omega
      · rw [if_neg k]; omega
  rw [← hn, ← hm]
  clear hn hm
  obtain ⟨n0, n1, m1, m2⟩ := b1
  have g1 : 1 ≤ gc n m := gc_pos m1
  have g2 : gc n m ≤ m := by
    unfold gc
    have := Nat.gcd_le_right n.toNat (show 0 < m.toNat by omega)
    omega
  obtain ⟨q0, q1⟩ := div_bd n0 g1
  obtain ⟨r0, r1⟩ := div_bd (show 0 ≤ m by omega) g1
  refine ⟨q0, Int.ediv_le_ediv (by omega) n1, ?_, by omega⟩
  have := Int.ediv_le_ediv (show 0 < gc n m by omega) g2
  rw [Int.ediv_self (by omega)] at this
  exact this
theorem lw_no {fs : List F3} {a b c d : Int} {k : Nat} (h : lwI fs a b c d k ≠ 0) :
    (0 < lA fs a b c d k ∧ lB fs a b c d k ≤ 0) ∨ (lA fs a b c d k ≤ 0 ∧ 0 < lB fs a b c d k) := by
  by_cases g : bhB a b c d (fx fs k).x (fx fs k).y = bhB a b c d (fx fs (k + 1)).x (fx fs (k + 1)).y
  · exact absurd (wyI_same g) h
  · unfold bhB at g
    unfold lA lB
    by_cases p : 0 < crs a b c d (fx fs k).x (fx fs k).y
    · rw [decide_eq_true p] at g
      by_cases q : 0 < crs a b c d (fx fs (k + 1)).x (fx fs (k + 1)).y
      · rw [decide_eq_true q] at g; exact absurd rfl g
      · omega
    · rw [decide_eq_false p] at g
      by_cases q : 0 < crs a b c d (fx fs (k + 1)).x (fx fs (k + 1)).y
      · omega
      · rw [decide_eq_false q] at g; exact absurd rfl g
theorem lw_sg {fs : List F3} {a b c d : Int} {k : Nat} (hv : trB fs = true) (hk : k + 1 < fs.length) (h : lwI fs a b c d k ≠ 0) : sgB (fx fs k).x (fx fs k).y (fx fs (k + 1)).x (fx fs (k + 1)).y = true := by
  obtain ⟨⟨ca, cb, cc, cd⟩, _⟩ := leg_bounds hv hk
  have hn := lw_no h
  unfold lA lB at hn
  unfold sgB ptB coB
  rw [inB_yes ca.1 ca.2, inB_yes cb.1 cb.2, inB_yes cc.1 cc.2, inB_yes cd.1 cd.2]
  by_cases e1 : (fx fs k).x = (fx fs (k + 1)).x
  · by_cases e2 : (fx fs k).y = (fx fs (k + 1)).y
    · rw [e1, e2] at hn; omega
    · rw [beq_eq_false_iff_ne.2 e2]; simp
  · rw [beq_eq_false_iff_ne.2 e1]; rfl
theorem lx_bd {fs : List F3} {a b c d : Int} {k : Nat} (hv : trB fs = true) (hk : k + 1 < fs.length) (hs : sgB a b c d = true) (h : lwI fs a b c d k ≠ 0) :
    sgn (lA fs a b c d k) ≠ sgn (lB fs a b c d k) ∧ 0 ≤ lxN fs a b c d k ∧ lxN fs a b c d k ≤ lxD fs a b c d k ∧ 1 ≤ lxD fs a b c d k ∧ lxD fs a b c d k ≤ 100000000000000 := by
  obtain ⟨⟨ca, cb, cc, cd⟩, _⟩ := leg_bounds hv hk
  obtain ⟨⟨ga, gb, gc, gd⟩, _⟩ := sgB_yes hs
  exact pl_bd (crs_bd ga gb gc gd ca cb) (crs_bd ga gb gc gd cc cd) (lw_no h)
theorem roundedUp_any (m r y : Int) (w : World) (m0 : 0 ≤ m) (m1 : m ≤ 1000000000) : Calls Tryz.prog 213 #[Fx m r y] w fun e w' => e = .returned (.int .i64 (upI m r)) ∧ Ext w w' := by
  have E1 : IntKind.i64.wrap (m + 1) = m + 1 := IntWalk.i64_in _ (by omega)
  by_cases h : 0 < r
  · have H := Lib.hid (show upI m r = m + 1 from if_pos h)
    go_enter Tryz.func213, Tryz.ntmps213
    go_wp2
    go_ret
    exact ⟨ret_int H.out, (by repeat (first | exact Ext.refl _ | assumption | apply Ext.alloc | apply Ext.drew | (refine Ext.trans ?_ (by assumption)) | (refine Ext.setNew ?_ (by simp <;> omega) _)))⟩
  · have H := Lib.hid (show upI m r = m from if_neg h)
    go_enter Tryz.func213, Tryz.ntmps213
    go_wp2
    go_ret
    exact ⟨ret_int H.out, (by repeat (first | exact Ext.refl _ | assumption | apply Ext.alloc | apply Ext.drew | (refine Ext.trans ?_ (by assumption)) | (refine Ext.setNew ?_ (by simp <;> omega) _)))⟩
def cellsC (cs : List C5) : List Value := cs.flatMap fun c => [.int .i64 c.t, .int .i64 c.l, .int .i64 c.g, .int .i64 c.x, .int .i64 c.y]
theorem cellsC_app (cs : List C5) (c : C5) : cellsC cs ++ [.int .i64 c.t, .int .i64 c.l, .int .i64 c.g, .int .i64 c.x, .int .i64 c.y] = cellsC (cs ++ [c]) := by simp [cellsC]
def cx (cs : List C5) (i : Nat) : C5 := cs.getD i ⟨0, 0, 0, 0, 0⟩
theorem cellsC_get : ∀ (cs : List C5) (i : Nat), i < cs.length → (cellsC cs)[i * 5]? = some (.int .i64 (cx cs i).t) ∧ (cellsC cs)[i * 5 + 1]? = some (.int .i64 (cx cs i).l) ∧ (cellsC cs)[i * 5 + 2]? = some (.int .i64 (cx cs i).g) ∧ (cellsC cs)[i * 5 + 3]? = some (.int .i64 (cx cs i).x) ∧ (cellsC cs)[i * 5 + 4]? = some (.int .i64 (cx cs i).y)
  | [], i, h => absurd h (by simp)
  | c :: cs, 0, _ => by simp [cellsC, cx]
  | c :: cs, i + 1, h => by
    have := cellsC_get cs i (by simpa using h)
    have e : cellsC (c :: cs) = .int .i64 c.t :: .int .i64 c.l :: .int .i64 c.g :: .int .i64 c.x :: .int .i64 c.y :: cellsC cs := by simp [cellsC]
    rw [e, show (i + 1) * 5 = i * 5 + 5 by omega]
    simpa [cx] using this
theorem crossInfo : (Tryz.prog.info? 198).map (fun i => (i.zero, i.size, i.bytes)) = some (some (Cr 0 0 0 0 0), 5, 40) := by kernel_rfl
theorem ones5 (c : C5) : ∀ u ∈ ([.int .i64 c.t, .int .i64 c.l, .int .i64 c.g, .int .i64 c.x, .int .i64 c.y] : List Value), u.oneCell' = true := by
  intro u hu
  simp at hu
  rcases hu with rfl | rfl | rfl | rfl | rfl <;> rfl
theorem crL_len (fs : List F3) (a b c d : Int) : ∀ k, (crL fs a b c d k).length ≤ k
  | 0 => Nat.le_refl _
  | k + 1 => by
    have := crL_len fs a b c d k
    unfold crL
    split
    · omega
    · simp; omega
theorem crL_same {fs : List F3} {a b c d : Int} {k : Nat} (h : lwI fs a b c d k = 0) : crL fs a b c d (k + 1) = crL fs a b c d k := if_pos h
theorem crL_more {fs : List F3} {a b c d : Int} {k : Nat} (h : lwI fs a b c d k ≠ 0) : crL fs a b c d (k + 1) = crL fs a b c d k ++ [legC fs a b c d k] := if_neg h
end Go.Proofs.YtplbahdomjeekaaGreat.Trk
namespace Go.Proofs.YtplbahdomjeekaaGreat.Trk
open Go.ChangeShapes Go.WideShapes Go.ChangeAt Go.RowKit Go.Shelf
open Go.Proofs.YtplbahdomjeekaaGreat.Num Go.Proofs.YtplbahdomjeekaaGreat.Kit Go.Proofs.YtplbahdomjeekaaGreat.Pts Go.Proofs.YtplbahdomjeekaaGreat.Seg Go.Proofs.YtplbahdomjeekaaGreat.Gcd Go.Proofs.YtplbahdomjeekaaGreat.Crs
set_option linter.unusedVariables false
set_option linter.unusedSimpArgs false
attribute [local go_sem] Oper.semAt_some
def Kp (n0 B : Nat) (W W' : World) : Prop := Below n0 W W' ∧ W'.heap[B]? = W.heap[B]? ∧ W'.heap[B + 1]? = W.heap[B + 1]?
theorem Kp.refl (n0 B : Nat) (W : World) : Kp n0 B W W := ⟨Below.refl _ _, rfl, rfl⟩
theorem Kp.trans {n0 B : Nat} {X Y Z : World} (h : Kp n0 B X Y) (k : Kp n0 B Y Z) : Kp n0 B X Z := ⟨h.1.trans k.1, k.2.1.trans h.2.1, k.2.2.trans h.2.2⟩
theorem Kp.ext {n0 B : Nat} {W W' : World} (h : Ext W W') (hn : n0 ≤ W.heap.size) (hB : B + 1 < W.heap.size) : Kp n0 B W W' :=
  ⟨Below.mono h hn, Below.block h B (by omega), Below.block h (B + 1) hB⟩
theorem kp_b {n0 B : Nat} {w : World} (hn : n0 ≤ w.heap.size) (hB : B + 1 < w.heap.size) (W : World) (l : Nat) (o o' : Obj) (hl : w.heap.size ≤ l) (h : W.heap[l]? = some o) (hc : o.isCells = false) (hw : o.isWalk = false) : Kp n0 B W (W.putObj l o') :=
  ⟨belowK_b hn W l o o' hl h hc hw, World.putObj_heap_other (by omega), World.putObj_heap_other (by omega)⟩
theorem Kp.cell0 {n0 B : Nat} {W W' : World} (h : Kp n0 B W W') {o : Nat} {v : Value} (hc : W.cell? ⟨B, o, none⟩ = some v) : W'.cell? ⟨B, o, none⟩ = some v := (World.cell?_of_block (w := W) h.2.1).trans hc
theorem Kp.cell1 {n0 B : Nat} {W W' : World} (h : Kp n0 B W W') {o : Nat} {v : Value} (hc : W.cell? ⟨B + 1, o, none⟩ = some v) : W'.cell? ⟨B + 1, o, none⟩ = some v := (World.cell?_of_block (w := W) h.2.2).trans hc
theorem ext_grown {w w' : World} (h : Ext w w') : w.grownBy w' none := ⟨Below.os h, Below.tape h, Below.output h, Below.size h, fun k hk _ => Below.block h k hk⟩
theorem crL_prefix (fs : List F3) (a b c d : Int) (j : Nat) : ∀ k, j ≤ k → crL fs a b c d j <+: crL fs a b c d k
  | 0, h => by rw [show j = 0 by omega]; exact List.prefix_refl _
  | k + 1, h => by
    by_cases e : j = k + 1
    · rw [e]; exact List.prefix_refl _
    · have h1 := crL_prefix fs a b c d j k (by omega)
      by_cases g : lwI fs a b c d k = 0
      · rw [crL_same g]; exact h1
      · rw [crL_more g]; exact h1.trans (List.prefix_append _ _)
theorem cp_yes {a b c d p q u v : Int} (h1 : sgB a b c d = true) (h2 : sgB p q u v = true) : cpN a b c d p q u v = plN (crs p q u v a b) (crs p q u v c d) ∧ cpD a b c d p q u v = plD (crs p q u v a b) (crs p q u v c d) :=
  ⟨if_pos ⟨h1, h2⟩, if_pos ⟨h1, h2⟩⟩
set_option maxRecDepth 100000 in
set_option maxHeartbeats 2000000 in
theorem crossings1_in (n : Nat) (hn : 1 ≤ n) (l B : Nat) (w0 : World) (a0 : Option Addr) (cap : Nat) (fs : List F3) (a b c d : Int) (hf : Fxs w0 a0 fs) (hv : trB fs = true) (hs : sgB a b c d = true) (J Jx : List C5 → World → Prop)
    (hY : ∀ pre x W, J pre W → pre.length < 39 → YieldAt Fence.wide (n - 1) Tryz.prog l #[CrV x] W fun e W' =>
      (e = .returned (.bool true) ∧ J (pre ++ [x]) W' ∧ Kp w0.heap.size B W W') ∨ (e = .returned (.bool false) ∧ Jx (pre ++ [x]) W'))
    (W : World) (hJ : AbidesFrom W.heap.size J) (hx : Ext w0 W) (hB : w0.heap.size ≤ B) (hB2 : B + 1 < W.heap.size)
    (c0 : W.cell? ⟨B, 0, none⟩ = some (.slice a0 fs.length cap)) (c1 : W.cell? ⟨B + 1, 0, none⟩ = some (.int .i64 a)) (c2 : W.cell? ⟨B + 1, 1, none⟩ = some (.int .i64 b))
    (c3 : W.cell? ⟨B + 1, 2, none⟩ = some (.int .i64 c)) (c4 : W.cell? ⟨B + 1, 3, none⟩ = some (.int .i64 d)) (h0 : J [] W) :
    CallsIn Fence.wide n Tryz.prog 209 #[.func (.yield l) #[] #[], .pointer (some ⟨B, 0, none⟩), .pointer (some ⟨B + 1, 0, none⟩)] W fun e W' => (∃ v, e = .returned v) ∧
      ((∃ ys, ys = crL fs a b c d (fs.length - 1) ∧ J ys W') ∨ (∃ pre, pre <+: crL fs a b c d (fs.length - 1) ∧ Jx pre W')) := by
  obtain ⟨⟨h2, h40⟩, _⟩ := trB_yes hv
  have HF := Lib.hid hf
  have HY := Lib.hid hY
  have HJ := Lib.hid hJ
  clear hf hY hJ
  refine callsIn_of_wp Tryz.func209 rfl trivial ?_ rfl
  simp only [Tryz.ntmps209, List.size_toArray, List.length_cons, List.length_nil, Nat.reduceAdd, Nat.reduceSub, Array.replicate_succ, Array.replicate_zero, List.push_toArray, List.append_toArray, List.nil_append, List.cons_append]
  gi_wp2_with (refine ⟨trivial, ?_⟩; gi_at_call 88; refine (callsIn_wide.2 (legCount_any _ _ _ _ (by omega) (by omega))).mono ?_; rintro e w1 ⟨rfl, hx1⟩)
  gi_loopw [12] (fun i wr => ∃ k : Nat, k ≤ fs.length - 1 ∧ i = .int .i64 k ∧ J (crL fs a b c d k) wr ∧ Kp w0.heap.size B W wr)
    (fun i _ => fs.length - (intOf i).toNat)
  case atStart => exact ⟨0, Nat.zero_le _, rfl, HJ.out _ _ _ none h0 (ext_grown hx1) (fun r e => by cases e), Kp.ext hx1 hx.size hB2⟩
  case round =>
    obtain ⟨k, hk, rfl, hJs, hkp⟩ := hrel
    by_cases hlt : k < fs.length - 1
    · replace c0 := hkp.cell0 c0
      replace c1 := hkp.cell1 c1
      replace c2 := hkp.cell1 c2
      replace c3 := hkp.cell1 c3
      replace c4 := hkp.cell1 c4
      have hx0 : Ext w0 wr := Below.trans hx hkp.1
      have i1 : (k : Int) < ((fs.length - 1 : Nat) : Int) := by omega
      have hk1 : k + 1 < fs.length := by omega
      obtain ⟨⟨la, lb, lc, ld⟩, _⟩ := leg_bounds hv hk1
      obtain ⟨⟨ga, gb, gc, gd⟩, _⟩ := sgB_yes hs
      have HW := Lib.hid (fun w' => wayOf_any a b c d (fx fs k).x (fx fs k).y (fx fs (k + 1)).x (fx fs (k + 1)).y w' ga gb gc gd la lb lc ld)
      have HZ := Lib.hid hx0
      have zz := hx0.size
      have zB : B + 1 < wr.heap.size := Nat.lt_of_lt_of_le hB2 hkp.1.size
      clear hx0
      by_cases hz : lwI fs a b c d k = 0
      · have HN := Lib.hid (show wyI a b c d (fx fs k).x (fx fs k).y (fx fs (k + 1)).x (fx fs (k + 1)).y = 0 from hz)
        gi_wp2_with first
          | (refine ⟨trivial, ?_⟩; gi_at_call 86; refine (callsIn_wide.2 (leg_any _ _ _ _ _ (HF.out.ext HZ.out) (by omega) (by omega))).mono ?_; rintro e w2 ⟨rfl, hx2⟩; have hx3 := hx2.alloc (.cells #[.int .i64 (fx fs k).x, .int .i64 (fx fs k).y, .int .i64 (fx fs (k + 1)).x, .int .i64 (fx fs (k + 1)).y] 122); replace c1 := hx3.cellOf c1; replace c2 := hx3.cellOf c2; replace c3 := hx3.cellOf c3; replace c4 := hx3.cellOf c4)
          | (refine ⟨trivial, ?_⟩; gi_at_call 210; refine (callsIn_wide.2 (HW.out _)).mono ?_; rintro e w3 ⟨rfl, hx4⟩; rw [HN.out]; replace hx3 := hx3.trans hx4; clear hx4)
        go_roundw
        case rel => exact ⟨k + 1, by omega, by go_num, by rw [crL_same hz]; exact HJ.out _ _ _ none hJs (ext_grown hx3) (fun r e => by cases e), hkp.trans (Kp.ext hx3 zz zB)⟩
        case measure => simp [intOf]; omega
      · obtain ⟨_, b1, b2, b3, b4⟩ := lx_bd hv hk1 hs hz
        have hm := mom_bd hv hk1 b1 b2 b3
        have HN := Lib.hid hz
        have hz2 : ¬ wyI a b c d (fx fs k).x (fx fs k).y (fx fs (k + 1)).x (fx fs (k + 1)).y = 0 := hz
        have HP : Hid (∀ w', Calls Tryz.prog 211 #[Sg (fx fs k).x (fx fs k).y (fx fs (k + 1)).x (fx fs (k + 1)).y, Sg a b c d] w' fun e w'' => e = .returned (.tuple #[Pt (lxN fs a b c d k) (lxD fs a b c d k), .int .i64 (cpC (fx fs k).x (fx fs k).y (fx fs (k + 1)).x (fx fs (k + 1)).y a b c d)]) ∧ Ext w' w'') := Lib.hid (fun w' => by
          have h := crossingPlace_impl (fx fs k).x (fx fs k).y (fx fs (k + 1)).x (fx fs (k + 1)).y a b c d w'
          obtain ⟨e1, e2⟩ := cp_yes (lw_sg hv hk1 hz) hs
          rw [e1, e2] at h
          exact h)
        have HM := Lib.hid (fun w' (h : Ext w0 w') => momentAt_any a0 cap fs k (lxN fs a b c d k) (lxD fs a b c d k) w' (HF.out.ext h) hk1 hv b1 b2 b3 b4)
        have HR := Lib.hid (fun w' => roundedUp_any (mwI fs k (lxN fs a b c d k) (lxD fs a b c d k)) (mrI fs k (lxN fs a b c d k) (lxD fs a b c d k)) (lxD fs a b c d k) w' (by unfold mwI; omega) (by unfold mwI; omega))
        clear hz b1 b2 b3 b4 hm
        gi_wp2_with first
          | (refine ⟨trivial, ?_⟩; gi_at_call 86; refine (callsIn_wide.2 (leg_any _ _ _ _ _ (HF.out.ext HZ.out) (by omega) (by omega))).mono ?_; rintro e w2 ⟨rfl, hx2⟩; have hx3 := hx2.alloc (.cells #[.int .i64 (fx fs k).x, .int .i64 (fx fs k).y, .int .i64 (fx fs (k + 1)).x, .int .i64 (fx fs (k + 1)).y] 122); replace c0 := hx3.cellOf c0; replace c1 := hx3.cellOf c1; replace c2 := hx3.cellOf c2; replace c3 := hx3.cellOf c3; replace c4 := hx3.cellOf c4
             have s0 : (w2.alloc (.cells #[.int .i64 (fx fs k).x, .int .i64 (fx fs k).y, .int .i64 (fx fs (k + 1)).x, .int .i64 (fx fs (k + 1)).y] 122)).cell? ⟨w2.heap.size, 0, none⟩ = some (.int .i64 (fx fs k).x) := boxed 0 rfl rfl
             have s1 : (w2.alloc (.cells #[.int .i64 (fx fs k).x, .int .i64 (fx fs k).y, .int .i64 (fx fs (k + 1)).x, .int .i64 (fx fs (k + 1)).y] 122)).cell? ⟨w2.heap.size, 1, none⟩ = some (.int .i64 (fx fs k).y) := boxed 1 rfl rfl
             have s2 : (w2.alloc (.cells #[.int .i64 (fx fs k).x, .int .i64 (fx fs k).y, .int .i64 (fx fs (k + 1)).x, .int .i64 (fx fs (k + 1)).y] 122)).cell? ⟨w2.heap.size, 2, none⟩ = some (.int .i64 (fx fs (k + 1)).x) := boxed 2 rfl rfl
             have s3 : (w2.alloc (.cells #[.int .i64 (fx fs k).x, .int .i64 (fx fs k).y, .int .i64 (fx fs (k + 1)).x, .int .i64 (fx fs (k + 1)).y] 122)).cell? ⟨w2.heap.size, 3, none⟩ = some (.int .i64 (fx fs (k + 1)).y) := boxed 3 rfl rfl)
          | (refine ⟨trivial, ?_⟩; gi_at_call 210; refine (callsIn_wide.2 (HW.out _)).mono ?_; rintro e w3 ⟨rfl, hx4⟩; replace hx3 := hx3.trans hx4; replace c0 := hx4.cellOf c0; replace c1 := hx4.cellOf c1; replace c2 := hx4.cellOf c2; replace c3 := hx4.cellOf c3; replace c4 := hx4.cellOf c4; replace s0 := hx4.cellOf s0; replace s1 := hx4.cellOf s1; replace s2 := hx4.cellOf s2; replace s3 := hx4.cellOf s3; clear hx4)
          | (refine ⟨trivial, ?_⟩; gi_at_call 211; refine (callsIn_wide.2 (HP.out _)).mono ?_; rintro e w4 ⟨rfl, hx4⟩; replace hx4 := hx4.alloc (.cells #[.int .i64 (lxN fs a b c d k), .int .i64 (lxD fs a b c d k)] 166); replace hx3 := hx3.trans hx4; replace c0 := hx4.cellOf c0; clear hx4 c1 c2 c3 c4 s0 s1 s2 s3
             have r0 : (w4.alloc (.cells #[.int .i64 (lxN fs a b c d k), .int .i64 (lxD fs a b c d k)] 166)).cell? ⟨w4.heap.size, 0, none⟩ = some (.int .i64 (lxN fs a b c d k)) := boxed 0 rfl rfl
             have r1 : (w4.alloc (.cells #[.int .i64 (lxN fs a b c d k), .int .i64 (lxD fs a b c d k)] 166)).cell? ⟨w4.heap.size, 1, none⟩ = some (.int .i64 (lxD fs a b c d k)) := boxed 1 rfl rfl)
          | (refine ⟨trivial, ?_⟩; gi_at_call 212; refine (callsIn_wide.2 (HM.out _ (HZ.out.trans hx3))).mono ?_; rintro e w5 ⟨rfl, hx4⟩; replace hx3 := hx3.trans hx4; replace r0 := hx4.cellOf r0; replace r1 := hx4.cellOf r1; clear hx4 c0)
          | (refine ⟨trivial, ?_⟩; gi_at_call 213; refine (callsIn_wide.2 (HR.out _)).mono ?_; rintro e w6 ⟨rfl, hx4⟩; replace hx3 := hx3.trans hx4; replace r0 := hx4.cellOf r0; replace r1 := hx4.cellOf r1; clear hx4
             obtain ⟨fn, tmps, assign, body, hy, hR⟩ := HY.out (crL fs a b c d k) (legC fs a b c d k) w6 (HJ.out _ _ _ none hJs (ext_grown hx3) (fun r e => by cases e)) (Nat.lt_of_le_of_lt (crL_len fs a b c d k) (by omega))
             dsimp only [legC, lwI] at hy)
        refine hR.mono ?_
        rintro e W3 (⟨rfl, hJ3, hk3⟩ | ⟨rfl, hJx3⟩)
        · gi_wp2
          go_roundw
          case rel => exact ⟨k + 1, by omega, by go_num, by rw [crL_more HN.out]; exact hJ3, (hkp.trans (Kp.ext hx3 zz zB)).trans hk3⟩
          case measure => simp [intOf]; omega
        · gi_wp2
          refine bodyPost_ret (results_none rfl _ _ _) rfl ?_
          exact ⟨⟨_, rfl⟩, .inr ⟨crL fs a b c d k ++ [legC fs a b c d k], by rw [← crL_more HN.out]; exact crL_prefix _ _ _ _ _ _ _ (by omega), hJx3⟩⟩
    · obtain rfl : k = fs.length - 1 := by omega
      gi_wp2
      go_end0
      exact ⟨⟨_, rfl⟩, .inl ⟨_, rfl, hJs⟩⟩
end Go.Proofs.YtplbahdomjeekaaGreat.Trk
namespace Go.Proofs.YtplbahdomjeekaaGreat.Trk
open Go.ChangeShapes Go.WideShapes Go.ChangeAt Go.RowKit Go.Shelf
open Go.Proofs.YtplbahdomjeekaaGreat.Num Go.Proofs.YtplbahdomjeekaaGreat.Kit Go.Proofs.YtplbahdomjeekaaGreat.Pts Go.Proofs.YtplbahdomjeekaaGreat.Seg Go.Proofs.YtplbahdomjeekaaGreat.Gcd Go.Proofs.YtplbahdomjeekaaGreat.Crs
set_option linter.unusedVariables false
set_option linter.unusedSimpArgs false
attribute [local go_sem] Oper.semAt_some
theorem crossings_any (sl : Value) (a b c d : Int) (w : World) :
    Calls Tryz.prog 191 #[Tr sl, Sg a b c d] w fun e w' => e = .returned (.func (.func 209) #[] #[.pointer (some ⟨w.heap.size, 0, none⟩), .pointer (some ⟨w.heap.size + 1, 0, none⟩)]) ∧
      w' = (w.alloc (.cells #[sl] 33)).alloc (.cells #[.int .i64 a, .int .i64 b, .int .i64 c, .int .i64 d] 27) := by
  go_enter Tryz.func191, Tryz.ntmps191
  go_wp2
  go_ret
  exact ⟨rfl, rfl⟩
theorem crossings_stops (n : Nat) (hn : 1 ≤ n) (B : Nat) (w0 : World) (a0 : Option Addr) (cap : Nat) (fs : List F3) (a b c d : Int) (hf : Fxs w0 a0 fs) (hv : trB fs = true) (hs : sgB a b c d = true)
    (w : World) (hx : Ext w0 w) (hB : w0.heap.size ≤ B) (hB2 : B + 1 < w.heap.size)
    (c0 : w.cell? ⟨B, 0, none⟩ = some (.slice a0 fs.length cap)) (c1 : w.cell? ⟨B + 1, 0, none⟩ = some (.int .i64 a)) (c2 : w.cell? ⟨B + 1, 1, none⟩ = some (.int .i64 b))
    (c3 : w.cell? ⟨B + 1, 2, none⟩ = some (.int .i64 c)) (c4 : w.cell? ⟨B + 1, 3, none⟩ = some (.int .i64 d)) :
    SeqStopsK Fence.wide n Tryz.prog 209 #[.pointer (some ⟨B, 0, none⟩), .pointer (some ⟨B + 1, 0, none⟩)] (fun x : C5 => #[CrV x]) (Kp w0.heap.size B)
      (fun ys => ys = crL fs a b c d (fs.length - 1)) (fun pre => pre <+: crL fs a b c d (fs.length - 1)) 39 w := fun l J Jx W hW hJ _ hY h0 => by
  have hW' : Ext w W := hW
  exact crossings1_in n hn l B w0 a0 cap fs a b c d hf hv hs J Jx hY W hJ (hx.trans hW') hB (Nat.lt_of_lt_of_le hB2 hW'.size)
    (hW'.cellOf c0) (hW'.cellOf c1) (hW'.cellOf c2) (hW'.cellOf c3) (hW'.cellOf c4) h0
def VC (W : World) (Bx : Nat) (c : C5) : Prop := ∀ i v, ([.int .i64 c.t, .int .i64 c.l, .int .i64 c.g, .int .i64 c.x, .int .i64 c.y] : List Value)[i]? = some v → W.cell? ⟨Bx, i, none⟩ = some v
theorem VC.new (W : World) (c : C5) (t : TypeId) : VC (W.alloc (.cells #[.int .i64 c.t, .int .i64 c.l, .int .i64 c.g, .int .i64 c.x, .int .i64 c.y] t)) W.heap.size c := fun i v h => boxed i (by simpa using h) rfl
theorem Kp.set {n0 B F : Nat} (W : World) (v : Value) (h0 : n0 ≤ F) (h1 : B ≠ F) (h2 : B + 1 ≠ F) : Kp n0 B W (W.setCell ⟨F, 0, none⟩ v) :=
  ⟨(Below.refl n0 W).setCell (p := ⟨F, 0, none⟩) h0 _, Below.heap_setCell W ⟨F, 0, none⟩ v B h1, Below.heap_setCell W ⟨F, 0, none⟩ v (B + 1) h2⟩
end Go.Proofs.YtplbahdomjeekaaGreat.Trk
namespace Go.Proofs.YtplbahdomjeekaaGreat.Trk
open Go.ChangeShapes Go.WideShapes Go.ChangeAt Go.RowKit Go.Shelf
open Go.Proofs.YtplbahdomjeekaaGreat.Num Go.Proofs.YtplbahdomjeekaaGreat.Kit Go.Proofs.YtplbahdomjeekaaGreat.Pts Go.Proofs.YtplbahdomjeekaaGreat.Seg Go.Proofs.YtplbahdomjeekaaGreat.Gcd Go.Proofs.YtplbahdomjeekaaGreat.Crs
set_option linter.unusedVariables false
set_option linter.unusedSimpArgs false
attribute [local go_sem] Oper.semAt_some
theorem box_own {β : Type} (n : Nat) (f : β → List Value) : Go.Own (fun s W => Box W n (f s)) := fun s A B row hs hg hr i v hv => ⟨cell_kept (hs i v hv).1 hg hr, (frozen_kept (hs i v hv).1 hg hr).trans (hs i v hv).2⟩
def isC (g f : Int) (c : C5) : Bool := c.g == g && decide (c.t ≥ f)
def fcO (cs : List C5) (g f : Int) : Option C5 := cs.find? (isC g f)
def fcV (cs : List C5) (g f : Int) : C5 := (fcO cs g f).getD ⟨0, 0, 0, 0, 0⟩
def fcC (cs : List C5) (g f : Int) : Int := if (fcO cs g f).isSome then 0 else 4
theorem fc_no {cs : List C5} {g f : Int} (h : ∀ c ∈ cs, isC g f c = false) : fcV cs g f = ⟨0, 0, 0, 0, 0⟩ ∧ fcC cs g f = 4 := by
  have e : fcO cs g f = none := List.find?_eq_none.2 (fun c hc => by rw [h c hc]; simp)
  unfold fcV fcC
  rw [e]; exact ⟨rfl, rfl⟩
theorem fc_yes {cs ini : List C5} {c : C5} {g f : Int} (h : ∀ c ∈ ini, isC g f c = false) (hc : isC g f c = true) (hp : ini ++ [c] <+: cs) : fcV cs g f = c ∧ fcC cs g f = 0 := by
  obtain ⟨r, rfl⟩ := hp
  have e : fcO (ini ++ [c] ++ r) g f = some c := by
    unfold fcO
    rw [List.append_assoc, List.find?_append, List.find?_eq_none.2 (fun c hc => by rw [h c hc]; simp)]
    simp [hc]
  unfold fcV fcC
  rw [e]; exact ⟨rfl, rfl⟩
abbrev CL (c : C5) : List Value := [.int .i64 c.t, .int .i64 c.l, .int .i64 c.g, .int .i64 c.x, .int .i64 c.y]
set_option maxRecDepth 100000 in
set_option maxHeartbeats 2000000 in
theorem first_fwd (a0 : Option Addr) (cap : Nat) (fs : List F3) (a b c d f : Int) (w : World) (hf : Fxs w a0 fs) (hv : trB fs = true) (hs : sgB a b c d = true) :
    Calls Tryz.prog 164 #[Tr (.slice a0 fs.length cap), Sg a b c d, .int .i64 1, .int .i64 f] w fun e w' => e = .returned (.tuple #[CrV (fcV (crL fs a b c d (fs.length - 1)) 1 f), .int .i64 (fcC (crL fs a b c d (fs.length - 1)) 1 f)]) ∧ Ext w w' := by
  have HF := Lib.hid hf
  clear hf
  refine (callsIn_wide (n := 5)).1 ?_
  refine callsIn_of_wp_marks Tryz.func164 rfl trivial ?_ rfl
  simp only [Tryz.ntmps164, List.size_toArray, List.length_cons, List.length_nil, Nat.reduceAdd, Nat.reduceSub, Array.replicate_succ, Array.replicate_zero, List.push_toArray, List.append_toArray, List.nil_append, List.cons_append]
  obtain ⟨W0, hW0⟩ : ∃ W0, W0 = (((((w.alloc (.cells #[.slice a0 fs.length cap] 33)).alloc (.cells #[.int .i64 a, .int .i64 b, .int .i64 c, .int .i64 d] 27)).alloc (.cells #[.int .i64 1] 2)).alloc (.cells #[.int .i64 f] 2)).alloc (.cells #[.int .i64 0, .int .i64 0, .int .i64 0, .int .i64 0, .int .i64 0] 198)).alloc (.cells #[.int .i64 0] 2) := ⟨_, rfl⟩
  have hX : Ext w W0 := hW0 ▸ ((((((Ext.refl w).alloc _).alloc _).alloc _).alloc _).alloc _).alloc _
  have c0 : W0.cell? ⟨w.heap.size, 0, none⟩ = some (.slice a0 fs.length cap) := by rw [hW0]; exact ((((((Ext.refl _).alloc _).alloc _).alloc _).alloc _).alloc _).cellOf (boxed 0 rfl rfl)
  have cl : ∀ i v, (#[.int .i64 a, .int .i64 b, .int .i64 c, .int .i64 d] : Array Value)[i]? = some v → W0.cell? ⟨w.heap.size + 1, i, none⟩ = some v := fun i v hv => by rw [hW0]; exact (((((Ext.refl _).alloc _).alloc _).alloc _).alloc _).cellOf (boxed i hv (by simp))
  have c1 : W0.cell? ⟨w.heap.size + 1, 0, none⟩ = some (.int .i64 a) := cl 0 _ rfl
  have c2 : W0.cell? ⟨w.heap.size + 1, 1, none⟩ = some (.int .i64 b) := cl 1 _ rfl
  have c3 : W0.cell? ⟨w.heap.size + 1, 2, none⟩ = some (.int .i64 c) := cl 2 _ rfl
  have c4 : W0.cell? ⟨w.heap.size + 1, 3, none⟩ = some (.int .i64 d) := cl 3 _ rfl
  have cg : W0.cell? ⟨w.heap.size + 1 + 1, 0, none⟩ = some (.int .i64 1) := by rw [hW0]; exact ((((Ext.refl _).alloc _).alloc _).alloc _).cellOf (boxed 0 rfl (by simp))
  have cf : W0.cell? ⟨w.heap.size + 1 + 1 + 1, 0, none⟩ = some (.int .i64 f) := by rw [hW0]; exact (((Ext.refl _).alloc _).alloc _).cellOf (boxed 0 rfl (by simp))
  have bR : Box W0 (w.heap.size + 1 + 1 + 1 + 1) (CL ⟨0, 0, 0, 0, 0⟩) := by rw [hW0]; exact (Box.new5 (by simp)).alloc _
  have bC : Box W0 (w.heap.size + 1 + 1 + 1 + 1 + 1) [.int .i64 0] := by rw [hW0]; exact Box.new (by simp)
  have hs0 : W0.heap.size = w.heap.size + 6 := by rw [hW0]; simp
  clear cl
  gi_wp2_with fail
  all_goals (try rw [← hW0])
  clear hW0
  gi_wp2_with first
    | (refine ⟨trivial, ?_⟩; gi_at_call 131; refine (callsIn_wide.2 (trackValid_any _ _ _ _ (HF.out.ext hX))).mono ?_; rintro e w1 ⟨rfl, hx1⟩; rw [hv]; replace hX := hX.trans hx1; replace c0 := hx1.cellOf c0; replace c1 := hx1.cellOf c1; replace c2 := hx1.cellOf c2; replace c3 := hx1.cellOf c3; replace c4 := hx1.cellOf c4; replace cg := hx1.cellOf cg; replace cf := hx1.cellOf cf; replace bR := bR.ext hx1; replace bC := bC.ext hx1; have hs1 := hx1.size; clear hx1)
    | (refine ⟨trivial, ?_⟩; gi_at_call 162; refine (callsIn_wide.2 (lineValid_any _ _ _ _ _)).mono ?_; rintro e w2 ⟨rfl, hx1⟩; rw [hs]; replace hX := hX.trans hx1; replace c0 := hx1.cellOf c0; replace c1 := hx1.cellOf c1; replace c2 := hx1.cellOf c2; replace c3 := hx1.cellOf c3; replace c4 := hx1.cellOf c4; replace cg := hx1.cellOf cg; replace cf := hx1.cellOf cf; replace bR := bR.ext hx1; replace bC := bC.ext hx1; have hs2 := Nat.le_trans hs1 hx1.size; clear hx1)
    | (refine ⟨trivial, ?_⟩; gi_at_call 191; refine (callsIn_wide.2 (crossings_any _ _ _ _ _ _)).mono ?_; rintro e w3 ⟨rfl, rfl⟩)
  have hsw := hX.size
  have WB : ∀ w', w' = (w2.alloc (.cells #[.slice a0 fs.length cap] 33)).alloc (.cells #[.int .i64 a, .int .i64 b, .int .i64 c, .int .i64 d] 27) → Ext w2 w' := fun w' h => h ▸ ((Ext.refl w2).alloc _).alloc _
  have k0 : ((w2.alloc (.cells #[.slice a0 fs.length cap] 33)).alloc (.cells #[.int .i64 a, .int .i64 b, .int .i64 c, .int .i64 d] 27)).cell? ⟨w2.heap.size, 0, none⟩ = some (.slice a0 fs.length cap) := ((Ext.refl _).alloc _).cellOf (boxed 0 rfl rfl)
  have k1 : ∀ i v, (#[.int .i64 a, .int .i64 b, .int .i64 c, .int .i64 d] : Array Value)[i]? = some v → ((w2.alloc (.cells #[.slice a0 fs.length cap] 33)).alloc (.cells #[.int .i64 a, .int .i64 b, .int .i64 c, .int .i64 d] 27)).cell? ⟨w2.heap.size + 1, i, none⟩ = some v := fun i v hv => boxed i hv (by simp)
  have hsz : ((w2.alloc (.cells #[.slice a0 fs.length cap] 33)).alloc (.cells #[.int .i64 a, .int .i64 b, .int .i64 c, .int .i64 d] 27)).heap.size = w2.heap.size + 2 := by simp
  obtain ⟨WL, hWL⟩ : ∃ WL, (w2.alloc (.cells #[.slice a0 fs.length cap] 33)).alloc (.cells #[.int .i64 a, .int .i64 b, .int .i64 c, .int .i64 d] 27) = WL := ⟨_, rfl⟩
  have hx9 := WB WL hWL.symm
  rw [hWL] at k0 k1 hsz ⊢
  replace bR := bR.ext hx9
  replace bC := bC.ext hx9
  replace cg := hx9.cellOf cg
  replace cf := hx9.cellOf cf
  replace hX := hX.trans hx9
  clear hWL WB hx9 c0 c1 c2 c3 c4
  refine wpIn_rangeFunc_ownH rfl (by omega) (gf := 209) (lb := #[.pointer (some ⟨w2.heap.size, 0, none⟩), .pointer (some ⟨w2.heap.size + 1, 0, none⟩)]) rfl trivial (enters_of Tryz.func209 (by kernel_rfl) rfl)
    (crossings_stops (5 - 1) (by omega) w2.heap.size w a0 cap fs a b c d HF.out hv hs WL hX (by omega) (by omega) k0 (k1 0 _ rfl) (k1 1 _ rfl) (k1 2 _ rfl) (k1 3 _ rfl)) (fun h k => h.trans k) (kp_b (by omega) (by omega)) (Below.refl _ _) (fun _ => rfl)
    (fun pre W => ((((Box W (w.heap.size + 1 + 1 + 1 + 1) (CL ⟨0, 0, 0, 0, 0⟩) ∧ Box W (w.heap.size + 1 + 1 + 1 + 1 + 1) [.int .i64 0]) ∧ (∀ c ∈ pre, isC 1 f c = false)) ∧ (W.cell? ⟨w.heap.size + 1 + 1, 0, none⟩ = some (.int .i64 1) ∧ W.cell? ⟨w.heap.size + 1 + 1 + 1, 0, none⟩ = some (.int .i64 f))) ∧ w2.heap.size + 2 ≤ W.heap.size) ∧ Below w.heap.size w W)
    (fun co pre W => (co = .ret ∧ ∃ ini last, pre = ini ++ [last] ∧ (∀ c ∈ ini, isC 1 f c = false) ∧ isC 1 f last = true ∧ Box W (w.heap.size + 1 + 1 + 1 + 1) (CL last) ∧ Box W (w.heap.size + 1 + 1 + 1 + 1 + 1) [.int .i64 0]) ∧ Below w.heap.size w W)
    (OwnFrom.and (OwnFrom.and (OwnFrom.and (OwnFrom.and (OwnFrom.and (Own.from (box_own _ _) _) (Own.from (box_own _ _) _)) (ownFrom_pure _ _)) (fun _ _ _ _ hs hg hr => ⟨cell_kept hs.1 hg (fun r e => (hr r e).2), cell_kept hs.2 hg (fun r e => (hr r e).2)⟩)) (fun _ _ _ _ hs hg _ => Nat.le_trans hs hg.size)) (ownFrom_below (Nat.le_refl _) (by omega)))
    (fun co => OwnFrom.and (fun _ _ _ _ hs hg hr => by
      obtain ⟨h1, ini, last, h2, h3, h4, h5, h6⟩ := hs
      exact ⟨h1, ini, last, h2, h3, h4, box_own (β := Unit) _ (fun _ => CL last) () _ _ _ h5 hg (fun r e => (hr r e).2), box_own (β := Unit) _ (fun _ => [.int .i64 0]) () _ _ _ h6 hg (fun r e => (hr r e).2)⟩) (ownFrom_below (Nat.le_refl _) (by omega)))
    ⟨⟨⟨⟨⟨bR, bC⟩, by simp⟩, cg, cf⟩, by omega⟩, hX⟩
    (fun x a' W => ∃ Bx, w2.heap.size + 1 < Bx ∧ VC W Bx x ∧ a' = { tmps := #[Tr (.slice a0 fs.length cap), Sg a b c d, .int .i64 1, .int .i64 f, .pointer (some ⟨w.heap.size, 0, none⟩), .pointer (some ⟨w.heap.size + 1, 0, none⟩), .pointer (some ⟨w.heap.size + 1 + 1, 0, none⟩), .pointer (some ⟨w.heap.size + 1 + 1 + 1, 0, none⟩),
      .pointer (some ⟨w.heap.size + 1 + 1 + 1 + 1, 0, none⟩), .pointer (some ⟨w.heap.size + 1 + 1 + 1 + 1 + 1, 0, none⟩), .pointer (some ⟨Bx, 0, none⟩), .agg #[.slice a0 fs.length cap], .bool true, .bool false, .bool false, Sg a b c d, .bool true, .bool false, .bool false, undef, .int .i64 1, .bool false, .bool false, undef, undef, .bool false, undef,
      .agg #[.slice a0 fs.length cap], Sg a b c d, .func (.func 209) #[] #[.pointer (some ⟨w2.heap.size, 0, none⟩), .pointer (some ⟨w2.heap.size + 1, 0, none⟩)], CrV x, undef, undef, undef, undef, undef, undef, undef, undef, undef, undef, undef, undef], defers := [] })
    (fun x a' _ X Y row hs hg hr => by obtain ⟨Bx, h1, h2, h3⟩ := hs; exact ⟨Bx, h1, fun i v hv => cell_kept (h2 i v hv) hg (fun r e => (hr r e).2), h3⟩)
    ?assign ?body ?done ?stop
  case assign =>
    rintro l pre x W K ⟨⟨⟨⟨⟨b1, b2⟩, hp⟩, g1, g2⟩, hsz1⟩, hB1⟩ hK
    gi_wp2
    exact hK _ _ ((KeepsOthers.alloc _ _).from _) (Kp.ext ((Ext.refl W).alloc _) hB1.size (by omega)) ⟨⟨⟨⟨⟨b1.alloc _, b2.alloc _⟩, hp⟩, ((Ext.refl _).alloc _).cellOf g1, ((Ext.refl _).alloc _).cellOf g2⟩, by simp; omega⟩, hB1.alloc hB1.size _⟩ ⟨W.heap.size, by omega, VC.new W x _, rfl⟩
  case body =>
    rintro l pre x a' W hl ⟨r, hr⟩ ⟨⟨⟨⟨⟨b1, b2⟩, hp⟩, g1, g2⟩, hsz1⟩, hB1⟩ ⟨Bx, hBx, bX, rfl⟩ hlt
    have v0 := bX 0 _ rfl
    have v1 := bX 1 _ rfl
    have v2 := bX 2 _ rfl
    have v3 := bX 3 _ rfl
    have v4 := bX 4 _ rfl
    have b1' := b1
    have b2' := b2
    obtain ⟨⟨r0, r1, r2, r3, r4⟩, s0, s1, s2, s3, s4⟩ := b1.five
    have q0 := (b2 0 _ rfl).1
    have q1 := (b2 0 _ rfl).2
    clear b1 b2
    have KF : ∀ {B : Nat} (X : World) (p : Addr) (v : Value), KeepsFrom B W X → KeepsFrom B W (X.setCell p v) := fun X p v h => h.trans ((KeepsOthers.setCell _ _ _).from _)
    have KB : ∀ (X : World) (B o : Nat) (v : Value), w.heap.size ≤ B → Below w.heap.size w X → Below w.heap.size w (X.setCell ⟨B, o, none⟩ v) := fun X B o v h1 h2 => h2.setCell (p := ⟨B, o, none⟩) h1 v
    by_cases hx : isC 1 f x = true
    · have hx' := hx
      unfold isC at hx'
      rw [Bool.and_eq_true] at hx'
      obtain ⟨x1, x2⟩ := hx'
      gi_wp2
      exact ⟨KF _ _ _ (KF _ _ _ (KF _ _ _ (KF _ _ _ (KF _ _ _ (KF _ _ _ (KeepsFrom.refl _ _)))))), ⟨rfl, pre, x, rfl, hp, hx, (b1'.set5).away (by simp) _, ((((((b2'.away (by simp) _).away (by simp) _).away (by simp) _).away (by simp) _).away (by simp) _).set 0 (by simp) _)⟩, KB _ _ _ _ (by omega) (KB _ _ _ _ (by omega) (KB _ _ _ _ (by omega) (KB _ _ _ _ (by omega) (KB _ _ _ _ (by omega) (KB _ _ _ _ (by omega) hB1)))))⟩
    · have hx2 : isC 1 f x = false := by simpa using hx
      have hp2 : ∀ c ∈ pre ++ [x], isC 1 f c = false := fun c hc => (List.mem_append.1 hc).elim (hp c) (fun e => by simp at e; subst e; exact hx2)
      have hx' := hx2
      unfold isC at hx'
      cases x1 : (x.g == 1)
      · gi_wp2
        exact ⟨KeepsFrom.refl _ _, Kp.refl _ _ _, ⟨⟨⟨⟨b1', b2'⟩, hp2⟩, g1, g2⟩, hsz1⟩, hB1⟩
      · rw [x1, Bool.true_and] at hx'
        gi_wp2
        exact ⟨KeepsFrom.refl _ _, Kp.refl _ _ _, ⟨⟨⟨⟨b1', b2'⟩, hp2⟩, g1, g2⟩, hsz1⟩, hB1⟩
  case done =>
    rintro D ys W hD rfl ⟨⟨⟨⟨⟨b1, b2⟩, hp⟩, g1, g2⟩, hsz1⟩, hB1⟩ hK
    obtain ⟨hV, hC⟩ := fc_no hp
    have b1' := b1
    have b2' := b2
    obtain ⟨⟨r0, r1, r2, r3, r4⟩, s0, s1, s2, s3, s4⟩ := b1.five
    have q0 := (b2 0 _ rfl).1
    have q1 := (b2 0 _ rfl).2
    clear b1 b2
    gi_wp2
    have c1 := (b1'.set5 (a := .int .i64 0) (b := .int .i64 0) (c := .int .i64 0) (d := .int .i64 0) (e := .int .i64 0)).away (p := ⟨w.heap.size + 1 + 1 + 1 + 1 + 1, 0, none⟩) (by simp) (.int .i64 4)
    have c2 := (((((b2'.away (p := ⟨w.heap.size + 1 + 1 + 1 + 1, 0, none⟩) (by simp) (.int .i64 0)).away (p := ⟨w.heap.size + 1 + 1 + 1 + 1, 1, none⟩) (by simp) (.int .i64 0)).away (p := ⟨w.heap.size + 1 + 1 + 1 + 1, 2, none⟩) (by simp) (.int .i64 0)).away (p := ⟨w.heap.size + 1 + 1 + 1 + 1, 3, none⟩) (by simp) (.int .i64 0)).away (p := ⟨w.heap.size + 1 + 1 + 1 + 1, 4, none⟩) (by simp) (.int .i64 0)).set 0 (by simp) (.int .i64 4)
    have hK6 := ((((((KeepsOthers.setCell W ⟨w.heap.size + 1 + 1 + 1 + 1, 0, none⟩ (.int .i64 0)).trans (KeepsOthers.setCell _ ⟨w.heap.size + 1 + 1 + 1 + 1, 1, none⟩ (.int .i64 0))).trans (KeepsOthers.setCell _ ⟨w.heap.size + 1 + 1 + 1 + 1, 2, none⟩ (.int .i64 0))).trans (KeepsOthers.setCell _ ⟨w.heap.size + 1 + 1 + 1 + 1, 3, none⟩ (.int .i64 0))).trans (KeepsOthers.setCell _ ⟨w.heap.size + 1 + 1 + 1 + 1, 4, none⟩ (.int .i64 0))).trans (KeepsOthers.setCell _ ⟨w.heap.size + 1 + 1 + 1 + 1 + 1, 0, none⟩ (.int .i64 4))).same D _ hK rfl
    have hB6 : Below w.heap.size w ((((((W.setCell ⟨w.heap.size + 1 + 1 + 1 + 1, 0, none⟩ (.int .i64 0)).setCell ⟨w.heap.size + 1 + 1 + 1 + 1, 1, none⟩ (.int .i64 0)).setCell ⟨w.heap.size + 1 + 1 + 1 + 1, 2, none⟩ (.int .i64 0)).setCell ⟨w.heap.size + 1 + 1 + 1 + 1, 3, none⟩ (.int .i64 0)).setCell ⟨w.heap.size + 1 + 1 + 1 + 1, 4, none⟩ (.int .i64 0)).setCell ⟨w.heap.size + 1 + 1 + 1 + 1 + 1, 0, none⟩ (.int .i64 4)) := ((((((hB1).setCell (p := ⟨w.heap.size + 1 + 1 + 1 + 1, 0, none⟩) (by simp; omega) (.int .i64 0)).setCell (p := ⟨w.heap.size + 1 + 1 + 1 + 1, 1, none⟩) (by simp; omega) (.int .i64 0)).setCell (p := ⟨w.heap.size + 1 + 1 + 1 + 1, 2, none⟩) (by simp; omega) (.int .i64 0)).setCell (p := ⟨w.heap.size + 1 + 1 + 1 + 1, 3, none⟩) (by simp; omega) (.int .i64 0)).setCell (p := ⟨w.heap.size + 1 + 1 + 1 + 1, 4, none⟩) (by simp; omega) (.int .i64 0)).setCell (p := ⟨w.heap.size + 1 + 1 + 1 + 1 + 1, 0, none⟩) (by simp; omega) (.int .i64 4)
    generalize ((((((W.setCell ⟨w.heap.size + 1 + 1 + 1 + 1, 0, none⟩ (.int .i64 0)).setCell ⟨w.heap.size + 1 + 1 + 1 + 1, 1, none⟩ (.int .i64 0)).setCell ⟨w.heap.size + 1 + 1 + 1 + 1, 2, none⟩ (.int .i64 0)).setCell ⟨w.heap.size + 1 + 1 + 1 + 1, 3, none⟩ (.int .i64 0)).setCell ⟨w.heap.size + 1 + 1 + 1 + 1, 4, none⟩ (.int .i64 0)).setCell ⟨w.heap.size + 1 + 1 + 1 + 1 + 1, 0, none⟩ (.int .i64 4)) = V at *
    refine ⟨by simp, .inl ⟨_, _, rfl, run_takeDeferred hK6, ?_⟩⟩
    obtain ⟨⟨r0, r1, r2, r3, r4⟩, _⟩ := (box_own (β := Unit) _ (fun _ => CL ⟨0, 0, 0, 0, 0⟩) () _ _ _ c1 (grownBy_putObj' _ D (.deferred none)) (fun r e => by cases e; exact ⟨_, hK6, rfl⟩)).five
    have q0 := (box_own (β := Unit) _ (fun _ => [Value.int .i64 4]) () _ _ _ c2 (grownBy_putObj' _ D (.deferred none)) (fun r e => by cases e; exact ⟨_, hK6, rfl⟩) 0 _ rfl).1
    refine ⟨.tuple #[CrV ⟨0, 0, 0, 0, 0⟩, .int .i64 4], ?_, rfl, hB6.trans (belowK_b (w := w) (Nat.le_refl _) _ D _ _ (by omega) hK6 rfl rfl)⟩
    simp [results, Tryz.f164, go_sem, r0, r1, r2, r3, r4, q0]
  case stop =>
    rintro D co pre W hD hpre ⟨⟨rfl, ini, last, rfl, h3, h4, b1, b2⟩, hB1⟩ hK
    obtain ⟨hV, hC⟩ := fc_yes h3 h4 hpre
    gi_wp2
    refine ⟨by simp, .inl ⟨_, _, rfl, run_takeDeferred hK, ?_⟩⟩
    obtain ⟨⟨r0, r1, r2, r3, r4⟩, _⟩ := (box_own (β := Unit) _ (fun _ => CL last) () _ _ _ b1 (grownBy_putObj' _ D (.deferred none)) (fun r e => by cases e; exact ⟨_, hK, rfl⟩)).five
    have q0 := (box_own (β := Unit) _ (fun _ => [Value.int .i64 0]) () _ _ _ b2 (grownBy_putObj' _ D (.deferred none)) (fun r e => by cases e; exact ⟨_, hK, rfl⟩) 0 _ rfl).1
    refine ⟨.tuple #[CrV last, .int .i64 0], ?_, by rw [hV, hC], hB1.trans (belowK_b (w := w) (Nat.le_refl _) _ D _ _ (by omega) hK rfl rfl)⟩
    simp [results, Tryz.f164, go_sem, r0, r1, r2, r3, r4, q0]
set_option maxRecDepth 100000 in
set_option maxHeartbeats 2000000 in
theorem first_bwd (a0 : Option Addr) (cap : Nat) (fs : List F3) (a b c d f : Int) (w : World) (hf : Fxs w a0 fs) (hv : trB fs = true) (hs : sgB a b c d = true) :
    Calls Tryz.prog 164 #[Tr (.slice a0 fs.length cap), Sg a b c d, .int .i64 (-1), .int .i64 f] w fun e w' => e = .returned (.tuple #[CrV (fcV (crL fs a b c d (fs.length - 1)) (-1) f), .int .i64 (fcC (crL fs a b c d (fs.length - 1)) (-1) f)]) ∧ Ext w w' := by
  have HF := Lib.hid hf
  clear hf
  refine (callsIn_wide (n := 5)).1 ?_
  refine callsIn_of_wp_marks Tryz.func164 rfl trivial ?_ rfl
  simp only [Tryz.ntmps164, List.size_toArray, List.length_cons, List.length_nil, Nat.reduceAdd, Nat.reduceSub, Array.replicate_succ, Array.replicate_zero, List.push_toArray, List.append_toArray, List.nil_append, List.cons_append]
  obtain ⟨W0, hW0⟩ : ∃ W0, W0 = (((((w.alloc (.cells #[.slice a0 fs.length cap] 33)).alloc (.cells #[.int .i64 a, .int .i64 b, .int .i64 c, .int .i64 d] 27)).alloc (.cells #[.int .i64 (-1)] 2)).alloc (.cells #[.int .i64 f] 2)).alloc (.cells #[.int .i64 0, .int .i64 0, .int .i64 0, .int .i64 0, .int .i64 0] 198)).alloc (.cells #[.int .i64 0] 2) := ⟨_, rfl⟩
  have hX : Ext w W0 := hW0 ▸ ((((((Ext.refl w).alloc _).alloc _).alloc _).alloc _).alloc _).alloc _
  have c0 : W0.cell? ⟨w.heap.size, 0, none⟩ = some (.slice a0 fs.length cap) := by rw [hW0]; exact ((((((Ext.refl _).alloc _).alloc _).alloc _).alloc _).alloc _).cellOf (boxed 0 rfl rfl)
  have cl : ∀ i v, (#[.int .i64 a, .int .i64 b, .int .i64 c, .int .i64 d] : Array Value)[i]? = some v → W0.cell? ⟨w.heap.size + 1, i, none⟩ = some v := fun i v hv => by rw [hW0]; exact (((((Ext.refl _).alloc _).alloc _).alloc _).alloc _).cellOf (boxed i hv (by simp))
  have c1 : W0.cell? ⟨w.heap.size + 1, 0, none⟩ = some (.int .i64 a) := cl 0 _ rfl
  have c2 : W0.cell? ⟨w.heap.size + 1, 1, none⟩ = some (.int .i64 b) := cl 1 _ rfl
  have c3 : W0.cell? ⟨w.heap.size + 1, 2, none⟩ = some (.int .i64 c) := cl 2 _ rfl
  have c4 : W0.cell? ⟨w.heap.size + 1, 3, none⟩ = some (.int .i64 d) := cl 3 _ rfl
  have cg : W0.cell? ⟨w.heap.size + 1 + 1, 0, none⟩ = some (.int .i64 (-1)) := by rw [hW0]; exact ((((Ext.refl _).alloc _).alloc _).alloc _).cellOf (boxed 0 rfl (by simp))
  have cf : W0.cell? ⟨w.heap.size + 1 + 1 + 1, 0, none⟩ = some (.int .i64 f) := by rw [hW0]; exact (((Ext.refl _).alloc _).alloc _).cellOf (boxed 0 rfl (by simp))
  have bR : Box W0 (w.heap.size + 1 + 1 + 1 + 1) (CL ⟨0, 0, 0, 0, 0⟩) := by rw [hW0]; exact (Box.new5 (by simp)).alloc _
  have bC : Box W0 (w.heap.size + 1 + 1 + 1 + 1 + 1) [.int .i64 0] := by rw [hW0]; exact Box.new (by simp)
  have hs0 : W0.heap.size = w.heap.size + 6 := by rw [hW0]; simp
  clear cl
  gi_wp2_with fail
  all_goals (try rw [← hW0])
  clear hW0
  gi_wp2_with first
    | (refine ⟨trivial, ?_⟩; gi_at_call 131; refine (callsIn_wide.2 (trackValid_any _ _ _ _ (HF.out.ext hX))).mono ?_; rintro e w1 ⟨rfl, hx1⟩; rw [hv]; replace hX := hX.trans hx1; replace c0 := hx1.cellOf c0; replace c1 := hx1.cellOf c1; replace c2 := hx1.cellOf c2; replace c3 := hx1.cellOf c3; replace c4 := hx1.cellOf c4; replace cg := hx1.cellOf cg; replace cf := hx1.cellOf cf; replace bR := bR.ext hx1; replace bC := bC.ext hx1; have hs1 := hx1.size; clear hx1)
    | (refine ⟨trivial, ?_⟩; gi_at_call 162; refine (callsIn_wide.2 (lineValid_any _ _ _ _ _)).mono ?_; rintro e w2 ⟨rfl, hx1⟩; rw [hs]; replace hX := hX.trans hx1; replace c0 := hx1.cellOf c0; replace c1 := hx1.cellOf c1; replace c2 := hx1.cellOf c2; replace c3 := hx1.cellOf c3; replace c4 := hx1.cellOf c4; replace cg := hx1.cellOf cg; replace cf := hx1.cellOf cf; replace bR := bR.ext hx1; replace bC := bC.ext hx1; have hs2 := Nat.le_trans hs1 hx1.size; clear hx1)
    | (refine ⟨trivial, ?_⟩; gi_at_call 191; refine (callsIn_wide.2 (crossings_any _ _ _ _ _ _)).mono ?_; rintro e w3 ⟨rfl, rfl⟩)
  have hsw := hX.size
  have WB : ∀ w', w' = (w2.alloc (.cells #[.slice a0 fs.length cap] 33)).alloc (.cells #[.int .i64 a, .int .i64 b, .int .i64 c, .int .i64 d] 27) → Ext w2 w' := fun w' h => h ▸ ((Ext.refl w2).alloc _).alloc _
  have k0 : ((w2.alloc (.cells #[.slice a0 fs.length cap] 33)).alloc (.cells #[.int .i64 a, .int .i64 b, .int .i64 c, .int .i64 d] 27)).cell? ⟨w2.heap.size, 0, none⟩ = some (.slice a0 fs.length cap) := ((Ext.refl _).alloc _).cellOf (boxed 0 rfl rfl)
  have k1 : ∀ i v, (#[.int .i64 a, .int .i64 b, .int .i64 c, .int .i64 d] : Array Value)[i]? = some v → ((w2.alloc (.cells #[.slice a0 fs.length cap] 33)).alloc (.cells #[.int .i64 a, .int .i64 b, .int .i64 c, .int .i64 d] 27)).cell? ⟨w2.heap.size + 1, i, none⟩ = some v := fun i v hv => boxed i hv (by simp)
  have hsz : ((w2.alloc (.cells #[.slice a0 fs.length cap] 33)).alloc (.cells #[.int .i64 a, .int .i64 b, .int .i64 c, .int .i64 d] 27)).heap.size = w2.heap.size + 2 := by simp
  obtain ⟨WL, hWL⟩ : ∃ WL, (w2.alloc (.cells #[.slice a0 fs.length cap] 33)).alloc (.cells #[.int .i64 a, .int .i64 b, .int .i64 c, .int .i64 d] 27) = WL := ⟨_, rfl⟩
  have hx9 := WB WL hWL.symm
  rw [hWL] at k0 k1 hsz ⊢
  replace bR := bR.ext hx9
  replace bC := bC.ext hx9
  replace cg := hx9.cellOf cg
  replace cf := hx9.cellOf cf
  replace hX := hX.trans hx9
  clear hWL WB hx9 c0 c1 c2 c3 c4
  refine wpIn_rangeFunc_ownH rfl (by omega) (gf := 209) (lb := #[.pointer (some ⟨w2.heap.size, 0, none⟩), .pointer (some ⟨w2.heap.size + 1, 0, none⟩)]) rfl trivial (enters_of Tryz.func209 (by kernel_rfl) rfl)
    (crossings_stops (5 - 1) (by omega) w2.heap.size w a0 cap fs a b c d HF.out hv hs WL hX (by omega) (by omega) k0 (k1 0 _ rfl) (k1 1 _ rfl) (k1 2 _ rfl) (k1 3 _ rfl)) (fun h k => h.trans k) (kp_b (by omega) (by omega)) (Below.refl _ _) (fun _ => rfl)
    (fun pre W => ((((Box W (w.heap.size + 1 + 1 + 1 + 1) (CL ⟨0, 0, 0, 0, 0⟩) ∧ Box W (w.heap.size + 1 + 1 + 1 + 1 + 1) [.int .i64 0]) ∧ (∀ c ∈ pre, isC (-1) f c = false)) ∧ (W.cell? ⟨w.heap.size + 1 + 1, 0, none⟩ = some (.int .i64 (-1)) ∧ W.cell? ⟨w.heap.size + 1 + 1 + 1, 0, none⟩ = some (.int .i64 f))) ∧ w2.heap.size + 2 ≤ W.heap.size) ∧ Below w.heap.size w W)
    (fun co pre W => (co = .ret ∧ ∃ ini last, pre = ini ++ [last] ∧ (∀ c ∈ ini, isC (-1) f c = false) ∧ isC (-1) f last = true ∧ Box W (w.heap.size + 1 + 1 + 1 + 1) (CL last) ∧ Box W (w.heap.size + 1 + 1 + 1 + 1 + 1) [.int .i64 0]) ∧ Below w.heap.size w W)
    (OwnFrom.and (OwnFrom.and (OwnFrom.and (OwnFrom.and (OwnFrom.and (Own.from (box_own _ _) _) (Own.from (box_own _ _) _)) (ownFrom_pure _ _)) (fun _ _ _ _ hs hg hr => ⟨cell_kept hs.1 hg (fun r e => (hr r e).2), cell_kept hs.2 hg (fun r e => (hr r e).2)⟩)) (fun _ _ _ _ hs hg _ => Nat.le_trans hs hg.size)) (ownFrom_below (Nat.le_refl _) (by omega)))
    (fun co => OwnFrom.and (fun _ _ _ _ hs hg hr => by
      obtain ⟨h1, ini, last, h2, h3, h4, h5, h6⟩ := hs
      exact ⟨h1, ini, last, h2, h3, h4, box_own (β := Unit) _ (fun _ => CL last) () _ _ _ h5 hg (fun r e => (hr r e).2), box_own (β := Unit) _ (fun _ => [.int .i64 0]) () _ _ _ h6 hg (fun r e => (hr r e).2)⟩) (ownFrom_below (Nat.le_refl _) (by omega)))
    ⟨⟨⟨⟨⟨bR, bC⟩, by simp⟩, cg, cf⟩, by omega⟩, hX⟩
    (fun x a' W => ∃ Bx, w2.heap.size + 1 < Bx ∧ VC W Bx x ∧ a' = { tmps := #[Tr (.slice a0 fs.length cap), Sg a b c d, .int .i64 (-1), .int .i64 f, .pointer (some ⟨w.heap.size, 0, none⟩), .pointer (some ⟨w.heap.size + 1, 0, none⟩), .pointer (some ⟨w.heap.size + 1 + 1, 0, none⟩), .pointer (some ⟨w.heap.size + 1 + 1 + 1, 0, none⟩),
      .pointer (some ⟨w.heap.size + 1 + 1 + 1 + 1, 0, none⟩), .pointer (some ⟨w.heap.size + 1 + 1 + 1 + 1 + 1, 0, none⟩), .pointer (some ⟨Bx, 0, none⟩), .agg #[.slice a0 fs.length cap], .bool true, .bool false, .bool false, Sg a b c d, .bool true, .bool false, .bool false, undef, .int .i64 (-1), .bool true, .bool true, .int .i64 (-1), .bool false, .bool false, undef,
      .agg #[.slice a0 fs.length cap], Sg a b c d, .func (.func 209) #[] #[.pointer (some ⟨w2.heap.size, 0, none⟩), .pointer (some ⟨w2.heap.size + 1, 0, none⟩)], CrV x, undef, undef, undef, undef, undef, undef, undef, undef, undef, undef, undef, undef], defers := [] })
    (fun x a' _ X Y row hs hg hr => by obtain ⟨Bx, h1, h2, h3⟩ := hs; exact ⟨Bx, h1, fun i v hv => cell_kept (h2 i v hv) hg (fun r e => (hr r e).2), h3⟩)
    ?assign ?body ?done ?stop
  case assign =>
    rintro l pre x W K ⟨⟨⟨⟨⟨b1, b2⟩, hp⟩, g1, g2⟩, hsz1⟩, hB1⟩ hK
    gi_wp2
    exact hK _ _ ((KeepsOthers.alloc _ _).from _) (Kp.ext ((Ext.refl W).alloc _) hB1.size (by omega)) ⟨⟨⟨⟨⟨b1.alloc _, b2.alloc _⟩, hp⟩, ((Ext.refl _).alloc _).cellOf g1, ((Ext.refl _).alloc _).cellOf g2⟩, by simp; omega⟩, hB1.alloc hB1.size _⟩ ⟨W.heap.size, by omega, VC.new W x _, rfl⟩
  case body =>
    rintro l pre x a' W hl ⟨r, hr⟩ ⟨⟨⟨⟨⟨b1, b2⟩, hp⟩, g1, g2⟩, hsz1⟩, hB1⟩ ⟨Bx, hBx, bX, rfl⟩ hlt
    have v0 := bX 0 _ rfl
    have v1 := bX 1 _ rfl
    have v2 := bX 2 _ rfl
    have v3 := bX 3 _ rfl
    have v4 := bX 4 _ rfl
    have b1' := b1
    have b2' := b2
    obtain ⟨⟨r0, r1, r2, r3, r4⟩, s0, s1, s2, s3, s4⟩ := b1.five
    have q0 := (b2 0 _ rfl).1
    have q1 := (b2 0 _ rfl).2
    clear b1 b2
    have KF : ∀ {B : Nat} (X : World) (p : Addr) (v : Value), KeepsFrom B W X → KeepsFrom B W (X.setCell p v) := fun X p v h => h.trans ((KeepsOthers.setCell _ _ _).from _)
    have KB : ∀ (X : World) (B o : Nat) (v : Value), w.heap.size ≤ B → Below w.heap.size w X → Below w.heap.size w (X.setCell ⟨B, o, none⟩ v) := fun X B o v h1 h2 => h2.setCell (p := ⟨B, o, none⟩) h1 v
    by_cases hx : isC (-1) f x = true
    · have hx' := hx
      unfold isC at hx'
      rw [Bool.and_eq_true] at hx'
      obtain ⟨x1, x2⟩ := hx'
      gi_wp2
      exact ⟨KF _ _ _ (KF _ _ _ (KF _ _ _ (KF _ _ _ (KF _ _ _ (KF _ _ _ (KeepsFrom.refl _ _)))))), ⟨rfl, pre, x, rfl, hp, hx, (b1'.set5).away (by simp) _, ((((((b2'.away (by simp) _).away (by simp) _).away (by simp) _).away (by simp) _).away (by simp) _).set 0 (by simp) _)⟩, KB _ _ _ _ (by omega) (KB _ _ _ _ (by omega) (KB _ _ _ _ (by omega) (KB _ _ _ _ (by omega) (KB _ _ _ _ (by omega) (KB _ _ _ _ (by omega) hB1)))))⟩
    · have hx2 : isC (-1) f x = false := by simpa using hx
      have hp2 : ∀ c ∈ pre ++ [x], isC (-1) f c = false := fun c hc => (List.mem_append.1 hc).elim (hp c) (fun e => by simp at e; subst e; exact hx2)
      have hx' := hx2
      unfold isC at hx'
      cases x1 : (x.g == (-1))
      · gi_wp2
        exact ⟨KeepsFrom.refl _ _, Kp.refl _ _ _, ⟨⟨⟨⟨b1', b2'⟩, hp2⟩, g1, g2⟩, hsz1⟩, hB1⟩
      · rw [x1, Bool.true_and] at hx'
        gi_wp2
        exact ⟨KeepsFrom.refl _ _, Kp.refl _ _ _, ⟨⟨⟨⟨b1', b2'⟩, hp2⟩, g1, g2⟩, hsz1⟩, hB1⟩
  case done =>
    rintro D ys W hD rfl ⟨⟨⟨⟨⟨b1, b2⟩, hp⟩, g1, g2⟩, hsz1⟩, hB1⟩ hK
    obtain ⟨hV, hC⟩ := fc_no hp
    have b1' := b1
    have b2' := b2
    obtain ⟨⟨r0, r1, r2, r3, r4⟩, s0, s1, s2, s3, s4⟩ := b1.five
    have q0 := (b2 0 _ rfl).1
    have q1 := (b2 0 _ rfl).2
    clear b1 b2
    gi_wp2
    have c1 := (b1'.set5 (a := .int .i64 0) (b := .int .i64 0) (c := .int .i64 0) (d := .int .i64 0) (e := .int .i64 0)).away (p := ⟨w.heap.size + 1 + 1 + 1 + 1 + 1, 0, none⟩) (by simp) (.int .i64 4)
    have c2 := (((((b2'.away (p := ⟨w.heap.size + 1 + 1 + 1 + 1, 0, none⟩) (by simp) (.int .i64 0)).away (p := ⟨w.heap.size + 1 + 1 + 1 + 1, 1, none⟩) (by simp) (.int .i64 0)).away (p := ⟨w.heap.size + 1 + 1 + 1 + 1, 2, none⟩) (by simp) (.int .i64 0)).away (p := ⟨w.heap.size + 1 + 1 + 1 + 1, 3, none⟩) (by simp) (.int .i64 0)).away (p := ⟨w.heap.size + 1 + 1 + 1 + 1, 4, none⟩) (by simp) (.int .i64 0)).set 0 (by simp) (.int .i64 4)
    have hK6 := ((((((KeepsOthers.setCell W ⟨w.heap.size + 1 + 1 + 1 + 1, 0, none⟩ (.int .i64 0)).trans (KeepsOthers.setCell _ ⟨w.heap.size + 1 + 1 + 1 + 1, 1, none⟩ (.int .i64 0))).trans (KeepsOthers.setCell _ ⟨w.heap.size + 1 + 1 + 1 + 1, 2, none⟩ (.int .i64 0))).trans (KeepsOthers.setCell _ ⟨w.heap.size + 1 + 1 + 1 + 1, 3, none⟩ (.int .i64 0))).trans (KeepsOthers.setCell _ ⟨w.heap.size + 1 + 1 + 1 + 1, 4, none⟩ (.int .i64 0))).trans (KeepsOthers.setCell _ ⟨w.heap.size + 1 + 1 + 1 + 1 + 1, 0, none⟩ (.int .i64 4))).same D _ hK rfl
    have hB6 : Below w.heap.size w ((((((W.setCell ⟨w.heap.size + 1 + 1 + 1 + 1, 0, none⟩ (.int .i64 0)).setCell ⟨w.heap.size + 1 + 1 + 1 + 1, 1, none⟩ (.int .i64 0)).setCell ⟨w.heap.size + 1 + 1 + 1 + 1, 2, none⟩ (.int .i64 0)).setCell ⟨w.heap.size + 1 + 1 + 1 + 1, 3, none⟩ (.int .i64 0)).setCell ⟨w.heap.size + 1 + 1 + 1 + 1, 4, none⟩ (.int .i64 0)).setCell ⟨w.heap.size + 1 + 1 + 1 + 1 + 1, 0, none⟩ (.int .i64 4)) := ((((((hB1).setCell (p := ⟨w.heap.size + 1 + 1 + 1 + 1, 0, none⟩) (by simp; omega) (.int .i64 0)).setCell (p := ⟨w.heap.size + 1 + 1 + 1 + 1, 1, none⟩) (by simp; omega) (.int .i64 0)).setCell (p := ⟨w.heap.size + 1 + 1 + 1 + 1, 2, none⟩) (by simp; omega) (.int .i64 0)).setCell (p := ⟨w.heap.size + 1 + 1 + 1 + 1, 3, none⟩) (by simp; omega) (.int .i64 0)).setCell (p := ⟨w.heap.size + 1 + 1 + 1 + 1, 4, none⟩) (by simp; omega) (.int .i64 0)).setCell (p := ⟨w.heap.size + 1 + 1 + 1 + 1 + 1, 0, none⟩) (by simp; omega) (.int .i64 4)
    generalize ((((((W.setCell ⟨w.heap.size + 1 + 1 + 1 + 1, 0, none⟩ (.int .i64 0)).setCell ⟨w.heap.size + 1 + 1 + 1 + 1, 1, none⟩ (.int .i64 0)).setCell ⟨w.heap.size + 1 + 1 + 1 + 1, 2, none⟩ (.int .i64 0)).setCell ⟨w.heap.size + 1 + 1 + 1 + 1, 3, none⟩ (.int .i64 0)).setCell ⟨w.heap.size + 1 + 1 + 1 + 1, 4, none⟩ (.int .i64 0)).setCell ⟨w.heap.size + 1 + 1 + 1 + 1 + 1, 0, none⟩ (.int .i64 4)) = V at *
    refine ⟨by simp, .inl ⟨_, _, rfl, run_takeDeferred hK6, ?_⟩⟩
    obtain ⟨⟨r0, r1, r2, r3, r4⟩, _⟩ := (box_own (β := Unit) _ (fun _ => CL ⟨0, 0, 0, 0, 0⟩) () _ _ _ c1 (grownBy_putObj' _ D (.deferred none)) (fun r e => by cases e; exact ⟨_, hK6, rfl⟩)).five
    have q0 := (box_own (β := Unit) _ (fun _ => [Value.int .i64 4]) () _ _ _ c2 (grownBy_putObj' _ D (.deferred none)) (fun r e => by cases e; exact ⟨_, hK6, rfl⟩) 0 _ rfl).1
    refine ⟨.tuple #[CrV ⟨0, 0, 0, 0, 0⟩, .int .i64 4], ?_, rfl, hB6.trans (belowK_b (w := w) (Nat.le_refl _) _ D _ _ (by omega) hK6 rfl rfl)⟩
    simp [results, Tryz.f164, go_sem, r0, r1, r2, r3, r4, q0]
  case stop =>
    rintro D co pre W hD hpre ⟨⟨rfl, ini, last, rfl, h3, h4, b1, b2⟩, hB1⟩ hK
    obtain ⟨hV, hC⟩ := fc_yes h3 h4 hpre
    gi_wp2
    refine ⟨by simp, .inl ⟨_, _, rfl, run_takeDeferred hK, ?_⟩⟩
    obtain ⟨⟨r0, r1, r2, r3, r4⟩, _⟩ := (box_own (β := Unit) _ (fun _ => CL last) () _ _ _ b1 (grownBy_putObj' _ D (.deferred none)) (fun r e => by cases e; exact ⟨_, hK, rfl⟩)).five
    have q0 := (box_own (β := Unit) _ (fun _ => [Value.int .i64 0]) () _ _ _ b2 (grownBy_putObj' _ D (.deferred none)) (fun r e => by cases e; exact ⟨_, hK, rfl⟩) 0 _ rfl).1
    refine ⟨.tuple #[CrV last, .int .i64 0], ?_, by rw [hV, hC], hB1.trans (belowK_b (w := w) (Nat.le_refl _) _ D _ _ (by omega) hK rfl rfl)⟩
    simp [results, Tryz.f164, go_sem, r0, r1, r2, r3, r4, q0]
end Go.Proofs.YtplbahdomjeekaaGreat.Trk
namespace Go.Proofs.YtplbahdomjeekaaGreat.Rwk
open Go.ChangeShapes Go.WideShapes Go.ChangeAt Go.RowKit
open Go.Proofs.YtplbahdomjeekaaGreat.Num Go.Proofs.YtplbahdomjeekaaGreat.Kit Go.Proofs.YtplbahdomjeekaaGreat.Pts Go.Proofs.YtplbahdomjeekaaGreat.Seg Go.Proofs.YtplbahdomjeekaaGreat.Trk
set_option linter.unusedVariables false
set_option linter.unusedSimpArgs false
theorem row_ext {w w' : World} {base size n : Nat} {e : TypeId} {v : Value} {xs : List Value} (h : w.ownsRow base e size v n xs) (k : Ext w w') : w'.ownsRow base e size v n xs := by
  refine World.ownsRow.kept h (row := none) ⟨Below.os k, Below.tape k, Below.output k, Below.size k, fun i hi _ => Below.block k i hi⟩ ?_
  cases v.ownBlock with
  | none => exact .inl rfl
  | some g => exact .inr (by simp)
theorem row_grown {w w' : World} {base size n : Nat} {e : TypeId} {v : Value} {xs : List Value} {w0 : World} (h : w.ownsRow base e size v n xs) (hg : w.grownBy w' v.ownBlock) (hb : w0.heap.size ≤ base) (hc : Ext w0 w) : Ext w0 w' :=
  ⟨hg.os.trans (Below.os hc), hg.tape.trans (Below.tape hc), hg.output.trans (Below.output hc), Nat.le_trans (Ext.size hc) hg.size, fun k hk => (hg.block k (Nat.lt_of_lt_of_le hk (Ext.size hc)) (fun e => by have := (World.ownsRow.lt h k e.symm).1; omega)).trans (Below.block hc k hk)⟩
theorem row_mono {w : World} {base b2 size n : Nat} {e : TypeId} {v : Value} {xs : List Value} (h : w.ownsRow base e size v n xs) (hb : b2 ≤ base) : w.ownsRow b2 e size v n xs := by
  refine ⟨h.1, ?_⟩
  rcases h.2 with h1 | ⟨g, cap, cur, hv, hg, r⟩
  · exact .inl h1
  · exact .inr ⟨g, cap, cur, hv, by omega, r⟩
theorem lit5_at {w : World} {a b c d e : Value} {t : TypeId} {n : Nat} (hn : w.heap.size = n) : ∀ (j : Nat) (u : Value), ([a, b, c, d, e] : List Value)[j]? = some u → (w.alloc (.cells #[a, b, c, d, e] t)).cell? ((⟨n, 0, none⟩ : Addr).add j) = some u := by
  intro j u hu
  rw [show (⟨n, 0, none⟩ : Addr).add j = ⟨n, j, none⟩ by simp [Addr.add]; omega]
  exact boxed j (by simpa using hu) hn
def OwnC (w : World) (base : Nat) (v : Value) (cs : List C5) : Prop := w.ownsRow base 198 5 v cs.length (cellsC cs)
theorem OwnC.ext {w w' : World} {base : Nat} {v : Value} {cs : List C5} (h : OwnC w base v cs) (k : Ext w w') : OwnC w' base v cs := row_ext h k
theorem OwnC.mono {w : World} {base b2 : Nat} {v : Value} {cs : List C5} (h : OwnC w base v cs) (hb : b2 ≤ base) : OwnC w b2 v cs := row_mono h hb
theorem OwnC.chg {w w' : World} {base B : Nat} {v : Value} {cs : List C5} (h : OwnC w base v cs) (k : Chg B w w') (hB : v.ownBlock ≠ some B) : OwnC w' base v cs :=
  World.ownsRow.kept h (row := some B) ⟨k.os, k.tape, k.output, k.size, fun i hi hne => k.block i hi (fun e => hne (by rw [e]))⟩ (.inr hB)
theorem OwnC.block {w : World} {base : Nat} {v : Value} {cs : List C5} (h : OwnC w base v cs) {B : Nat} (hB : B < base) : v.ownBlock ≠ some B := fun e => by have := (World.ownsRow.lt h B e).1; omega
def CAt (w : World) (b o : Nat) (c : C5) : Prop := w.cell? ⟨b, o, none⟩ = some (.int .i64 c.t) ∧ w.cell? ⟨b, o + 1, none⟩ = some (.int .i64 c.l) ∧ w.cell? ⟨b, o + 2, none⟩ = some (.int .i64 c.g) ∧ w.cell? ⟨b, o + 3, none⟩ = some (.int .i64 c.x) ∧ w.cell? ⟨b, o + 4, none⟩ = some (.int .i64 c.y)
theorem CAt.ext {w w' : World} {b o : Nat} {c : C5} (h : CAt w b o c) (k : Ext w w') : CAt w' b o c := ⟨k.cellOf h.1, k.cellOf h.2.1, k.cellOf h.2.2.1, k.cellOf h.2.2.2.1, k.cellOf h.2.2.2.2⟩
theorem OwnC.cases {w : World} {base : Nat} {v : Value} {cs : List C5} (h : OwnC w base v cs) :
    (v = .slice none 0 0 ∧ cs = []) ∨ ∃ g cap, v = .slice (some ⟨g, 0, none⟩) cs.length cap ∧ base ≤ g ∧ (∀ i, i < cs.length → CAt w g (i * 5) (cx cs i)) ∧ (∀ j, w.frozen? ⟨g, j, none⟩ = false) ∧ v.ownBlock = some g := by
  have h0 := h
  rcases h.2 with ⟨hv, hn⟩ | ⟨g, cap, cur, hv, hb, hg, hc, hm, hs, ht⟩
  · exact .inl ⟨hv, List.length_eq_zero_iff.1 hn⟩
  · rw [hv] at h0
    refine .inr ⟨g, cap, hv, hb, fun i hi => ?_, fun j => World.ownsRow.frozenAt h0 j, by rw [hv]; rfl⟩
    obtain ⟨c0, c1, c2, c3, c4⟩ := cellsC_get cs i hi
    exact ⟨by rw [World.ownsRow.cellAt h0 (i * 5) (by omega)]; exact c0, by rw [World.ownsRow.cellAt h0 (i * 5 + 1) (by omega)]; exact c1, by rw [World.ownsRow.cellAt h0 (i * 5 + 2) (by omega)]; exact c2,
      by rw [World.ownsRow.cellAt h0 (i * 5 + 3) (by omega)]; exact c3, by rw [World.ownsRow.cellAt h0 (i * 5 + 4) (by omega)]; exact c4⟩
def Cxs (w : World) (a : Option Addr) (cs : List C5) : Prop :=
  cs.length ≤ maxLen ∧ (cs = [] ∨ ∃ b off, a = some ⟨b, off, none⟩ ∧ ∀ i, i < cs.length → CAt w b (off + i * 5) (cx cs i))
theorem Cxs.ext {w w' : World} {a : Option Addr} {cs : List C5} (h : Cxs w a cs) (k : Ext w w') : Cxs w' a cs := by
  refine ⟨h.1, ?_⟩
  rcases h.2 with h | ⟨b, off, ha, h⟩
  · exact .inl h
  · exact .inr ⟨b, off, ha, fun i hi => (h i hi).ext k⟩
theorem Cxs.row {w : World} {a : Option Addr} {cs : List C5} (h : Cxs w a cs) (h0 : 0 < cs.length) : ∃ b off, a = some ⟨b, off, none⟩ ∧ ∀ i, i < cs.length → CAt w b (off + i * 5) (cx cs i) := by
  rcases h.2 with e | e
  · rw [e] at h0; simp at h0
  · exact e
theorem OwnC.cxs {w : World} {base : Nat} {v : Value} {cs : List C5} (h : OwnC w base v cs) (hl : cs.length ≤ maxLen) : ∃ a cap, v = .slice a cs.length cap ∧ Cxs w a cs := by
  rcases h.cases with ⟨hv, rfl⟩ | ⟨g, cap, hv, _, hc, _⟩
  · exact ⟨none, 0, hv, hl, .inl rfl⟩
  · exact ⟨some ⟨g, 0, none⟩, cap, hv, hl, .inr ⟨g, 0, rfl, fun i hi => by rw [Nat.zero_add]; exact hc i hi⟩⟩
end Go.Proofs.YtplbahdomjeekaaGreat.Rwk
namespace Go.Proofs.YtplbahdomjeekaaGreat.Rwk
open Go.ChangeShapes Go.WideShapes Go.ChangeAt Go.RowKit
open Go.Proofs.YtplbahdomjeekaaGreat.Num Go.Proofs.YtplbahdomjeekaaGreat.Kit Go.Proofs.YtplbahdomjeekaaGreat.Pts Go.Proofs.YtplbahdomjeekaaGreat.Seg Go.Proofs.YtplbahdomjeekaaGreat.Trk Go.Proofs.YtplbahdomjeekaaGreat.Gcd Go.Proofs.YtplbahdomjeekaaGreat.Crs
set_option linter.unusedVariables false
set_option linter.unusedSimpArgs false
def RelCR (W0 : World) (base : Nat) (fs : List F3) (a b c d : Int) (o i : Value) (wr : World) : Prop :=
  ∃ k : Nat, i = .int .i64 k ∧ k ≤ fs.length - 1 ∧ OwnC wr base o (crL fs a b c d k) ∧ Ext W0 wr
set_option maxRecDepth 100000 in
set_option maxHeartbeats 4000000 in
theorem crossings_spec (a0 : Option Addr) (cap : Nat) (fs : List F3) (a b c d : Int) (w : World) (hf : Fxs w a0 fs) (hv : trB fs = true) (hs : sgB a b c d = true) :
    Calls Tryz.prog 186 #[Tr (.slice a0 fs.length cap), Sg a b c d] w fun e w' => ∃ v, e = .returned v ∧ OwnC w' w.heap.size v (crL fs a b c d (fs.length - 1)) ∧ Ext w w' := by
  obtain ⟨⟨h2, h40⟩, _⟩ := trB_yes hv
  obtain ⟨⟨ga, gb, gc, gd⟩, _⟩ := sgB_yes hs
  rcases hf.2 with h | ⟨bb, off, rfl, hb⟩
  · rw [h] at h2; simp at h2
  obtain ⟨W0, hW0⟩ : ∃ W0, W0 = (w.alloc (.cells #[.slice (some ⟨bb, off, none⟩) fs.length cap] 33)).alloc (.cells #[.int .i64 a, .int .i64 b, .int .i64 c, .int .i64 d] 27) := ⟨_, rfl⟩
  have HW := Lib.hid (show Ext w W0 from hW0 ▸ ((Ext.refl w).alloc _).alloc _)
  have hs0 : W0.heap.size = w.heap.size + 1 + 1 := by rw [hW0]; simp
  have et : W0.cell? ⟨w.heap.size, 0, none⟩ = some (.slice (some ⟨bb, off, none⟩) fs.length cap) := by rw [hW0]; exact ((Ext.refl _).alloc _).cellOf (boxed 0 rfl rfl)
  have el : ∀ i v, (#[.int .i64 a, .int .i64 b, .int .i64 c, .int .i64 d] : Array Value)[i]? = some v → W0.cell? ⟨w.heap.size + 1, i, none⟩ = some v := fun i v hv => by rw [hW0]; exact boxed i hv (by simp)
  have O0 : OwnC (W0.alloc (.cells #[] 198)) W0.heap.size (.slice (some ⟨W0.heap.size, 0, none⟩) 0 0) [] := World.ownsRow_lit (base := W0.heap.size) (e := 198) (size := 5) W0 #[] 0 (Nat.le_refl _) (by unfold maxLen; omega) rfl
  have X1 := Lib.hid ((Ext.refl W0).alloc (.cells #[] 198))
  obtain ⟨W1, hW1⟩ : ∃ W1, W1 = W0.alloc (.cells #[] 198) := ⟨_, rfl⟩
  rw [← hW1] at O0 X1
  have HF := Lib.hid (fun w' (h : Ext w w') => hf.ext h)
  have HB := Lib.hid (fun w' (h : Ext W0 w') i (hi : i < fs.length) => (hb i hi).ext (HW.out.trans h))
  have ET := Lib.hid (fun w' (h : Ext W0 w') => h.cellOf et)
  have EL := Lib.hid (fun w' (h : Ext W0 w') i v hv => h.cellOf (el i v hv))
  have HO0 := Lib.hid O0
  clear hf hb et el O0
  obtain ⟨ti, hin, hz0, hz1, hz2⟩ := info_parts crossInfo
  go_enter Tryz.func186, Tryz.ntmps186
  go_wp2
  rw [← hW0]
  go_loopw [5, 6] (fun o i wr => RelCR W0 W0.heap.size fs a b c d o i wr) (fun o i _ => fs.length - (intOf i).toNat)
  case atStart =>
    rw [← hW1]
    exact ⟨0, rfl, Nat.zero_le _, by rw [show w.heap.size + 1 + 1 = W0.heap.size from hs0.symm]; exact HO0.out, X1.out⟩
  case round =>
    obtain ⟨k, rfl, hk, hO, hx⟩ := hrel
    have HO := Lib.hid hO
    have HX := Lib.hid hx
    clear hO hx
    have ct := ET.out wr HX.out
    by_cases hlt : k < fs.length - 1
    · have hk1 : k + 1 < fs.length := by omega
      obtain ⟨⟨la, lb, lc, ld⟩, _⟩ := leg_bounds hv hk1
      have HWY := Lib.hid (fun w' => way_spec a b c d (fx fs k).x (fx fs k).y (fx fs (k + 1)).x (fx fs (k + 1)).y w' ga gb gc gd la lb lc ld)
      have PA1 := Lib.hid (fun w' => point_spec (fx fs k).t (fx fs k).x (fx fs k).y w')
      have PA2 := Lib.hid (fun w' => point_spec (fx fs (k + 1)).t (fx fs (k + 1)).x (fx fs (k + 1)).y w')
      have i0 : (0 : Int) ≤ (k : Int) := by omega
      have i1 : (k : Int) < (fs.length : Int) := by omega
      have i2 : (0 : Int) ≤ (k : Int) + 1 := by omega
      have i3 : (k : Int) + 1 < (fs.length : Int) := by omega
      have T0 : IntKind.i64.wrap ((k : Int) + 1) = (k : Int) + 1 := wrap_succ (by omega)
      have T1 : ((k : Int) + 1).toNat = k + 1 := by omega
      have e0 : ∀ w', Ext wr w' → w'.cell? ⟨w.heap.size, 0, none⟩ = some (.slice (some ⟨bb, off, none⟩) fs.length cap) := fun w' h => ET.out w' (HX.out.trans h)
      have e1 : ∀ w', Ext wr w' → w'.cell? ⟨bb, off + k * 3, none⟩ = some (.int .i64 (fx fs k).t) := fun w' h => (HB.out w' (HX.out.trans h) k (by omega)).1
      have e2 : ∀ w', Ext wr w' → w'.cell? ⟨bb, off + k * 3 + 1, none⟩ = some (.int .i64 (fx fs k).x) := fun w' h => (HB.out w' (HX.out.trans h) k (by omega)).2.1
      have e3 : ∀ w', Ext wr w' → w'.cell? ⟨bb, off + k * 3 + 2, none⟩ = some (.int .i64 (fx fs k).y) := fun w' h => (HB.out w' (HX.out.trans h) k (by omega)).2.2
      have e4 : ∀ w', Ext wr w' → w'.cell? ⟨bb, off + (k + 1) * 3, none⟩ = some (.int .i64 (fx fs (k + 1)).t) := fun w' h => (HB.out w' (HX.out.trans h) (k + 1) hk1).1
      have e5 : ∀ w', Ext wr w' → w'.cell? ⟨bb, off + (k + 1) * 3 + 1, none⟩ = some (.int .i64 (fx fs (k + 1)).x) := fun w' h => (HB.out w' (HX.out.trans h) (k + 1) hk1).2.1
      have e6 : ∀ w', Ext wr w' → w'.cell? ⟨bb, off + (k + 1) * 3 + 2, none⟩ = some (.int .i64 (fx fs (k + 1)).y) := fun w' h => (HB.out w' (HX.out.trans h) (k + 1) hk1).2.2
      go_upto_region 5 with fail
      go_cut [7, 8] from 16 to 76 (fun s u wx => (∃ B, s = .pointer (some ⟨B, 0, none⟩) ∧ Box wx B [.int .i64 (fx fs k).x, .int .i64 (fx fs k).y]) ∧ (∃ B, u = .pointer (some ⟨B, 0, none⟩) ∧ Box wx B [.int .i64 (fx fs (k + 1)).x, .int .i64 (fx fs (k + 1)).y]) ∧ Ext wr wx)
      case first =>
        refine wp_region_held_drew (S := fun w' => Ext wr w') (by kernel_rfl) (by (try dsimp only); exact (Ext.refl _).drew) (fun hHeld => ?_)
        (refine Ord.k 0 24 (v := ?_) ?_ ?_; rotate_left; (intro w h; (try dsimp only at h); go_simp; (try with_reducible rfl)); (try simp only [Act.put, Ord.a, Ord.b, Ord.c])); (refine Ord.k 1 25 (v := ?_) ?_ ?_; rotate_left; (intro w h; (try dsimp only at h); go_simp; (try with_reducible rfl)); (try simp only [Act.put, Ord.a, Ord.b, Ord.c])); (refine Ord.k 2 26 (v := ?_) ?_ ?_; rotate_left; (intro w h; (try dsimp only at h); go_simp; (try with_reducible rfl)); (try simp only [Act.put, Ord.a, Ord.b, Ord.c])); (refine Ord.k 3 27 (v := ?_) ?_ ?_; rotate_left; (intro w h; (try dsimp only at h); go_simp; (try with_reducible rfl)); (try simp only [Act.put, Ord.a, Ord.b, Ord.c])); (refine Ord.k 4 28 (v := ?_) ?_ ?_; rotate_left; (intro w h; (try dsimp only at h); go_simp; (try with_reducible rfl)); (try simp only [Act.put, Ord.a, Ord.b, Ord.c])); (refine Ord.k 6 30 (v := ?_) ?_ ?_; rotate_left; (intro w h; (try dsimp only at h); go_simp; (try with_reducible rfl)); (try simp only [Act.put, Ord.a, Ord.b, Ord.c])); (refine Ord.k 7 31 (v := ?_) ?_ ?_; rotate_left; (intro w h; (try dsimp only at h); go_simp; (try with_reducible rfl)); (try simp only [Act.put, Ord.a, Ord.b, Ord.c])); (refine Ord.k 8 32 (v := ?_) ?_ ?_; rotate_left; (intro w h; (try dsimp only at h); go_simp; (try with_reducible rfl)); (try simp only [Act.put, Ord.a, Ord.b, Ord.c])); (refine Ord.k 9 33 (v := ?_) ?_ ?_; rotate_left; (intro w h; (try dsimp only at h); go_simp; (try with_reducible rfl)); (try simp only [Act.put, Ord.a, Ord.b, Ord.c])); (refine Ord.k 10 34 (v := ?_) ?_ ?_; rotate_left; (intro w h; (try dsimp only at h); go_simp; (try with_reducible rfl)); (try simp only [Act.put, Ord.a, Ord.b, Ord.c])); (refine Ord.k 11 35 (v := ?_) ?_ ?_; rotate_left; (intro w h; (try dsimp only at h); go_simp; (try with_reducible rfl)); (try simp only [Act.put, Ord.a, Ord.b, Ord.c]))
        have hE : Ext wr wr.drew := (Ext.refl wr).drew
        obtain ⟨V0, hV0⟩ : ∃ V0, V0 = wr.drew := ⟨_, rfl⟩
        rw [← hV0] at hE hHeld ⊢
        clear hV0
        refine wpAnyH_ready (rs := [5, 13, 14]) (by kernel_rfl) (by simp) ?_
        refine (AllReadyH.cons rfl (fun K hK => ?_) (AllReadyH.cons rfl (fun K hK => ?_) (AllReadyH.cons rfl (fun K hK => ?_) AllReadyH.nil)))
        · go_simp
          go_at_call 139
          refine (PA1.out _).mono ?_
          rintro e V1 ⟨rfl, hy⟩
          go_wp2_with fail
          have zy := Ext.size hy
          have hE' := hE.trans hy
          refine hK.out _ _ hE' (fun hHeld => ?_)
          clear hK K
          (try simp only [Act.put, Ord.a, Ord.b, Ord.c])
          replace hE := hE'
          clear hE' hy
          refine wpAnyH_ready (rs := [12, 13, 14]) (by kernel_rfl) (by simp) ?_
          refine (AllReadyH.cons rfl (fun K hK => ?_) (AllReadyH.cons rfl (fun K hK => ?_) (AllReadyH.cons rfl (fun K hK => ?_) AllReadyH.nil)))
          · go_simp
            go_at_call 139
            refine (PA2.out _).mono ?_
            rintro e V2 ⟨rfl, hy⟩
            go_wp2_with fail
            have zy := Ext.size hy
            have hE' := hE.trans hy
            refine hK.out _ _ hE' (fun hHeld => ?_)
            clear hK K
            (try simp only [Act.put, Ord.a, Ord.b, Ord.c])
            replace hE := hE'
            clear hE' hy
            refine wpAnyH_ready (rs := [13, 14]) (by kernel_rfl) (by simp) ?_
            refine (AllReadyH.cons rfl (fun K hK => ?_) (AllReadyH.cons rfl (fun K hK => ?_) AllReadyH.nil))
            · go_simp
              have hE' : Ext wr (V2.alloc (.cells #[.int .i64 0, .int .i64 0] 25)) := hE.alloc _
              refine hK.out _ _ hE' (fun hHeld => ?_)
              clear hK K
              (try simp only [Act.put, Ord.a, Ord.b, Ord.c])
              have P13 := Box.new2 (w := V2) (x := .int .i64 0) (y := .int .i64 0) (t := 25) rfl
              have zV2 := Ext.size hE
              have yV2 : V2.heap.size < (V2.alloc (.cells #[.int .i64 0, .int .i64 0] 25)).heap.size := by simp
              replace hE := hE'
              clear hE'
              generalize V2.alloc (.cells #[.int .i64 0, .int .i64 0] 25) = V3 at *
              refine wpAnyH_ready (rs := [14]) (by kernel_rfl) (by simp) ?_
              refine (AllReadyH.cons rfl (fun K hK => ?_) AllReadyH.nil)
              · go_simp
                have hE' : Ext wr (V3.alloc (.cells #[.int .i64 0, .int .i64 0] 25)) := hE.alloc _
                refine hK.out _ _ hE' (fun hHeld => ?_)
                clear hK K
                (try simp only [Act.put, Ord.a, Ord.b, Ord.c])
                replace P13 := P13.alloc (.cells #[.int .i64 0, .int .i64 0] 25)
                have P14 := Box.new2 (w := V3) (x := .int .i64 0) (y := .int .i64 0) (t := 25) rfl
                have zV3 := Ext.size hE
                have yV3 : V3.heap.size < (V3.alloc (.cells #[.int .i64 0, .int .i64 0] 25)).heap.size := by simp
                replace hE := hE'
                clear hE'
                generalize V3.alloc (.cells #[.int .i64 0, .int .i64 0] 25) = V4 at *
                obtain ⟨⟨r0, r1⟩, r2, r3⟩ := P13.two
                refine wpAnyH_ready (rs := [15]) (by kernel_rfl) (by simp) ?_
                refine AllReadyH.cons rfl (fun K hK => ?_) AllReadyH.nil
                go_simp
                have hE' : Ext wr ((V4.setCell ⟨V2.heap.size, 0, none⟩ (.int .i64 (fx fs k).x)).setCell ⟨V2.heap.size, 1, none⟩ (.int .i64 (fx fs k).y)) := (hE.setNew (by simp; omega) _).setNew (by simp; omega) _
                refine hK.out _ _ hE' (fun hHeld => ?_)
                clear hK K r0 r1 r2 r3
                (try simp only [Act.put, Ord.a, Ord.b, Ord.c])
                replace P13 := P13.set2 (u := .int .i64 (fx fs k).x) (v := .int .i64 (fx fs k).y)
                replace P14 := P14.away2 (m := V2.heap.size) (i := 0) (j := 1) (u := .int .i64 (fx fs k).x) (v := .int .i64 (fx fs k).y) (by omega)
                replace hE := hE'
                clear hE'
                generalize (V4.setCell ⟨V2.heap.size, 0, none⟩ (.int .i64 (fx fs k).x)).setCell ⟨V2.heap.size, 1, none⟩ (.int .i64 (fx fs k).y) = V5 at *
                obtain ⟨⟨r0, r1⟩, r2, r3⟩ := P14.two
                refine wpAnyH_ready (rs := [16]) (by kernel_rfl) (by simp) ?_
                refine AllReadyH.cons rfl (fun K hK => ?_) AllReadyH.nil
                go_simp
                have hE' : Ext wr ((V5.setCell ⟨V3.heap.size, 0, none⟩ (.int .i64 (fx fs (k + 1)).x)).setCell ⟨V3.heap.size, 1, none⟩ (.int .i64 (fx fs (k + 1)).y)) := (hE.setNew (by simp; omega) _).setNew (by simp; omega) _
                refine hK.out _ _ hE' (fun hHeld => ?_)
                clear hK K r0 r1 r2 r3
                (try simp only [Act.put, Ord.a, Ord.b, Ord.c])
                replace P14 := P14.set2 (u := .int .i64 (fx fs (k + 1)).x) (v := .int .i64 (fx fs (k + 1)).y)
                replace P13 := P13.away2 (m := V3.heap.size) (i := 0) (j := 1) (u := .int .i64 (fx fs (k + 1)).x) (v := .int .i64 (fx fs (k + 1)).y) (by omega)
                replace hE := hE'
                clear hE'
                generalize (V5.setCell ⟨V3.heap.size, 0, none⟩ (.int .i64 (fx fs (k + 1)).x)).setCell ⟨V3.heap.size, 1, none⟩ (.int .i64 (fx fs (k + 1)).y) = V6 at *
                refine wpAnyH_done (by kernel_rfl) ?_ _
                go_wp2_with fail
                go_meet
                exact ⟨⟨_, rfl, P13⟩, ⟨_, rfl, P14⟩, hE⟩
            · go_simp
              have hE' : Ext wr (V2.alloc (.cells #[.int .i64 0, .int .i64 0] 25)) := hE.alloc _
              refine hK.out _ _ hE' (fun hHeld => ?_)
              clear hK K
              (try simp only [Act.put, Ord.a, Ord.b, Ord.c])
              have P14 := Box.new2 (w := V2) (x := .int .i64 0) (y := .int .i64 0) (t := 25) rfl
              have zV2 := Ext.size hE
              have yV2 : V2.heap.size < (V2.alloc (.cells #[.int .i64 0, .int .i64 0] 25)).heap.size := by simp
              replace hE := hE'
              clear hE'
              generalize V2.alloc (.cells #[.int .i64 0, .int .i64 0] 25) = V3 at *
              refine wpAnyH_ready (rs := [13]) (by kernel_rfl) (by simp) ?_
              refine (AllReadyH.cons rfl (fun K hK => ?_) AllReadyH.nil)
              · go_simp
                have hE' : Ext wr (V3.alloc (.cells #[.int .i64 0, .int .i64 0] 25)) := hE.alloc _
                refine hK.out _ _ hE' (fun hHeld => ?_)
                clear hK K
                (try simp only [Act.put, Ord.a, Ord.b, Ord.c])
                replace P14 := P14.alloc (.cells #[.int .i64 0, .int .i64 0] 25)
                have P13 := Box.new2 (w := V3) (x := .int .i64 0) (y := .int .i64 0) (t := 25) rfl
                have zV3 := Ext.size hE
                have yV3 : V3.heap.size < (V3.alloc (.cells #[.int .i64 0, .int .i64 0] 25)).heap.size := by simp
                replace hE := hE'
                clear hE'
                generalize V3.alloc (.cells #[.int .i64 0, .int .i64 0] 25) = V4 at *
                obtain ⟨⟨r0, r1⟩, r2, r3⟩ := P13.two
                refine wpAnyH_ready (rs := [15]) (by kernel_rfl) (by simp) ?_
                refine AllReadyH.cons rfl (fun K hK => ?_) AllReadyH.nil
                go_simp
                have hE' : Ext wr ((V4.setCell ⟨V3.heap.size, 0, none⟩ (.int .i64 (fx fs k).x)).setCell ⟨V3.heap.size, 1, none⟩ (.int .i64 (fx fs k).y)) := (hE.setNew (by simp; omega) _).setNew (by simp; omega) _
                refine hK.out _ _ hE' (fun hHeld => ?_)
                clear hK K r0 r1 r2 r3
                (try simp only [Act.put, Ord.a, Ord.b, Ord.c])
                replace P13 := P13.set2 (u := .int .i64 (fx fs k).x) (v := .int .i64 (fx fs k).y)
                replace P14 := P14.away2 (m := V3.heap.size) (i := 0) (j := 1) (u := .int .i64 (fx fs k).x) (v := .int .i64 (fx fs k).y) (by omega)
                replace hE := hE'
                clear hE'
                generalize (V4.setCell ⟨V3.heap.size, 0, none⟩ (.int .i64 (fx fs k).x)).setCell ⟨V3.heap.size, 1, none⟩ (.int .i64 (fx fs k).y) = V5 at *
                obtain ⟨⟨r0, r1⟩, r2, r3⟩ := P14.two
                refine wpAnyH_ready (rs := [16]) (by kernel_rfl) (by simp) ?_
                refine AllReadyH.cons rfl (fun K hK => ?_) AllReadyH.nil
                go_simp
                have hE' : Ext wr ((V5.setCell ⟨V2.heap.size, 0, none⟩ (.int .i64 (fx fs (k + 1)).x)).setCell ⟨V2.heap.size, 1, none⟩ (.int .i64 (fx fs (k + 1)).y)) := (hE.setNew (by simp; omega) _).setNew (by simp; omega) _
                refine hK.out _ _ hE' (fun hHeld => ?_)
                clear hK K r0 r1 r2 r3
                (try simp only [Act.put, Ord.a, Ord.b, Ord.c])
                replace P14 := P14.set2 (u := .int .i64 (fx fs (k + 1)).x) (v := .int .i64 (fx fs (k + 1)).y)
                replace P13 := P13.away2 (m := V2.heap.size) (i := 0) (j := 1) (u := .int .i64 (fx fs (k + 1)).x) (v := .int .i64 (fx fs (k + 1)).y) (by omega)
                replace hE := hE'
                clear hE'
                generalize (V5.setCell ⟨V2.heap.size, 0, none⟩ (.int .i64 (fx fs (k + 1)).x)).setCell ⟨V2.heap.size, 1, none⟩ (.int .i64 (fx fs (k + 1)).y) = V6 at *
                refine wpAnyH_done (by kernel_rfl) ?_ _
                go_wp2_with fail
                go_meet
                exact ⟨⟨_, rfl, P13⟩, ⟨_, rfl, P14⟩, hE⟩
          · go_simp
            have hE' : Ext wr (V1.alloc (.cells #[.int .i64 0, .int .i64 0] 25)) := hE.alloc _
            refine hK.out _ _ hE' (fun hHeld => ?_)
            clear hK K
            (try simp only [Act.put, Ord.a, Ord.b, Ord.c])
            have P13 := Box.new2 (w := V1) (x := .int .i64 0) (y := .int .i64 0) (t := 25) rfl
            have zV1 := Ext.size hE
            have yV1 : V1.heap.size < (V1.alloc (.cells #[.int .i64 0, .int .i64 0] 25)).heap.size := by simp
            replace hE := hE'
            clear hE'
            generalize V1.alloc (.cells #[.int .i64 0, .int .i64 0] 25) = V2 at *
            refine wpAnyH_ready (rs := [12, 14]) (by kernel_rfl) (by simp) ?_
            refine (AllReadyH.cons rfl (fun K hK => ?_) (AllReadyH.cons rfl (fun K hK => ?_) AllReadyH.nil))
            · go_simp
              go_at_call 139
              refine (PA2.out _).mono ?_
              rintro e V3 ⟨rfl, hy⟩
              go_wp2_with fail
              have zy := Ext.size hy
              have hE' := hE.trans hy
              refine hK.out _ _ hE' (fun hHeld => ?_)
              clear hK K
              (try simp only [Act.put, Ord.a, Ord.b, Ord.c])
              replace P13 := P13.ext hy
              replace hE := hE'
              clear hE' hy
              refine wpAnyH_ready (rs := [14]) (by kernel_rfl) (by simp) ?_
              refine (AllReadyH.cons rfl (fun K hK => ?_) AllReadyH.nil)
              · go_simp
                have hE' : Ext wr (V3.alloc (.cells #[.int .i64 0, .int .i64 0] 25)) := hE.alloc _
                refine hK.out _ _ hE' (fun hHeld => ?_)
                clear hK K
                (try simp only [Act.put, Ord.a, Ord.b, Ord.c])
                replace P13 := P13.alloc (.cells #[.int .i64 0, .int .i64 0] 25)
                have P14 := Box.new2 (w := V3) (x := .int .i64 0) (y := .int .i64 0) (t := 25) rfl
                have zV3 := Ext.size hE
                have yV3 : V3.heap.size < (V3.alloc (.cells #[.int .i64 0, .int .i64 0] 25)).heap.size := by simp
                replace hE := hE'
                clear hE'
                generalize V3.alloc (.cells #[.int .i64 0, .int .i64 0] 25) = V4 at *
                obtain ⟨⟨r0, r1⟩, r2, r3⟩ := P13.two
                refine wpAnyH_ready (rs := [15]) (by kernel_rfl) (by simp) ?_
                refine AllReadyH.cons rfl (fun K hK => ?_) AllReadyH.nil
                go_simp
                have hE' : Ext wr ((V4.setCell ⟨V1.heap.size, 0, none⟩ (.int .i64 (fx fs k).x)).setCell ⟨V1.heap.size, 1, none⟩ (.int .i64 (fx fs k).y)) := (hE.setNew (by simp; omega) _).setNew (by simp; omega) _
                refine hK.out _ _ hE' (fun hHeld => ?_)
                clear hK K r0 r1 r2 r3
                (try simp only [Act.put, Ord.a, Ord.b, Ord.c])
                replace P13 := P13.set2 (u := .int .i64 (fx fs k).x) (v := .int .i64 (fx fs k).y)
                replace P14 := P14.away2 (m := V1.heap.size) (i := 0) (j := 1) (u := .int .i64 (fx fs k).x) (v := .int .i64 (fx fs k).y) (by omega)
                replace hE := hE'
                clear hE'
                generalize (V4.setCell ⟨V1.heap.size, 0, none⟩ (.int .i64 (fx fs k).x)).setCell ⟨V1.heap.size, 1, none⟩ (.int .i64 (fx fs k).y) = V5 at *
                obtain ⟨⟨r0, r1⟩, r2, r3⟩ := P14.two
                refine wpAnyH_ready (rs := [16]) (by kernel_rfl) (by simp) ?_
                refine AllReadyH.cons rfl (fun K hK => ?_) AllReadyH.nil
                go_simp
                have hE' : Ext wr ((V5.setCell ⟨V3.heap.size, 0, none⟩ (.int .i64 (fx fs (k + 1)).x)).setCell ⟨V3.heap.size, 1, none⟩ (.int .i64 (fx fs (k + 1)).y)) := (hE.setNew (by simp; omega) _).setNew (by simp; omega) _
                refine hK.out _ _ hE' (fun hHeld => ?_)
                clear hK K r0 r1 r2 r3
                (try simp only [Act.put, Ord.a, Ord.b, Ord.c])
                replace P14 := P14.set2 (u := .int .i64 (fx fs (k + 1)).x) (v := .int .i64 (fx fs (k + 1)).y)
                replace P13 := P13.away2 (m := V3.heap.size) (i := 0) (j := 1) (u := .int .i64 (fx fs (k + 1)).x) (v := .int .i64 (fx fs (k + 1)).y) (by omega)
                replace hE := hE'
                clear hE'
                generalize (V5.setCell ⟨V3.heap.size, 0, none⟩ (.int .i64 (fx fs (k + 1)).x)).setCell ⟨V3.heap.size, 1, none⟩ (.int .i64 (fx fs (k + 1)).y) = V6 at *
                refine wpAnyH_done (by kernel_rfl) ?_ _
                go_wp2_with fail
                go_meet
                exact ⟨⟨_, rfl, P13⟩, ⟨_, rfl, P14⟩, hE⟩
            · go_simp
              have hE' : Ext wr (V2.alloc (.cells #[.int .i64 0, .int .i64 0] 25)) := hE.alloc _
              refine hK.out _ _ hE' (fun hHeld => ?_)
              clear hK K
              (try simp only [Act.put, Ord.a, Ord.b, Ord.c])
              replace P13 := P13.alloc (.cells #[.int .i64 0, .int .i64 0] 25)
              have P14 := Box.new2 (w := V2) (x := .int .i64 0) (y := .int .i64 0) (t := 25) rfl
              have zV2 := Ext.size hE
              have yV2 : V2.heap.size < (V2.alloc (.cells #[.int .i64 0, .int .i64 0] 25)).heap.size := by simp
              replace hE := hE'
              clear hE'
              generalize V2.alloc (.cells #[.int .i64 0, .int .i64 0] 25) = V3 at *
              refine wpAnyH_ready (rs := [12]) (by kernel_rfl) (by simp) ?_
              refine (AllReadyH.cons rfl (fun K hK => ?_) AllReadyH.nil)
              · go_simp
                go_at_call 139
                refine (PA2.out _).mono ?_
                rintro e V4 ⟨rfl, hy⟩
                go_wp2_with fail
                have zy := Ext.size hy
                have hE' := hE.trans hy
                refine hK.out _ _ hE' (fun hHeld => ?_)
                clear hK K
                (try simp only [Act.put, Ord.a, Ord.b, Ord.c])
                replace P13 := P13.ext hy
                replace P14 := P14.ext hy
                replace hE := hE'
                clear hE' hy
                obtain ⟨⟨r0, r1⟩, r2, r3⟩ := P13.two
                refine wpAnyH_ready (rs := [15]) (by kernel_rfl) (by simp) ?_
                refine AllReadyH.cons rfl (fun K hK => ?_) AllReadyH.nil
                go_simp
                have hE' : Ext wr ((V4.setCell ⟨V1.heap.size, 0, none⟩ (.int .i64 (fx fs k).x)).setCell ⟨V1.heap.size, 1, none⟩ (.int .i64 (fx fs k).y)) := (hE.setNew (by simp; omega) _).setNew (by simp; omega) _
                refine hK.out _ _ hE' (fun hHeld => ?_)
                clear hK K r0 r1 r2 r3
                (try simp only [Act.put, Ord.a, Ord.b, Ord.c])
                replace P13 := P13.set2 (u := .int .i64 (fx fs k).x) (v := .int .i64 (fx fs k).y)
                replace P14 := P14.away2 (m := V1.heap.size) (i := 0) (j := 1) (u := .int .i64 (fx fs k).x) (v := .int .i64 (fx fs k).y) (by omega)
                replace hE := hE'
                clear hE'
                generalize (V4.setCell ⟨V1.heap.size, 0, none⟩ (.int .i64 (fx fs k).x)).setCell ⟨V1.heap.size, 1, none⟩ (.int .i64 (fx fs k).y) = V5 at *
                obtain ⟨⟨r0, r1⟩, r2, r3⟩ := P14.two
                refine wpAnyH_ready (rs := [16]) (by kernel_rfl) (by simp) ?_
                refine AllReadyH.cons rfl (fun K hK => ?_) AllReadyH.nil
                go_simp
                have hE' : Ext wr ((V5.setCell ⟨V2.heap.size, 0, none⟩ (.int .i64 (fx fs (k + 1)).x)).setCell ⟨V2.heap.size, 1, none⟩ (.int .i64 (fx fs (k + 1)).y)) := (hE.setNew (by simp; omega) _).setNew (by simp; omega) _
                refine hK.out _ _ hE' (fun hHeld => ?_)
                clear hK K r0 r1 r2 r3
                (try simp only [Act.put, Ord.a, Ord.b, Ord.c])
                replace P14 := P14.set2 (u := .int .i64 (fx fs (k + 1)).x) (v := .int .i64 (fx fs (k + 1)).y)
                replace P13 := P13.away2 (m := V2.heap.size) (i := 0) (j := 1) (u := .int .i64 (fx fs (k + 1)).x) (v := .int .i64 (fx fs (k + 1)).y) (by omega)
                replace hE := hE'
                clear hE'
                generalize (V5.setCell ⟨V2.heap.size, 0, none⟩ (.int .i64 (fx fs (k + 1)).x)).setCell ⟨V2.heap.size, 1, none⟩ (.int .i64 (fx fs (k + 1)).y) = V6 at *
                refine wpAnyH_done (by kernel_rfl) ?_ _
                go_wp2_with fail
                go_meet
                exact ⟨⟨_, rfl, P13⟩, ⟨_, rfl, P14⟩, hE⟩
          · go_simp
            have hE' : Ext wr (V1.alloc (.cells #[.int .i64 0, .int .i64 0] 25)) := hE.alloc _
            refine hK.out _ _ hE' (fun hHeld => ?_)
            clear hK K
            (try simp only [Act.put, Ord.a, Ord.b, Ord.c])
            have P14 := Box.new2 (w := V1) (x := .int .i64 0) (y := .int .i64 0) (t := 25) rfl
            have zV1 := Ext.size hE
            have yV1 : V1.heap.size < (V1.alloc (.cells #[.int .i64 0, .int .i64 0] 25)).heap.size := by simp
            replace hE := hE'
            clear hE'
            generalize V1.alloc (.cells #[.int .i64 0, .int .i64 0] 25) = V2 at *
            refine wpAnyH_ready (rs := [12, 13]) (by kernel_rfl) (by simp) ?_
            refine (AllReadyH.cons rfl (fun K hK => ?_) (AllReadyH.cons rfl (fun K hK => ?_) AllReadyH.nil))
            · go_simp
              go_at_call 139
              refine (PA2.out _).mono ?_
              rintro e V3 ⟨rfl, hy⟩
              go_wp2_with fail
              have zy := Ext.size hy
              have hE' := hE.trans hy
              refine hK.out _ _ hE' (fun hHeld => ?_)
              clear hK K
              (try simp only [Act.put, Ord.a, Ord.b, Ord.c])
              replace P14 := P14.ext hy
              replace hE := hE'
              clear hE' hy
              refine wpAnyH_ready (rs := [13]) (by kernel_rfl) (by simp) ?_
              refine (AllReadyH.cons rfl (fun K hK => ?_) AllReadyH.nil)
              · go_simp
                have hE' : Ext wr (V3.alloc (.cells #[.int .i64 0, .int .i64 0] 25)) := hE.alloc _
                refine hK.out _ _ hE' (fun hHeld => ?_)
                clear hK K
                (try simp only [Act.put, Ord.a, Ord.b, Ord.c])
                replace P14 := P14.alloc (.cells #[.int .i64 0, .int .i64 0] 25)
                have P13 := Box.new2 (w := V3) (x := .int .i64 0) (y := .int .i64 0) (t := 25) rfl
                have zV3 := Ext.size hE
                have yV3 : V3.heap.size < (V3.alloc (.cells #[.int .i64 0, .int .i64 0] 25)).heap.size := by simp
                replace hE := hE'
                clear hE'
                generalize V3.alloc (.cells #[.int .i64 0, .int .i64 0] 25) = V4 at *
                obtain ⟨⟨r0, r1⟩, r2, r3⟩ := P13.two
                refine wpAnyH_ready (rs := [15]) (by kernel_rfl) (by simp) ?_
                refine AllReadyH.cons rfl (fun K hK => ?_) AllReadyH.nil
                go_simp
                have hE' : Ext wr ((V4.setCell ⟨V3.heap.size, 0, none⟩ (.int .i64 (fx fs k).x)).setCell ⟨V3.heap.size, 1, none⟩ (.int .i64 (fx fs k).y)) := (hE.setNew (by simp; omega) _).setNew (by simp; omega) _
                refine hK.out _ _ hE' (fun hHeld => ?_)
                clear hK K r0 r1 r2 r3
                (try simp only [Act.put, Ord.a, Ord.b, Ord.c])
                replace P13 := P13.set2 (u := .int .i64 (fx fs k).x) (v := .int .i64 (fx fs k).y)
                replace P14 := P14.away2 (m := V3.heap.size) (i := 0) (j := 1) (u := .int .i64 (fx fs k).x) (v := .int .i64 (fx fs k).y) (by omega)
                replace hE := hE'
                clear hE'
                generalize (V4.setCell ⟨V3.heap.size, 0, none⟩ (.int .i64 (fx fs k).x)).setCell ⟨V3.heap.size, 1, none⟩ (.int .i64 (fx fs k).y) = V5 at *
                obtain ⟨⟨r0, r1⟩, r2, r3⟩ := P14.two
                refine wpAnyH_ready (rs := [16]) (by kernel_rfl) (by simp) ?_
                refine AllReadyH.cons rfl (fun K hK => ?_) AllReadyH.nil
                go_simp
                have hE' : Ext wr ((V5.setCell ⟨V1.heap.size, 0, none⟩ (.int .i64 (fx fs (k + 1)).x)).setCell ⟨V1.heap.size, 1, none⟩ (.int .i64 (fx fs (k + 1)).y)) := (hE.setNew (by simp; omega) _).setNew (by simp; omega) _
                refine hK.out _ _ hE' (fun hHeld => ?_)
                clear hK K r0 r1 r2 r3
                (try simp only [Act.put, Ord.a, Ord.b, Ord.c])
                replace P14 := P14.set2 (u := .int .i64 (fx fs (k + 1)).x) (v := .int .i64 (fx fs (k + 1)).y)
                replace P13 := P13.away2 (m := V1.heap.size) (i := 0) (j := 1) (u := .int .i64 (fx fs (k + 1)).x) (v := .int .i64 (fx fs (k + 1)).y) (by omega)
                replace hE := hE'
                clear hE'
                generalize (V5.setCell ⟨V1.heap.size, 0, none⟩ (.int .i64 (fx fs (k + 1)).x)).setCell ⟨V1.heap.size, 1, none⟩ (.int .i64 (fx fs (k + 1)).y) = V6 at *
                refine wpAnyH_done (by kernel_rfl) ?_ _
                go_wp2_with fail
                go_meet
                exact ⟨⟨_, rfl, P13⟩, ⟨_, rfl, P14⟩, hE⟩
            · go_simp
              have hE' : Ext wr (V2.alloc (.cells #[.int .i64 0, .int .i64 0] 25)) := hE.alloc _
              refine hK.out _ _ hE' (fun hHeld => ?_)
              clear hK K
              (try simp only [Act.put, Ord.a, Ord.b, Ord.c])
              replace P14 := P14.alloc (.cells #[.int .i64 0, .int .i64 0] 25)
              have P13 := Box.new2 (w := V2) (x := .int .i64 0) (y := .int .i64 0) (t := 25) rfl
              have zV2 := Ext.size hE
              have yV2 : V2.heap.size < (V2.alloc (.cells #[.int .i64 0, .int .i64 0] 25)).heap.size := by simp
              replace hE := hE'
              clear hE'
              generalize V2.alloc (.cells #[.int .i64 0, .int .i64 0] 25) = V3 at *
              refine wpAnyH_ready (rs := [12]) (by kernel_rfl) (by simp) ?_
              refine (AllReadyH.cons rfl (fun K hK => ?_) AllReadyH.nil)
              · go_simp
                go_at_call 139
                refine (PA2.out _).mono ?_
                rintro e V4 ⟨rfl, hy⟩
                go_wp2_with fail
                have zy := Ext.size hy
                have hE' := hE.trans hy
                refine hK.out _ _ hE' (fun hHeld => ?_)
                clear hK K
                (try simp only [Act.put, Ord.a, Ord.b, Ord.c])
                replace P14 := P14.ext hy
                replace P13 := P13.ext hy
                replace hE := hE'
                clear hE' hy
                obtain ⟨⟨r0, r1⟩, r2, r3⟩ := P13.two
                refine wpAnyH_ready (rs := [15]) (by kernel_rfl) (by simp) ?_
                refine AllReadyH.cons rfl (fun K hK => ?_) AllReadyH.nil
                go_simp
                have hE' : Ext wr ((V4.setCell ⟨V2.heap.size, 0, none⟩ (.int .i64 (fx fs k).x)).setCell ⟨V2.heap.size, 1, none⟩ (.int .i64 (fx fs k).y)) := (hE.setNew (by simp; omega) _).setNew (by simp; omega) _
                refine hK.out _ _ hE' (fun hHeld => ?_)
                clear hK K r0 r1 r2 r3
                (try simp only [Act.put, Ord.a, Ord.b, Ord.c])
                replace P13 := P13.set2 (u := .int .i64 (fx fs k).x) (v := .int .i64 (fx fs k).y)
                replace P14 := P14.away2 (m := V2.heap.size) (i := 0) (j := 1) (u := .int .i64 (fx fs k).x) (v := .int .i64 (fx fs k).y) (by omega)
                replace hE := hE'
                clear hE'
                generalize (V4.setCell ⟨V2.heap.size, 0, none⟩ (.int .i64 (fx fs k).x)).setCell ⟨V2.heap.size, 1, none⟩ (.int .i64 (fx fs k).y) = V5 at *
                obtain ⟨⟨r0, r1⟩, r2, r3⟩ := P14.two
                refine wpAnyH_ready (rs := [16]) (by kernel_rfl) (by simp) ?_
                refine AllReadyH.cons rfl (fun K hK => ?_) AllReadyH.nil
                go_simp
                have hE' : Ext wr ((V5.setCell ⟨V1.heap.size, 0, none⟩ (.int .i64 (fx fs (k + 1)).x)).setCell ⟨V1.heap.size, 1, none⟩ (.int .i64 (fx fs (k + 1)).y)) := (hE.setNew (by simp; omega) _).setNew (by simp; omega) _
                refine hK.out _ _ hE' (fun hHeld => ?_)
                clear hK K r0 r1 r2 r3
                (try simp only [Act.put, Ord.a, Ord.b, Ord.c])
                replace P14 := P14.set2 (u := .int .i64 (fx fs (k + 1)).x) (v := .int .i64 (fx fs (k + 1)).y)
                replace P13 := P13.away2 (m := V1.heap.size) (i := 0) (j := 1) (u := .int .i64 (fx fs (k + 1)).x) (v := .int .i64 (fx fs (k + 1)).y) (by omega)
                replace hE := hE'
                clear hE'
                generalize (V5.setCell ⟨V1.heap.size, 0, none⟩ (.int .i64 (fx fs (k + 1)).x)).setCell ⟨V1.heap.size, 1, none⟩ (.int .i64 (fx fs (k + 1)).y) = V6 at *
                refine wpAnyH_done (by kernel_rfl) ?_ _
                go_wp2_with fail
                go_meet
                exact ⟨⟨_, rfl, P13⟩, ⟨_, rfl, P14⟩, hE⟩
        · go_simp
          have hE' : Ext wr (V0.alloc (.cells #[.int .i64 0, .int .i64 0] 25)) := hE.alloc _
          refine hK.out _ _ hE' (fun hHeld => ?_)
          clear hK K
          (try simp only [Act.put, Ord.a, Ord.b, Ord.c])
          have P13 := Box.new2 (w := V0) (x := .int .i64 0) (y := .int .i64 0) (t := 25) rfl
          have zV0 := Ext.size hE
          have yV0 : V0.heap.size < (V0.alloc (.cells #[.int .i64 0, .int .i64 0] 25)).heap.size := by simp
          replace hE := hE'
          clear hE'
          generalize V0.alloc (.cells #[.int .i64 0, .int .i64 0] 25) = V1 at *
          refine wpAnyH_ready (rs := [5, 14]) (by kernel_rfl) (by simp) ?_
          refine (AllReadyH.cons rfl (fun K hK => ?_) (AllReadyH.cons rfl (fun K hK => ?_) AllReadyH.nil))
          · go_simp
            go_at_call 139
            refine (PA1.out _).mono ?_
            rintro e V2 ⟨rfl, hy⟩
            go_wp2_with fail
            have zy := Ext.size hy
            have hE' := hE.trans hy
            refine hK.out _ _ hE' (fun hHeld => ?_)
            clear hK K
            (try simp only [Act.put, Ord.a, Ord.b, Ord.c])
            replace P13 := P13.ext hy
            replace hE := hE'
            clear hE' hy
            refine wpAnyH_ready (rs := [12, 14]) (by kernel_rfl) (by simp) ?_
            refine (AllReadyH.cons rfl (fun K hK => ?_) (AllReadyH.cons rfl (fun K hK => ?_) AllReadyH.nil))
            · go_simp
              go_at_call 139
              refine (PA2.out _).mono ?_
              rintro e V3 ⟨rfl, hy⟩
              go_wp2_with fail
              have zy := Ext.size hy
              have hE' := hE.trans hy
              refine hK.out _ _ hE' (fun hHeld => ?_)
              clear hK K
              (try simp only [Act.put, Ord.a, Ord.b, Ord.c])
              replace P13 := P13.ext hy
              replace hE := hE'
              clear hE' hy
              refine wpAnyH_ready (rs := [14]) (by kernel_rfl) (by simp) ?_
              refine (AllReadyH.cons rfl (fun K hK => ?_) AllReadyH.nil)
              · go_simp
                have hE' : Ext wr (V3.alloc (.cells #[.int .i64 0, .int .i64 0] 25)) := hE.alloc _
                refine hK.out _ _ hE' (fun hHeld => ?_)
                clear hK K
                (try simp only [Act.put, Ord.a, Ord.b, Ord.c])
                replace P13 := P13.alloc (.cells #[.int .i64 0, .int .i64 0] 25)
                have P14 := Box.new2 (w := V3) (x := .int .i64 0) (y := .int .i64 0) (t := 25) rfl
                have zV3 := Ext.size hE
                have yV3 : V3.heap.size < (V3.alloc (.cells #[.int .i64 0, .int .i64 0] 25)).heap.size := by simp
                replace hE := hE'
                clear hE'
                generalize V3.alloc (.cells #[.int .i64 0, .int .i64 0] 25) = V4 at *
                obtain ⟨⟨r0, r1⟩, r2, r3⟩ := P13.two
                refine wpAnyH_ready (rs := [15]) (by kernel_rfl) (by simp) ?_
                refine AllReadyH.cons rfl (fun K hK => ?_) AllReadyH.nil
                go_simp
                have hE' : Ext wr ((V4.setCell ⟨V0.heap.size, 0, none⟩ (.int .i64 (fx fs k).x)).setCell ⟨V0.heap.size, 1, none⟩ (.int .i64 (fx fs k).y)) := (hE.setNew (by simp; omega) _).setNew (by simp; omega) _
                refine hK.out _ _ hE' (fun hHeld => ?_)
                clear hK K r0 r1 r2 r3
                (try simp only [Act.put, Ord.a, Ord.b, Ord.c])
                replace P13 := P13.set2 (u := .int .i64 (fx fs k).x) (v := .int .i64 (fx fs k).y)
                replace P14 := P14.away2 (m := V0.heap.size) (i := 0) (j := 1) (u := .int .i64 (fx fs k).x) (v := .int .i64 (fx fs k).y) (by omega)
                replace hE := hE'
                clear hE'
                generalize (V4.setCell ⟨V0.heap.size, 0, none⟩ (.int .i64 (fx fs k).x)).setCell ⟨V0.heap.size, 1, none⟩ (.int .i64 (fx fs k).y) = V5 at *
                obtain ⟨⟨r0, r1⟩, r2, r3⟩ := P14.two
                refine wpAnyH_ready (rs := [16]) (by kernel_rfl) (by simp) ?_
                refine AllReadyH.cons rfl (fun K hK => ?_) AllReadyH.nil
                go_simp
                have hE' : Ext wr ((V5.setCell ⟨V3.heap.size, 0, none⟩ (.int .i64 (fx fs (k + 1)).x)).setCell ⟨V3.heap.size, 1, none⟩ (.int .i64 (fx fs (k + 1)).y)) := (hE.setNew (by simp; omega) _).setNew (by simp; omega) _
                refine hK.out _ _ hE' (fun hHeld => ?_)
                clear hK K r0 r1 r2 r3
                (try simp only [Act.put, Ord.a, Ord.b, Ord.c])
                replace P14 := P14.set2 (u := .int .i64 (fx fs (k + 1)).x) (v := .int .i64 (fx fs (k + 1)).y)
                replace P13 := P13.away2 (m := V3.heap.size) (i := 0) (j := 1) (u := .int .i64 (fx fs (k + 1)).x) (v := .int .i64 (fx fs (k + 1)).y) (by omega)
                replace hE := hE'
                clear hE'
                generalize (V5.setCell ⟨V3.heap.size, 0, none⟩ (.int .i64 (fx fs (k + 1)).x)).setCell ⟨V3.heap.size, 1, none⟩ (.int .i64 (fx fs (k + 1)).y) = V6 at *
                refine wpAnyH_done (by kernel_rfl) ?_ _
                go_wp2_with fail
                go_meet
                exact ⟨⟨_, rfl, P13⟩, ⟨_, rfl, P14⟩, hE⟩
            · go_simp
              have hE' : Ext wr (V2.alloc (.cells #[.int .i64 0, .int .i64 0] 25)) := hE.alloc _
              refine hK.out _ _ hE' (fun hHeld => ?_)
              clear hK K
              (try simp only [Act.put, Ord.a, Ord.b, Ord.c])
              replace P13 := P13.alloc (.cells #[.int .i64 0, .int .i64 0] 25)
              have P14 := Box.new2 (w := V2) (x := .int .i64 0) (y := .int .i64 0) (t := 25) rfl
              have zV2 := Ext.size hE
              have yV2 : V2.heap.size < (V2.alloc (.cells #[.int .i64 0, .int .i64 0] 25)).heap.size := by simp
              replace hE := hE'
              clear hE'
              generalize V2.alloc (.cells #[.int .i64 0, .int .i64 0] 25) = V3 at *
              refine wpAnyH_ready (rs := [12]) (by kernel_rfl) (by simp) ?_
              refine (AllReadyH.cons rfl (fun K hK => ?_) AllReadyH.nil)
              · go_simp
                go_at_call 139
                refine (PA2.out _).mono ?_
                rintro e V4 ⟨rfl, hy⟩
                go_wp2_with fail
                have zy := Ext.size hy
                have hE' := hE.trans hy
                refine hK.out _ _ hE' (fun hHeld => ?_)
                clear hK K
                (try simp only [Act.put, Ord.a, Ord.b, Ord.c])
                replace P13 := P13.ext hy
                replace P14 := P14.ext hy
                replace hE := hE'
                clear hE' hy
                obtain ⟨⟨r0, r1⟩, r2, r3⟩ := P13.two
                refine wpAnyH_ready (rs := [15]) (by kernel_rfl) (by simp) ?_
                refine AllReadyH.cons rfl (fun K hK => ?_) AllReadyH.nil
                go_simp
                have hE' : Ext wr ((V4.setCell ⟨V0.heap.size, 0, none⟩ (.int .i64 (fx fs k).x)).setCell ⟨V0.heap.size, 1, none⟩ (.int .i64 (fx fs k).y)) := (hE.setNew (by simp; omega) _).setNew (by simp; omega) _
                refine hK.out _ _ hE' (fun hHeld => ?_)
                clear hK K r0 r1 r2 r3
                (try simp only [Act.put, Ord.a, Ord.b, Ord.c])
                replace P13 := P13.set2 (u := .int .i64 (fx fs k).x) (v := .int .i64 (fx fs k).y)
                replace P14 := P14.away2 (m := V0.heap.size) (i := 0) (j := 1) (u := .int .i64 (fx fs k).x) (v := .int .i64 (fx fs k).y) (by omega)
                replace hE := hE'
                clear hE'
                generalize (V4.setCell ⟨V0.heap.size, 0, none⟩ (.int .i64 (fx fs k).x)).setCell ⟨V0.heap.size, 1, none⟩ (.int .i64 (fx fs k).y) = V5 at *
                obtain ⟨⟨r0, r1⟩, r2, r3⟩ := P14.two
                refine wpAnyH_ready (rs := [16]) (by kernel_rfl) (by simp) ?_
                refine AllReadyH.cons rfl (fun K hK => ?_) AllReadyH.nil
                go_simp
                have hE' : Ext wr ((V5.setCell ⟨V2.heap.size, 0, none⟩ (.int .i64 (fx fs (k + 1)).x)).setCell ⟨V2.heap.size, 1, none⟩ (.int .i64 (fx fs (k + 1)).y)) := (hE.setNew (by simp; omega) _).setNew (by simp; omega) _
                refine hK.out _ _ hE' (fun hHeld => ?_)
                clear hK K r0 r1 r2 r3
                (try simp only [Act.put, Ord.a, Ord.b, Ord.c])
                replace P14 := P14.set2 (u := .int .i64 (fx fs (k + 1)).x) (v := .int .i64 (fx fs (k + 1)).y)
                replace P13 := P13.away2 (m := V2.heap.size) (i := 0) (j := 1) (u := .int .i64 (fx fs (k + 1)).x) (v := .int .i64 (fx fs (k + 1)).y) (by omega)
                replace hE := hE'
                clear hE'
                generalize (V5.setCell ⟨V2.heap.size, 0, none⟩ (.int .i64 (fx fs (k + 1)).x)).setCell ⟨V2.heap.size, 1, none⟩ (.int .i64 (fx fs (k + 1)).y) = V6 at *
                refine wpAnyH_done (by kernel_rfl) ?_ _
                go_wp2_with fail
                go_meet
                exact ⟨⟨_, rfl, P13⟩, ⟨_, rfl, P14⟩, hE⟩
          · go_simp
            have hE' : Ext wr (V1.alloc (.cells #[.int .i64 0, .int .i64 0] 25)) := hE.alloc _
            refine hK.out _ _ hE' (fun hHeld => ?_)
            clear hK K
            (try simp only [Act.put, Ord.a, Ord.b, Ord.c])
            replace P13 := P13.alloc (.cells #[.int .i64 0, .int .i64 0] 25)
            have P14 := Box.new2 (w := V1) (x := .int .i64 0) (y := .int .i64 0) (t := 25) rfl
            have zV1 := Ext.size hE
            have yV1 : V1.heap.size < (V1.alloc (.cells #[.int .i64 0, .int .i64 0] 25)).heap.size := by simp
            replace hE := hE'
            clear hE'
            generalize V1.alloc (.cells #[.int .i64 0, .int .i64 0] 25) = V2 at *
            refine wpAnyH_ready (rs := [5]) (by kernel_rfl) (by simp) ?_
            refine (AllReadyH.cons rfl (fun K hK => ?_) AllReadyH.nil)
            · go_simp
              go_at_call 139
              refine (PA1.out _).mono ?_
              rintro e V3 ⟨rfl, hy⟩
              go_wp2_with fail
              have zy := Ext.size hy
              have hE' := hE.trans hy
              refine hK.out _ _ hE' (fun hHeld => ?_)
              clear hK K
              (try simp only [Act.put, Ord.a, Ord.b, Ord.c])
              replace P13 := P13.ext hy
              replace P14 := P14.ext hy
              replace hE := hE'
              clear hE' hy
              refine wpAnyH_ready (rs := [12]) (by kernel_rfl) (by simp) ?_
              refine (AllReadyH.cons rfl (fun K hK => ?_) AllReadyH.nil)
              · go_simp
                go_at_call 139
                refine (PA2.out _).mono ?_
                rintro e V4 ⟨rfl, hy⟩
                go_wp2_with fail
                have zy := Ext.size hy
                have hE' := hE.trans hy
                refine hK.out _ _ hE' (fun hHeld => ?_)
                clear hK K
                (try simp only [Act.put, Ord.a, Ord.b, Ord.c])
                replace P13 := P13.ext hy
                replace P14 := P14.ext hy
                replace hE := hE'
                clear hE' hy
                obtain ⟨⟨r0, r1⟩, r2, r3⟩ := P13.two
                refine wpAnyH_ready (rs := [15]) (by kernel_rfl) (by simp) ?_
                refine AllReadyH.cons rfl (fun K hK => ?_) AllReadyH.nil
                go_simp
                have hE' : Ext wr ((V4.setCell ⟨V0.heap.size, 0, none⟩ (.int .i64 (fx fs k).x)).setCell ⟨V0.heap.size, 1, none⟩ (.int .i64 (fx fs k).y)) := (hE.setNew (by simp; omega) _).setNew (by simp; omega) _
                refine hK.out _ _ hE' (fun hHeld => ?_)
                clear hK K r0 r1 r2 r3
                (try simp only [Act.put, Ord.a, Ord.b, Ord.c])
                replace P13 := P13.set2 (u := .int .i64 (fx fs k).x) (v := .int .i64 (fx fs k).y)
                replace P14 := P14.away2 (m := V0.heap.size) (i := 0) (j := 1) (u := .int .i64 (fx fs k).x) (v := .int .i64 (fx fs k).y) (by omega)
                replace hE := hE'
                clear hE'
                generalize (V4.setCell ⟨V0.heap.size, 0, none⟩ (.int .i64 (fx fs k).x)).setCell ⟨V0.heap.size, 1, none⟩ (.int .i64 (fx fs k).y) = V5 at *
                obtain ⟨⟨r0, r1⟩, r2, r3⟩ := P14.two
                refine wpAnyH_ready (rs := [16]) (by kernel_rfl) (by simp) ?_
                refine AllReadyH.cons rfl (fun K hK => ?_) AllReadyH.nil
                go_simp
                have hE' : Ext wr ((V5.setCell ⟨V1.heap.size, 0, none⟩ (.int .i64 (fx fs (k + 1)).x)).setCell ⟨V1.heap.size, 1, none⟩ (.int .i64 (fx fs (k + 1)).y)) := (hE.setNew (by simp; omega) _).setNew (by simp; omega) _
                refine hK.out _ _ hE' (fun hHeld => ?_)
                clear hK K r0 r1 r2 r3
                (try simp only [Act.put, Ord.a, Ord.b, Ord.c])
                replace P14 := P14.set2 (u := .int .i64 (fx fs (k + 1)).x) (v := .int .i64 (fx fs (k + 1)).y)
                replace P13 := P13.away2 (m := V1.heap.size) (i := 0) (j := 1) (u := .int .i64 (fx fs (k + 1)).x) (v := .int .i64 (fx fs (k + 1)).y) (by omega)
                replace hE := hE'
                clear hE'
                generalize (V5.setCell ⟨V1.heap.size, 0, none⟩ (.int .i64 (fx fs (k + 1)).x)).setCell ⟨V1.heap.size, 1, none⟩ (.int .i64 (fx fs (k + 1)).y) = V6 at *
                refine wpAnyH_done (by kernel_rfl) ?_ _
                go_wp2_with fail
                go_meet
                exact ⟨⟨_, rfl, P13⟩, ⟨_, rfl, P14⟩, hE⟩
        · go_simp
          have hE' : Ext wr (V0.alloc (.cells #[.int .i64 0, .int .i64 0] 25)) := hE.alloc _
          refine hK.out _ _ hE' (fun hHeld => ?_)
          clear hK K
          (try simp only [Act.put, Ord.a, Ord.b, Ord.c])
          have P14 := Box.new2 (w := V0) (x := .int .i64 0) (y := .int .i64 0) (t := 25) rfl
          have zV0 := Ext.size hE
          have yV0 : V0.heap.size < (V0.alloc (.cells #[.int .i64 0, .int .i64 0] 25)).heap.size := by simp
          replace hE := hE'
          clear hE'
          generalize V0.alloc (.cells #[.int .i64 0, .int .i64 0] 25) = V1 at *
          refine wpAnyH_ready (rs := [5, 13]) (by kernel_rfl) (by simp) ?_
          refine (AllReadyH.cons rfl (fun K hK => ?_) (AllReadyH.cons rfl (fun K hK => ?_) AllReadyH.nil))
          · go_simp
            go_at_call 139
            refine (PA1.out _).mono ?_
            rintro e V2 ⟨rfl, hy⟩
            go_wp2_with fail
            have zy := Ext.size hy
            have hE' := hE.trans hy
            refine hK.out _ _ hE' (fun hHeld => ?_)
            clear hK K
            (try simp only [Act.put, Ord.a, Ord.b, Ord.c])
            replace P14 := P14.ext hy
            replace hE := hE'
            clear hE' hy
            refine wpAnyH_ready (rs := [12, 13]) (by kernel_rfl) (by simp) ?_
            refine (AllReadyH.cons rfl (fun K hK => ?_) (AllReadyH.cons rfl (fun K hK => ?_) AllReadyH.nil))
            · go_simp
              go_at_call 139
              refine (PA2.out _).mono ?_
              rintro e V3 ⟨rfl, hy⟩
              go_wp2_with fail
              have zy := Ext.size hy
              have hE' := hE.trans hy
              refine hK.out _ _ hE' (fun hHeld => ?_)
              clear hK K
              (try simp only [Act.put, Ord.a, Ord.b, Ord.c])
              replace P14 := P14.ext hy
              replace hE := hE'
              clear hE' hy
              refine wpAnyH_ready (rs := [13]) (by kernel_rfl) (by simp) ?_
              refine (AllReadyH.cons rfl (fun K hK => ?_) AllReadyH.nil)
              · go_simp
                have hE' : Ext wr (V3.alloc (.cells #[.int .i64 0, .int .i64 0] 25)) := hE.alloc _
                refine hK.out _ _ hE' (fun hHeld => ?_)
                clear hK K
                (try simp only [Act.put, Ord.a, Ord.b, Ord.c])
                replace P14 := P14.alloc (.cells #[.int .i64 0, .int .i64 0] 25)
                have P13 := Box.new2 (w := V3) (x := .int .i64 0) (y := .int .i64 0) (t := 25) rfl
                have zV3 := Ext.size hE
                have yV3 : V3.heap.size < (V3.alloc (.cells #[.int .i64 0, .int .i64 0] 25)).heap.size := by simp
                replace hE := hE'
                clear hE'
                generalize V3.alloc (.cells #[.int .i64 0, .int .i64 0] 25) = V4 at *
                obtain ⟨⟨r0, r1⟩, r2, r3⟩ := P13.two
                refine wpAnyH_ready (rs := [15]) (by kernel_rfl) (by simp) ?_
                refine AllReadyH.cons rfl (fun K hK => ?_) AllReadyH.nil
                go_simp
                have hE' : Ext wr ((V4.setCell ⟨V3.heap.size, 0, none⟩ (.int .i64 (fx fs k).x)).setCell ⟨V3.heap.size, 1, none⟩ (.int .i64 (fx fs k).y)) := (hE.setNew (by simp; omega) _).setNew (by simp; omega) _
                refine hK.out _ _ hE' (fun hHeld => ?_)
                clear hK K r0 r1 r2 r3
                (try simp only [Act.put, Ord.a, Ord.b, Ord.c])
                replace P13 := P13.set2 (u := .int .i64 (fx fs k).x) (v := .int .i64 (fx fs k).y)
                replace P14 := P14.away2 (m := V3.heap.size) (i := 0) (j := 1) (u := .int .i64 (fx fs k).x) (v := .int .i64 (fx fs k).y) (by omega)
                replace hE := hE'
                clear hE'
                generalize (V4.setCell ⟨V3.heap.size, 0, none⟩ (.int .i64 (fx fs k).x)).setCell ⟨V3.heap.size, 1, none⟩ (.int .i64 (fx fs k).y) = V5 at *
                obtain ⟨⟨r0, r1⟩, r2, r3⟩ := P14.two
                refine wpAnyH_ready (rs := [16]) (by kernel_rfl) (by simp) ?_
                refine AllReadyH.cons rfl (fun K hK => ?_) AllReadyH.nil
                go_simp
                have hE' : Ext wr ((V5.setCell ⟨V0.heap.size, 0, none⟩ (.int .i64 (fx fs (k + 1)).x)).setCell ⟨V0.heap.size, 1, none⟩ (.int .i64 (fx fs (k + 1)).y)) := (hE.setNew (by simp; omega) _).setNew (by simp; omega) _
                refine hK.out _ _ hE' (fun hHeld => ?_)
                clear hK K r0 r1 r2 r3
                (try simp only [Act.put, Ord.a, Ord.b, Ord.c])
                replace P14 := P14.set2 (u := .int .i64 (fx fs (k + 1)).x) (v := .int .i64 (fx fs (k + 1)).y)
                replace P13 := P13.away2 (m := V0.heap.size) (i := 0) (j := 1) (u := .int .i64 (fx fs (k + 1)).x) (v := .int .i64 (fx fs (k + 1)).y) (by omega)
                replace hE := hE'
                clear hE'
                generalize (V5.setCell ⟨V0.heap.size, 0, none⟩ (.int .i64 (fx fs (k + 1)).x)).setCell ⟨V0.heap.size, 1, none⟩ (.int .i64 (fx fs (k + 1)).y) = V6 at *
                refine wpAnyH_done (by kernel_rfl) ?_ _
                go_wp2_with fail
                go_meet
                exact ⟨⟨_, rfl, P13⟩, ⟨_, rfl, P14⟩, hE⟩
            · go_simp
              have hE' : Ext wr (V2.alloc (.cells #[.int .i64 0, .int .i64 0] 25)) := hE.alloc _
              refine hK.out _ _ hE' (fun hHeld => ?_)
              clear hK K
              (try simp only [Act.put, Ord.a, Ord.b, Ord.c])
              replace P14 := P14.alloc (.cells #[.int .i64 0, .int .i64 0] 25)
              have P13 := Box.new2 (w := V2) (x := .int .i64 0) (y := .int .i64 0) (t := 25) rfl
              have zV2 := Ext.size hE
              have yV2 : V2.heap.size < (V2.alloc (.cells #[.int .i64 0, .int .i64 0] 25)).heap.size := by simp
              replace hE := hE'
              clear hE'
              generalize V2.alloc (.cells #[.int .i64 0, .int .i64 0] 25) = V3 at *
              refine wpAnyH_ready (rs := [12]) (by kernel_rfl) (by simp) ?_
              refine (AllReadyH.cons rfl (fun K hK => ?_) AllReadyH.nil)
              · go_simp
                go_at_call 139
                refine (PA2.out _).mono ?_
                rintro e V4 ⟨rfl, hy⟩
                go_wp2_with fail
                have zy := Ext.size hy
                have hE' := hE.trans hy
                refine hK.out _ _ hE' (fun hHeld => ?_)
                clear hK K
                (try simp only [Act.put, Ord.a, Ord.b, Ord.c])
                replace P14 := P14.ext hy
                replace P13 := P13.ext hy
                replace hE := hE'
                clear hE' hy
                obtain ⟨⟨r0, r1⟩, r2, r3⟩ := P13.two
                refine wpAnyH_ready (rs := [15]) (by kernel_rfl) (by simp) ?_
                refine AllReadyH.cons rfl (fun K hK => ?_) AllReadyH.nil
                go_simp
                have hE' : Ext wr ((V4.setCell ⟨V2.heap.size, 0, none⟩ (.int .i64 (fx fs k).x)).setCell ⟨V2.heap.size, 1, none⟩ (.int .i64 (fx fs k).y)) := (hE.setNew (by simp; omega) _).setNew (by simp; omega) _
                refine hK.out _ _ hE' (fun hHeld => ?_)
                clear hK K r0 r1 r2 r3
                (try simp only [Act.put, Ord.a, Ord.b, Ord.c])
                replace P13 := P13.set2 (u := .int .i64 (fx fs k).x) (v := .int .i64 (fx fs k).y)
                replace P14 := P14.away2 (m := V2.heap.size) (i := 0) (j := 1) (u := .int .i64 (fx fs k).x) (v := .int .i64 (fx fs k).y) (by omega)
                replace hE := hE'
                clear hE'
                generalize (V4.setCell ⟨V2.heap.size, 0, none⟩ (.int .i64 (fx fs k).x)).setCell ⟨V2.heap.size, 1, none⟩ (.int .i64 (fx fs k).y) = V5 at *
                obtain ⟨⟨r0, r1⟩, r2, r3⟩ := P14.two
                refine wpAnyH_ready (rs := [16]) (by kernel_rfl) (by simp) ?_
                refine AllReadyH.cons rfl (fun K hK => ?_) AllReadyH.nil
                go_simp
                have hE' : Ext wr ((V5.setCell ⟨V0.heap.size, 0, none⟩ (.int .i64 (fx fs (k + 1)).x)).setCell ⟨V0.heap.size, 1, none⟩ (.int .i64 (fx fs (k + 1)).y)) := (hE.setNew (by simp; omega) _).setNew (by simp; omega) _
                refine hK.out _ _ hE' (fun hHeld => ?_)
                clear hK K r0 r1 r2 r3
                (try simp only [Act.put, Ord.a, Ord.b, Ord.c])
                replace P14 := P14.set2 (u := .int .i64 (fx fs (k + 1)).x) (v := .int .i64 (fx fs (k + 1)).y)
                replace P13 := P13.away2 (m := V0.heap.size) (i := 0) (j := 1) (u := .int .i64 (fx fs (k + 1)).x) (v := .int .i64 (fx fs (k + 1)).y) (by omega)
                replace hE := hE'
                clear hE'
                generalize (V5.setCell ⟨V0.heap.size, 0, none⟩ (.int .i64 (fx fs (k + 1)).x)).setCell ⟨V0.heap.size, 1, none⟩ (.int .i64 (fx fs (k + 1)).y) = V6 at *
                refine wpAnyH_done (by kernel_rfl) ?_ _
                go_wp2_with fail
                go_meet
                exact ⟨⟨_, rfl, P13⟩, ⟨_, rfl, P14⟩, hE⟩
          · go_simp
            have hE' : Ext wr (V1.alloc (.cells #[.int .i64 0, .int .i64 0] 25)) := hE.alloc _
            refine hK.out _ _ hE' (fun hHeld => ?_)
            clear hK K
            (try simp only [Act.put, Ord.a, Ord.b, Ord.c])
            replace P14 := P14.alloc (.cells #[.int .i64 0, .int .i64 0] 25)
            have P13 := Box.new2 (w := V1) (x := .int .i64 0) (y := .int .i64 0) (t := 25) rfl
            have zV1 := Ext.size hE
            have yV1 : V1.heap.size < (V1.alloc (.cells #[.int .i64 0, .int .i64 0] 25)).heap.size := by simp
            replace hE := hE'
            clear hE'
            generalize V1.alloc (.cells #[.int .i64 0, .int .i64 0] 25) = V2 at *
            refine wpAnyH_ready (rs := [5]) (by kernel_rfl) (by simp) ?_
            refine (AllReadyH.cons rfl (fun K hK => ?_) AllReadyH.nil)
            · go_simp
              go_at_call 139
              refine (PA1.out _).mono ?_
              rintro e V3 ⟨rfl, hy⟩
              go_wp2_with fail
              have zy := Ext.size hy
              have hE' := hE.trans hy
              refine hK.out _ _ hE' (fun hHeld => ?_)
              clear hK K
              (try simp only [Act.put, Ord.a, Ord.b, Ord.c])
              replace P14 := P14.ext hy
              replace P13 := P13.ext hy
              replace hE := hE'
              clear hE' hy
              refine wpAnyH_ready (rs := [12]) (by kernel_rfl) (by simp) ?_
              refine (AllReadyH.cons rfl (fun K hK => ?_) AllReadyH.nil)
              · go_simp
                go_at_call 139
                refine (PA2.out _).mono ?_
                rintro e V4 ⟨rfl, hy⟩
                go_wp2_with fail
                have zy := Ext.size hy
                have hE' := hE.trans hy
                refine hK.out _ _ hE' (fun hHeld => ?_)
                clear hK K
                (try simp only [Act.put, Ord.a, Ord.b, Ord.c])
                replace P14 := P14.ext hy
                replace P13 := P13.ext hy
                replace hE := hE'
                clear hE' hy
                obtain ⟨⟨r0, r1⟩, r2, r3⟩ := P13.two
                refine wpAnyH_ready (rs := [15]) (by kernel_rfl) (by simp) ?_
                refine AllReadyH.cons rfl (fun K hK => ?_) AllReadyH.nil
                go_simp
                have hE' : Ext wr ((V4.setCell ⟨V1.heap.size, 0, none⟩ (.int .i64 (fx fs k).x)).setCell ⟨V1.heap.size, 1, none⟩ (.int .i64 (fx fs k).y)) := (hE.setNew (by simp; omega) _).setNew (by simp; omega) _
                refine hK.out _ _ hE' (fun hHeld => ?_)
                clear hK K r0 r1 r2 r3
                (try simp only [Act.put, Ord.a, Ord.b, Ord.c])
                replace P13 := P13.set2 (u := .int .i64 (fx fs k).x) (v := .int .i64 (fx fs k).y)
                replace P14 := P14.away2 (m := V1.heap.size) (i := 0) (j := 1) (u := .int .i64 (fx fs k).x) (v := .int .i64 (fx fs k).y) (by omega)
                replace hE := hE'
                clear hE'
                generalize (V4.setCell ⟨V1.heap.size, 0, none⟩ (.int .i64 (fx fs k).x)).setCell ⟨V1.heap.size, 1, none⟩ (.int .i64 (fx fs k).y) = V5 at *
                obtain ⟨⟨r0, r1⟩, r2, r3⟩ := P14.two
                refine wpAnyH_ready (rs := [16]) (by kernel_rfl) (by simp) ?_
                refine AllReadyH.cons rfl (fun K hK => ?_) AllReadyH.nil
                go_simp
                have hE' : Ext wr ((V5.setCell ⟨V0.heap.size, 0, none⟩ (.int .i64 (fx fs (k + 1)).x)).setCell ⟨V0.heap.size, 1, none⟩ (.int .i64 (fx fs (k + 1)).y)) := (hE.setNew (by simp; omega) _).setNew (by simp; omega) _
                refine hK.out _ _ hE' (fun hHeld => ?_)
                clear hK K r0 r1 r2 r3
                (try simp only [Act.put, Ord.a, Ord.b, Ord.c])
                replace P14 := P14.set2 (u := .int .i64 (fx fs (k + 1)).x) (v := .int .i64 (fx fs (k + 1)).y)
                replace P13 := P13.away2 (m := V0.heap.size) (i := 0) (j := 1) (u := .int .i64 (fx fs (k + 1)).x) (v := .int .i64 (fx fs (k + 1)).y) (by omega)
                replace hE := hE'
                clear hE'
                generalize (V5.setCell ⟨V0.heap.size, 0, none⟩ (.int .i64 (fx fs (k + 1)).x)).setCell ⟨V0.heap.size, 1, none⟩ (.int .i64 (fx fs (k + 1)).y) = V6 at *
                refine wpAnyH_done (by kernel_rfl) ?_ _
                go_wp2_with fail
                go_meet
                exact ⟨⟨_, rfl, P13⟩, ⟨_, rfl, P14⟩, hE⟩
      case rest =>
        obtain ⟨⟨B7, rfl, H7⟩, ⟨B8, rfl, H8⟩, hy⟩ := hcut
        have XC := Lib.hid (HX.out.trans hy)
        have YC := Lib.hid hy
        have ct := ET.out wc XC.out
        have l0 := EL.out wc XC.out 0 _ rfl
        have l1 := EL.out wc XC.out 1 _ rfl
        have l2 := EL.out wc XC.out 2 _ rfl
        have l3 := EL.out wc XC.out 3 _ rfl
        obtain ⟨⟨p0, p1⟩, _, _⟩ := H7.two
        obtain ⟨⟨q0, q1⟩, _, _⟩ := H8.two
        clear H7 H8 hy
        by_cases hz : lwI fs a b c d k = 0
        · have HN := Lib.hid (show wyI a b c d (fx fs k).x (fx fs k).y (fx fs (k + 1)).x (fx fs (k + 1)).y = 0 from hz)
          go_wp2_with (go_at_call 205; refine (HWY.out _).mono ?_; rintro e w3 ⟨rfl, hy⟩; rw [HN.out])
          go_roundw
          case rel => exact ⟨k + 1, by go_num, by omega, by rw [crL_same hz]; exact HO.out.ext (YC.out.trans hy), XC.out.trans hy⟩
          case measure => simp [intOf]; omega
        · obtain ⟨_, b1, b2, b3, b4⟩ := lx_bd hv hk1 hs hz
          have hm := mom_bd hv hk1 b1 b2 b3
          obtain ⟨N, hN⟩ : ∃ N, N = lxN fs a b c d k := ⟨_, rfl⟩
          obtain ⟨D, hD⟩ : ∃ D, D = lxD fs a b c d k := ⟨_, rfl⟩
          obtain ⟨G, hG⟩ : ∃ G, G = lwI fs a b c d k := ⟨_, rfl⟩
          rw [← hN] at b1 b2 hm
          rw [← hD] at b2 b3 b4 hm
          obtain ⟨M, hM⟩ : ∃ M, M = mwI fs k N D := ⟨_, rfl⟩
          obtain ⟨R, hR⟩ : ∃ R, R = mrI fs k N D := ⟨_, rfl⟩
          have hM2 : 0 ≤ M ∧ M ≤ 1000000000 := by rw [hM]; unfold mwI; omega
          have HC := Lib.hid (show legC fs a b c d k = ⟨upI M R, k, G, N, D⟩ by rw [hM, hR, hN, hD, hG]; rfl)
          have HZ := Lib.hid hz
          have hg0 : ¬ G = 0 := by rw [hG]; exact hz
          replace HWY : Hid (∀ w', Calls Tryz.prog 205 #[Sg a b c d, Pt (fx fs k).x (fx fs k).y, Pt (fx fs (k + 1)).x (fx fs (k + 1)).y] w' fun e w'' => e = .returned (.int .i64 G) ∧ Ext w' w'') := Lib.hid (by rw [hG]; exact HWY.out)
          have HPL : Hid (∀ w', Calls Tryz.prog 206 #[Sg (fx fs k).x (fx fs k).y (fx fs (k + 1)).x (fx fs (k + 1)).y, Sg a b c d] w' fun e w'' => e = .returned (.tuple #[Pt N D, .bool (plO (lA fs a b c d k) (lB fs a b c d k))]) ∧ Ext w' w'') := Lib.hid (fun w' => by
            have h := placeS_any (fx fs k).x (fx fs k).y (fx fs (k + 1)).x (fx fs (k + 1)).y a b c d w' la lb lc ld ga gb gc gd
            rw [hN, hD]; exact h)
          have HEX : Hid (∀ w', Ext w w' → Calls Tryz.prog 207 #[Tr (.slice (some ⟨bb, off, none⟩) fs.length cap), Cr 0 k G N D] w' fun e w'' => e = .returned (.tuple #[.int .i64 M, Pt R D]) ∧ Ext w' w'') := Lib.hid (fun w' h => by
            have h := exact_spec (some ⟨bb, off, none⟩) cap fs k 0 G N D w' (HF.out w' h) hk1 hv b1 b2 b3 b4
            rw [hM, hR]; exact h)
          have E1 : IntKind.i64.wrap (M + 1) = M + 1 := IntWalk.i64_in _ (by omega)
          have hlen := crL_len fs a b c d k
          have P3 := Lib.hid (show (crL fs a b c d k).length + 1 ≤ maxLen by unfold maxLen; omega)
          have P4 := Lib.hid (show ((crL fs a b c d k).length + 1) * 40 ≤ 140737488355328 by omega)
          have zW := Lib.hid (Ext.size XC.out)
          have zC := Lib.hid (Ext.size YC.out)
          clear hN hD hG hM hR b1 b2 b3 b4 hm hz
          go_wp2_with (go_at_call 205; refine (HWY.out _).mono ?_; rintro e w3 ⟨rfl, hy⟩; have Y3 := Lib.hid (YC.out.trans hy); replace ct := hy.cellOf ct; replace l0 := hy.cellOf l0; replace l1 := hy.cellOf l1; replace l2 := hy.cellOf l2; replace l3 := hy.cellOf l3; replace p0 := hy.cellOf p0; replace p1 := hy.cellOf p1; replace q0 := hy.cellOf q0; replace q1 := hy.cellOf q1; clear hy)
          refine (HPL.out _).mono ?_
          rintro e w4 ⟨rfl, hy⟩
          replace Y3 := Lib.hid (Y3.out.trans hy)
          replace ct := hy.cellOf ct
          clear hy l0 l1 l2 l3 p0 p1 q0 q1
          obtain ⟨W4, hW4⟩ : ∃ W4, W4 = (w4.alloc (.cells #[.int .i64 N, .int .i64 D] 166)).alloc (.cells #[.int .i64 0, .int .i64 k, .int .i64 G, .int .i64 N, .int .i64 D] 198) := ⟨_, rfl⟩
          have X4 := Lib.hid (show Ext w4 W4 from hW4 ▸ ((Ext.refl w4).alloc _).alloc _)
          have B4 : Box W4 (w4.heap.size + 1) [.int .i64 0, .int .i64 k, .int .i64 G, .int .i64 N, .int .i64 D] := by rw [hW4]; exact Box.new5 (by simp)
          replace ct := X4.out.cellOf ct
          have r0 : W4.cell? ⟨w4.heap.size, 0, none⟩ = some (.int .i64 N) := by rw [hW4]; exact ((Ext.refl _).alloc _).cellOf (boxed 0 rfl rfl)
          have r1 : W4.cell? ⟨w4.heap.size, 1, none⟩ = some (.int .i64 D) := by rw [hW4]; exact ((Ext.refl _).alloc _).cellOf (boxed 1 rfl rfl)
          obtain ⟨⟨d0, d1, d2, d3, d4⟩, _⟩ := B4.five
          go_upto_region 10 with fail
          rw [← hW4]
          clear hW4
          go_wp2_with fail
          refine (HEX.out _ (HW.out.trans (HX.out.trans (Y3.out.trans X4.out)))).mono ?_
          rintro e w5 ⟨rfl, hy⟩
          replace B4 := (B4.ext hy).alloc (.cells #[.int .i64 R, .int .i64 D] 166)
          have X5 := Lib.hid ((Y3.out.trans (X4.out.trans hy)).alloc (.cells #[.int .i64 R, .int .i64 D] 166))
          have s0 : (w5.alloc (.cells #[.int .i64 R, .int .i64 D] 166)).cell? ⟨w5.heap.size, 0, none⟩ = some (.int .i64 R) := boxed 0 rfl rfl
          have z4 : wr.heap.size ≤ w4.heap.size := Ext.size Y3.out
          have n5 : w4.heap.size + 1 ≠ w5.heap.size := by
            have h1 := hy.size
            have h2 := (X4.out).size
            have h3 := B4.lt
            simp at h3
            have h4 : w4.heap.size + 1 < W4.heap.size := World.block_lt_of_cell? W4 _ d0
            omega
          clear hy r0 r1 d0 d1 d2 d3 d4 ct
          obtain ⟨⟨d0, d1, d2, d3, d4⟩, f0, f1, f2, f3, f4⟩ := B4.five
          by_cases h0 : 0 < R
          · have HU : upI M R = M + 1 := if_pos h0
            have XA := Lib.hid (HX.out.trans ((((X5.out.setNew (p := ⟨w4.heap.size + 1, 0, none⟩) (by simp; omega) (.int .i64 M)).setNew (p := ⟨w4.heap.size + 1, 0, none⟩) (by simp; omega) (.int .i64 (M + 1))) : Ext wr _).alloc (.cells #[.int .i64 (M + 1), .int .i64 k, .int .i64 G, .int .i64 N, .int .i64 D] 198)))
            have OA := row_ext HO.out ((((X5.out.setNew (p := ⟨w4.heap.size + 1, 0, none⟩) (by simp; omega) (.int .i64 M)).setNew (p := ⟨w4.heap.size + 1, 0, none⟩) (by simp; omega) (.int .i64 (M + 1))) : Ext wr _).alloc (.cells #[.int .i64 (M + 1), .int .i64 k, .int .i64 G, .int .i64 N, .int .i64 D] 198))
            have CC := Lib.hid (lit5_at (n := w5.heap.size + 1) (w := (((w5.alloc (.cells #[.int .i64 R, .int .i64 D] 166)).setCell ⟨w4.heap.size + 1, 0, none⟩ (.int .i64 M)).setCell ⟨w4.heap.size + 1, 0, none⟩ (.int .i64 (M + 1)))) (a := .int .i64 (M + 1)) (b := .int .i64 k) (c := .int .i64 G) (d := .int .i64 N) (e := .int .i64 D) (t := 198) (by simp))
            have P1 := Lib.hid (ones5 ⟨(M + 1), k, G, N, D⟩)
            have zA := Lib.hid (Ext.size XA.out)
            go_wp2_with (at_builtin; refine wpList_append_own _ rfl _ _ 225 rfl W0.heap.size 198 ti (Cr 0 0 0 0 0) 5 40 Tryz.underlying225 hin hz0 hz1 hz2 rfl (by decide) _ (crL fs a b c d k).length _ rfl OA ⟨w5.heap.size + 1, 0, none⟩ 1 1 [.int .i64 (M + 1), .int .i64 k, .int .i64 G, .int .i64 N, .int .i64 D] rfl rfl CC.out P1.out P3.out P4.out zA.out ?_; intro v1 w6 hown hgrow hnil; have O6 := Lib.hid (show OwnC w6 W0.heap.size v1 (crL fs a b c d (k + 1)) by rw [crL_more HZ.out, HC.out, HU]; unfold OwnC; rw [← cellsC_app, List.length_append]; exact hown); have X6 := Lib.hid (row_grown (w0 := W0) OA hgrow (Nat.le_refl _) XA.out); clear hown hgrow hnil OA)
            go_roundw
            case rel => exact ⟨k + 1, by go_num, by omega, O6.out, X6.out⟩
            case measure => simp [intOf]; omega
          · have HU : upI M R = M := if_neg h0
            have XA := Lib.hid (HX.out.trans (((X5.out.setNew (p := ⟨w4.heap.size + 1, 0, none⟩) (by simp; omega) (.int .i64 M)) : Ext wr _).alloc (.cells #[.int .i64 M, .int .i64 k, .int .i64 G, .int .i64 N, .int .i64 D] 198)))
            have OA := row_ext HO.out (((X5.out.setNew (p := ⟨w4.heap.size + 1, 0, none⟩) (by simp; omega) (.int .i64 M)) : Ext wr _).alloc (.cells #[.int .i64 M, .int .i64 k, .int .i64 G, .int .i64 N, .int .i64 D] 198))
            have CC := Lib.hid (lit5_at (n := w5.heap.size + 1) (w := ((w5.alloc (.cells #[.int .i64 R, .int .i64 D] 166)).setCell ⟨w4.heap.size + 1, 0, none⟩ (.int .i64 M))) (a := .int .i64 M) (b := .int .i64 k) (c := .int .i64 G) (d := .int .i64 N) (e := .int .i64 D) (t := 198) (by simp))
            have P1 := Lib.hid (ones5 ⟨M, k, G, N, D⟩)
            have zA := Lib.hid (Ext.size XA.out)
            go_wp2_with (at_builtin; refine wpList_append_own _ rfl _ _ 225 rfl W0.heap.size 198 ti (Cr 0 0 0 0 0) 5 40 Tryz.underlying225 hin hz0 hz1 hz2 rfl (by decide) _ (crL fs a b c d k).length _ rfl OA ⟨w5.heap.size + 1, 0, none⟩ 1 1 [.int .i64 M, .int .i64 k, .int .i64 G, .int .i64 N, .int .i64 D] rfl rfl CC.out P1.out P3.out P4.out zA.out ?_; intro v1 w6 hown hgrow hnil; have O6 := Lib.hid (show OwnC w6 W0.heap.size v1 (crL fs a b c d (k + 1)) by rw [crL_more HZ.out, HC.out, HU]; unfold OwnC; rw [← cellsC_app, List.length_append]; exact hown); have X6 := Lib.hid (row_grown (w0 := W0) OA hgrow (Nat.le_refl _) XA.out); clear hown hgrow hnil OA)
            go_roundw
            case rel => exact ⟨k + 1, by go_num, by omega, O6.out, X6.out⟩
            case measure => simp [intOf]; omega
    · obtain rfl : k = fs.length - 1 := by omega
      go_wp2
      go_ret
      exact ⟨_, rfl, HO.out.mono (Ext.size HW.out), HW.out.trans HX.out⟩
end Go.Proofs.YtplbahdomjeekaaGreat.Rwk
namespace Go.Proofs.YtplbahdomjeekaaGreat.Rwk
open Go.ChangeShapes Go.WideShapes Go.ChangeAt Go.RowKit
open Go.Proofs.YtplbahdomjeekaaGreat.Num Go.Proofs.YtplbahdomjeekaaGreat.Kit Go.Proofs.YtplbahdomjeekaaGreat.Pts Go.Proofs.YtplbahdomjeekaaGreat.Seg Go.Proofs.YtplbahdomjeekaaGreat.Gcd Go.Proofs.YtplbahdomjeekaaGreat.Crs Go.Proofs.YtplbahdomjeekaaGreat.Trk
set_option linter.unusedVariables false
set_option linter.unusedSimpArgs false
def vCr (fs : List F3) (a b c d : Int) : Bool := trB fs && sgB a b c d
theorem take_cx (cs : List C5) (k : Nat) (h : k < cs.length) : cs.take (k + 1) = cs.take k ++ [cx cs k] := by
  rw [List.take_succ_eq_append_getElem h]
  unfold cx
  rw [List.getD_eq_getElem?_getD, List.getElem?_eq_getElem h]; rfl
end Go.Proofs.YtplbahdomjeekaaGreat.Rwk
namespace Go.Proofs.YtplbahdomjeekaaGreat.Rwk
open Go.ChangeShapes Go.WideShapes Go.ChangeAt Go.RowKit
open Go.Proofs.YtplbahdomjeekaaGreat.Num Go.Proofs.YtplbahdomjeekaaGreat.Kit Go.Proofs.YtplbahdomjeekaaGreat.Pts Go.Proofs.YtplbahdomjeekaaGreat.Seg Go.Proofs.YtplbahdomjeekaaGreat.Gcd Go.Proofs.YtplbahdomjeekaaGreat.Crs Go.Proofs.YtplbahdomjeekaaGreat.Trk
set_option linter.unusedVariables false
set_option linter.unusedSimpArgs false
def fiO (fs : List F3) (a b c d g : Int) : Bool := vCr fs a b c d && (g == 1 || g == -1)
def fiV (fs : List F3) (a b c d g f : Int) : C5 := if fiO fs a b c d g = true then fcV (crL fs a b c d (fs.length - 1)) g f else ⟨0, 0, 0, 0, 0⟩
def fiC (fs : List F3) (a b c d g f : Int) : Int := if vCr fs a b c d = true then (if g = 1 ∨ g = -1 then fcC (crL fs a b c d (fs.length - 1)) g f else 2) else 1
theorem fi_no {fs : List F3} {a b c d g f : Int} (h : vCr fs a b c d = false) : fiV fs a b c d g f = ⟨0, 0, 0, 0, 0⟩ ∧ fiC fs a b c d g f = 1 := by
  unfold fiV fiC fiO
  rw [h]; exact ⟨rfl, rfl⟩
theorem fi_bad {fs : List F3} {a b c d g f : Int} (h : vCr fs a b c d = true) (h1 : ¬ g = 1) (h2 : ¬ g = -1) : fiV fs a b c d g f = ⟨0, 0, 0, 0, 0⟩ ∧ fiC fs a b c d g f = 2 := by
  refine ⟨?_, (if_pos h).trans (if_neg (by omega))⟩
  unfold fiV fiO
  rw [h, beq_eq_false_iff_ne.2 h1, beq_eq_false_iff_ne.2 h2]; rfl
theorem fi_yes {fs : List F3} {a b c d g f : Int} (h : vCr fs a b c d = true) (h1 : g = 1 ∨ g = -1) : fiV fs a b c d g f = fcV (crL fs a b c d (fs.length - 1)) g f ∧ fiC fs a b c d g f = fcC (crL fs a b c d (fs.length - 1)) g f := by
  refine ⟨?_, (if_pos h).trans (if_pos h1)⟩
  unfold fiV fiO
  rw [h]
  rcases h1 with e | e <;> rw [e] <;> rfl
theorem vCr_no1 {fs : List F3} {a b c d : Int} (h : trB fs = false) : vCr fs a b c d = false := by unfold vCr; rw [h]; rfl
theorem vCr_no2 {fs : List F3} {a b c d : Int} (h : sgB a b c d = false) : vCr fs a b c d = false := by unfold vCr; rw [h, Bool.and_false]
theorem vCr_yes {fs : List F3} {a b c d : Int} (h1 : trB fs = true) (h2 : sgB a b c d = true) : vCr fs a b c d = true := by unfold vCr; rw [h1, h2]; rfl
abbrev FW (w : World) (sl : Value) (a b c d g f : Int) : World := (((((w.alloc (.cells #[sl] 33)).alloc (.cells #[.int .i64 a, .int .i64 b, .int .i64 c, .int .i64 d] 27)).alloc (.cells #[.int .i64 g] 2)).alloc (.cells #[.int .i64 f] 2)).alloc (.cells #[.int .i64 0, .int .i64 0, .int .i64 0, .int .i64 0, .int .i64 0] 198)).alloc (.cells #[.int .i64 0] 2)
theorem fi_done {fn : Nat} {n m : Nat} {w F : World} {tmps : Array Value} {ck : Int} (B : Box F n [.int .i64 0, .int .i64 0, .int .i64 0, .int .i64 0, .int .i64 0]) (C : Box F m [.int .i64 ck]) (hC : Ext w F) (ha : tmps[8]? = some (.pointer (some ⟨n, 0, none⟩))) (hb : tmps[9]? = some (.pointer (some ⟨m, 0, none⟩))) :
    bodyPost Tryz.prog Tryz.f164 (fun e w' => e = .returned (.tuple #[CrV ⟨0, 0, 0, 0, 0⟩, .int .i64 ck]) ∧ Ext w w') Exit.ret ⟨tmps, []⟩ F := by
  obtain ⟨⟨g0, g1, g2, g3, g4⟩, _⟩ := B.five
  have q0 := (C 0 _ rfl).1
  exact bodyPost_ret (v := .tuple #[CrV ⟨0, 0, 0, 0, 0⟩, .int .i64 ck]) (by simp [results, Tryz.f164, go_sem, ha, hb, g0, g1, g2, g3, g4, q0]) rfl ⟨rfl, hC⟩
set_option maxRecDepth 100000 in
set_option maxHeartbeats 2000000 in
theorem first_bad (a0 : Option Addr) (cap : Nat) (fs : List F3) (a b c d g f : Int) (w : World) (hf : Fxs w a0 fs) (ck : Int) (hck : (ck = 1 ∧ vCr fs a b c d = false) ∨ (ck = 2 ∧ vCr fs a b c d = true ∧ ¬ g = 1 ∧ ¬ g = -1)) :
    Calls Tryz.prog 164 #[Tr (.slice a0 fs.length cap), Sg a b c d, .int .i64 g, .int .i64 f] w fun e w' => e = .returned (.tuple #[CrV ⟨0, 0, 0, 0, 0⟩, .int .i64 ck]) ∧ Ext w w' := by
  obtain ⟨W0, hW0⟩ : ∃ W0, W0 = FW w (.slice a0 fs.length cap) a b c d g f := ⟨_, rfl⟩
  unfold FW at hW0
  have hX : Ext w W0 := hW0 ▸ ((((((Ext.refl w).alloc _).alloc _).alloc _).alloc _).alloc _).alloc _
  have c0 : W0.cell? ⟨w.heap.size, 0, none⟩ = some (.slice a0 fs.length cap) := by rw [hW0]; exact ((((((Ext.refl _).alloc _).alloc _).alloc _).alloc _).alloc _).cellOf (boxed 0 rfl rfl)
  have cl : ∀ i v, (#[.int .i64 a, .int .i64 b, .int .i64 c, .int .i64 d] : Array Value)[i]? = some v → W0.cell? ⟨w.heap.size + 1, i, none⟩ = some v := fun i v hv => by rw [hW0]; exact (((((Ext.refl _).alloc _).alloc _).alloc _).alloc _).cellOf (boxed i hv (by simp))
  have c1 : W0.cell? ⟨w.heap.size + 1, 0, none⟩ = some (.int .i64 a) := cl 0 _ rfl
  have c2 : W0.cell? ⟨w.heap.size + 1, 1, none⟩ = some (.int .i64 b) := cl 1 _ rfl
  have c3 : W0.cell? ⟨w.heap.size + 1, 2, none⟩ = some (.int .i64 c) := cl 2 _ rfl
  have c4 : W0.cell? ⟨w.heap.size + 1, 3, none⟩ = some (.int .i64 d) := cl 3 _ rfl
  have cg : W0.cell? ⟨w.heap.size + 1 + 1, 0, none⟩ = some (.int .i64 g) := by rw [hW0]; exact ((((Ext.refl _).alloc _).alloc _).alloc _).cellOf (boxed 0 rfl (by simp))
  have bR : Box W0 (w.heap.size + 1 + 1 + 1 + 1) [.int .i64 0, .int .i64 0, .int .i64 0, .int .i64 0, .int .i64 0] := by rw [hW0]; exact (Box.new5 (by simp)).alloc _
  have bC : Box W0 (w.heap.size + 1 + 1 + 1 + 1 + 1) [.int .i64 0] := by rw [hW0]; exact Box.new (by simp)
  have HF := Lib.hid (hf.ext hX)
  have hs0 : W0.heap.size = w.heap.size + 6 := by rw [hW0]; simp
  clear cl hf
  have fin : ∀ (F : World), Ext w F → Box F (w.heap.size + 1 + 1 + 1 + 1) [.int .i64 0, .int .i64 0, .int .i64 0, .int .i64 0, .int .i64 0] → Box F (w.heap.size + 1 + 1 + 1 + 1 + 1) [.int .i64 0] →
      Ext w ((((((F.setCell ⟨w.heap.size + 1 + 1 + 1 + 1, 0, none⟩ (.int .i64 0)).setCell ⟨w.heap.size + 1 + 1 + 1 + 1, 1, none⟩ (.int .i64 0)).setCell ⟨w.heap.size + 1 + 1 + 1 + 1, 2, none⟩ (.int .i64 0)).setCell ⟨w.heap.size + 1 + 1 + 1 + 1, 3, none⟩ (.int .i64 0)).setCell ⟨w.heap.size + 1 + 1 + 1 + 1, 4, none⟩ (.int .i64 0)).setCell ⟨w.heap.size + 1 + 1 + 1 + 1 + 1, 0, none⟩ (.int .i64 ck)) ∧
      Box ((((((F.setCell ⟨w.heap.size + 1 + 1 + 1 + 1, 0, none⟩ (.int .i64 0)).setCell ⟨w.heap.size + 1 + 1 + 1 + 1, 1, none⟩ (.int .i64 0)).setCell ⟨w.heap.size + 1 + 1 + 1 + 1, 2, none⟩ (.int .i64 0)).setCell ⟨w.heap.size + 1 + 1 + 1 + 1, 3, none⟩ (.int .i64 0)).setCell ⟨w.heap.size + 1 + 1 + 1 + 1, 4, none⟩ (.int .i64 0)).setCell ⟨w.heap.size + 1 + 1 + 1 + 1 + 1, 0, none⟩ (.int .i64 ck)) (w.heap.size + 1 + 1 + 1 + 1) [.int .i64 0, .int .i64 0, .int .i64 0, .int .i64 0, .int .i64 0] ∧
      Box ((((((F.setCell ⟨w.heap.size + 1 + 1 + 1 + 1, 0, none⟩ (.int .i64 0)).setCell ⟨w.heap.size + 1 + 1 + 1 + 1, 1, none⟩ (.int .i64 0)).setCell ⟨w.heap.size + 1 + 1 + 1 + 1, 2, none⟩ (.int .i64 0)).setCell ⟨w.heap.size + 1 + 1 + 1 + 1, 3, none⟩ (.int .i64 0)).setCell ⟨w.heap.size + 1 + 1 + 1 + 1, 4, none⟩ (.int .i64 0)).setCell ⟨w.heap.size + 1 + 1 + 1 + 1 + 1, 0, none⟩ (.int .i64 ck)) (w.heap.size + 1 + 1 + 1 + 1 + 1) [.int .i64 ck] := fun F h b k =>
    ⟨(((((h.setNew (by simp; omega) _).setNew (by simp; omega) _).setNew (by simp; omega) _).setNew (by simp; omega) _).setNew (by simp; omega) _).setNew (by simp; omega) _,
     (b.set5).away (by simp) _, ((((((k.away (by simp) _).away (by simp) _).away (by simp) _).away (by simp) _).away (by simp) _).set 0 (by simp) _)⟩
  have FIN := Lib.hid fin
  clear fin
  have RB := Lib.hid (And.intro bR bC)
  obtain ⟨⟨r0, r1, r2, r3, r4⟩, s0, s1, s2, s3, s4⟩ := bR.five
  have q0 := (bC 0 _ rfl).1
  have q1 := (bC 0 _ rfl).2
  clear bR bC
  cases hv : trB fs
  · obtain rfl : ck = 1 := by
      rcases hck with ⟨h, _⟩ | ⟨_, h, _⟩
      · exact h
      · rw [vCr_no1 hv] at h; cases h
    clear hck
    go_enter Tryz.func164, Tryz.ntmps164
    go_wp2_with fail
    rw [← hW0]
    clear hW0
    refine (trackValid_any _ _ _ _ HF.out).mono ?_
    rintro e w1 ⟨rfl, hx⟩
    rw [hv]
    replace r0 := hx.cellOf r0; replace r1 := hx.cellOf r1; replace r2 := hx.cellOf r2; replace r3 := hx.cellOf r3; replace r4 := hx.cellOf r4; replace q0 := hx.cellOf q0
    have bR := RB.out.1.ext hx
    have bC := RB.out.2.ext hx
    obtain ⟨_, s0, s1, s2, s3, s4⟩ := bR.five
    have q1 := (bC 0 _ rfl).2
    have RB2 := Lib.hid (And.intro bR bC)
    clear bR bC
    go_wp2
    obtain ⟨h1, h2, h3⟩ := FIN.out w1 (hX.trans hx) RB2.out.1 RB2.out.2
    exact fi_done (fn := 0) h2 h3 h1 rfl rfl
  · cases hs : sgB a b c d
    · obtain rfl : ck = 1 := by
        rcases hck with ⟨h, _⟩ | ⟨_, h, _⟩
        · exact h
        · rw [vCr_no2 hs] at h; cases h
      clear hck
      go_enter Tryz.func164, Tryz.ntmps164
      go_wp2_with fail
      rw [← hW0]
      clear hW0
      refine (trackValid_any _ _ _ _ HF.out).mono ?_
      rintro e w1 ⟨rfl, hx⟩
      rw [hv]
      replace c1 := hx.cellOf c1; replace c2 := hx.cellOf c2; replace c3 := hx.cellOf c3; replace c4 := hx.cellOf c4
      go_wp2_with fail
      refine (lineValid_any _ _ _ _ _).mono ?_
      rintro e w2 ⟨rfl, hy⟩
      rw [hs]
      replace hx := hx.trans hy
      replace r0 := hx.cellOf r0; replace r1 := hx.cellOf r1; replace r2 := hx.cellOf r2; replace r3 := hx.cellOf r3; replace r4 := hx.cellOf r4; replace q0 := hx.cellOf q0
      have bR := RB.out.1.ext hx
      have bC := RB.out.2.ext hx
      obtain ⟨_, s0, s1, s2, s3, s4⟩ := bR.five
      have q1 := (bC 0 _ rfl).2
      have RB2 := Lib.hid (And.intro bR bC)
      clear bR bC
      go_wp2
      obtain ⟨h1, h2, h3⟩ := FIN.out w2 (hX.trans hx) RB2.out.1 RB2.out.2
      exact fi_done (fn := 0) h2 h3 h1 rfl rfl
    · obtain ⟨rfl, g1, g2⟩ : ck = 2 ∧ ¬ g = 1 ∧ ¬ g = -1 := by
        rcases hck with ⟨_, h⟩ | ⟨h, _, h2⟩
        · rw [vCr_yes hv hs] at h; cases h
        · exact ⟨h, h2⟩
      have b1 : (g != 1) = true := by simp [g1]
      have b2 : (g != -1) = true := by simp [g2]
      have b3 : (g != 1 && g != -1) = true := by rw [b1, b2]; rfl
      clear hck
      go_enter Tryz.func164, Tryz.ntmps164
      go_wp2_with fail
      rw [← hW0]
      clear hW0
      refine (trackValid_any _ _ _ _ HF.out).mono ?_
      rintro e w1 ⟨rfl, hx⟩
      rw [hv]
      replace c1 := hx.cellOf c1; replace c2 := hx.cellOf c2; replace c3 := hx.cellOf c3; replace c4 := hx.cellOf c4
      go_wp2_with fail
      refine (lineValid_any _ _ _ _ _).mono ?_
      rintro e w2 ⟨rfl, hy⟩
      rw [hs]
      replace hx := hx.trans hy
      replace cg := hx.cellOf cg
      replace r0 := hx.cellOf r0; replace r1 := hx.cellOf r1; replace r2 := hx.cellOf r2; replace r3 := hx.cellOf r3; replace r4 := hx.cellOf r4; replace q0 := hx.cellOf q0
      have bR := RB.out.1.ext hx
      have bC := RB.out.2.ext hx
      obtain ⟨_, s0, s1, s2, s3, s4⟩ := bR.five
      have q1 := (bC 0 _ rfl).2
      have RB2 := Lib.hid (And.intro bR bC)
      clear bR bC
      go_wp2
      obtain ⟨h1, h2, h3⟩ := FIN.out w2 (hX.trans hx) RB2.out.1 RB2.out.2
      exact fi_done (fn := 0) h2 h3 h1 rfl rfl
theorem first_impl (a0 : Option Addr) (cap : Nat) (fs : List F3) (a b c d g f : Int) (w : World) (hf : Fxs w a0 fs) :
    Calls Tryz.prog 164 #[Tr (.slice a0 fs.length cap), Sg a b c d, .int .i64 g, .int .i64 f] w fun e w' => e = .returned (.tuple #[CrV (fiV fs a b c d g f), .int .i64 (fiC fs a b c d g f)]) ∧ Ext w w' := by
  cases h : vCr fs a b c d
  · obtain ⟨e1, e2⟩ := fi_no (g := g) (f := f) h
    rw [e1, e2]
    exact first_bad a0 cap fs a b c d g f w hf 1 (.inl ⟨rfl, h⟩)
  · by_cases h1 : g = 1
    · obtain ⟨e1, e2⟩ := fi_yes (f := f) h (.inl h1)
      have hb := h
      unfold vCr at hb
      rw [Bool.and_eq_true] at hb
      rw [e1, e2, h1]
      exact first_fwd a0 cap fs a b c d f w hf hb.1 hb.2
    · by_cases h2 : g = -1
      · obtain ⟨e1, e2⟩ := fi_yes (f := f) h (.inr h2)
        have hb := h
        unfold vCr at hb
        rw [Bool.and_eq_true] at hb
        rw [e1, e2, h2]
        exact first_bwd a0 cap fs a b c d f w hf hb.1 hb.2
      · obtain ⟨e1, e2⟩ := fi_bad (f := f) h h1 h2
        rw [e1, e2]
        exact first_bad a0 cap fs a b c d g f w hf 2 (.inr ⟨rfl, h, h1, h2⟩)
end Go.Proofs.YtplbahdomjeekaaGreat.Rwk
namespace Go.Proofs.YtplbahdomjeekaaGreat.Rwk
open Go.ChangeShapes Go.WideShapes Go.ChangeAt Go.RowKit
open Go.Proofs.YtplbahdomjeekaaGreat.Num Go.Proofs.YtplbahdomjeekaaGreat.Kit Go.Proofs.YtplbahdomjeekaaGreat.Pts Go.Proofs.YtplbahdomjeekaaGreat.Seg Go.Proofs.YtplbahdomjeekaaGreat.Gcd Go.Proofs.YtplbahdomjeekaaGreat.Crs Go.Proofs.YtplbahdomjeekaaGreat.Trk
set_option linter.unusedVariables false
set_option linter.unusedSimpArgs false
abbrev put5 (F : World) (n : Nat) (c : C5) : World := ((((F.setCell ⟨n, 0, none⟩ (.int .i64 c.t)).setCell ⟨n, 1, none⟩ (.int .i64 c.l)).setCell ⟨n, 2, none⟩ (.int .i64 c.g)).setCell ⟨n, 3, none⟩ (.int .i64 c.x)).setCell ⟨n, 4, none⟩ (.int .i64 c.y)
theorem put5_ok {w F : World} {n : Nat} {a b c d e : Value} (h : Ext w F) (hn : w.heap.size ≤ n) (B : Box F n [a, b, c, d, e]) (x : C5) : Ext w (put5 F n x) ∧ Box (put5 F n x) n (CL x) :=
  ⟨((((h.setNew (p := ⟨n, 0, none⟩) hn _).setNew (p := ⟨n, 1, none⟩) hn _).setNew (p := ⟨n, 2, none⟩) hn _).setNew (p := ⟨n, 3, none⟩) hn _).setNew (p := ⟨n, 4, none⟩) hn _, B.set5⟩
theorem l1_done {n : Nat} {w F : World} {tmps : Array Value} {c : C5} {b : Bool} (B : Box F n (CL c)) (hC : Ext w F) (ha : tmps[8]? = some (.pointer (some ⟨n, 0, none⟩))) (hb : tmps[9]? = some (.bool b)) :
    bodyPost Tryz.prog Tryz.f158 (fun e w' => e = .returned (.tuple #[CrV c, .bool b]) ∧ Ext w w') Exit.ret ⟨tmps, []⟩ F := by
  obtain ⟨⟨g0, g1, g2, g3, g4⟩, _⟩ := B.five
  exact bodyPost_ret (v := .tuple #[CrV c, .bool b]) (by simp [results, Tryz.f158, go_sem, ha, hb, g0, g1, g2, g3, g4]) rfl ⟨rfl, hC⟩
def fdB (cs : List C5) (g f : Int) : Bool := (fcO cs g f).isSome
theorem fd_no {cs : List C5} {g f : Int} (h : ∀ c ∈ cs, isC g f c = false) : fdB cs g f = false := by
  have e : fcO cs g f = none := List.find?_eq_none.2 (fun c hc => by rw [h c hc]; simp)
  unfold fdB; rw [e]; rfl
theorem fd_yes {cs ini : List C5} {c : C5} {g f : Int} (h : ∀ c ∈ ini, isC g f c = false) (hc : isC g f c = true) (hp : ini ++ [c] <+: cs) : fdB cs g f = true := by
  obtain ⟨r, rfl⟩ := hp
  unfold fdB fcO
  rw [List.append_assoc, List.find?_append, List.find?_eq_none.2 (fun c hc => by rw [h c hc]; simp)]
  simp [hc]
theorem fc_of {cs : List C5} {g f : Int} : fcC cs g f = (if fdB cs g f = true then 0 else 4) := rfl
def RelFi (w : World) (cs : List C5) (g f : Int) (i : Value) (wr : World) : Prop := ∃ k : Nat, i = .int .i64 k ∧ (∀ c ∈ cs.take k, isC g f c = false) ∧ k ≤ cs.length ∧ Ext w wr
set_option maxRecDepth 100000 in
set_option maxHeartbeats 2000000 in
theorem l05First_spec (a0 : Option Addr) (cap : Nat) (fs : List F3) (a b c d g f : Int) (w : World) (hf : Fxs w a0 fs) (hv : trB fs = true) (hs : sgB a b c d = true) :
    Calls Tryz.prog 158 #[Tr (.slice a0 fs.length cap), Sg a b c d, .int .i64 g, .int .i64 f] w fun e w' => e = .returned (.tuple #[CrV (fcV (crL fs a b c d (fs.length - 1)) g f), .bool (fdB (crL fs a b c d (fs.length - 1)) g f)]) ∧ Ext w w' := by
  obtain ⟨W0, hW0⟩ : ∃ W0, W0 = ((w.alloc (.cells #[.slice a0 fs.length cap] 33)).alloc (.cells #[.int .i64 a, .int .i64 b, .int .i64 c, .int .i64 d] 27)).alloc (.cells #[.int .i64 0, .int .i64 0, .int .i64 0, .int .i64 0, .int .i64 0] 198) := ⟨_, rfl⟩
  have hX : Ext w W0 := hW0 ▸ (((Ext.refl w).alloc _).alloc _).alloc _
  have c0 : W0.cell? ⟨w.heap.size, 0, none⟩ = some (.slice a0 fs.length cap) := by rw [hW0]; exact (((Ext.refl _).alloc _).alloc _).cellOf (boxed 0 rfl rfl)
  have cl : ∀ i v, (#[.int .i64 a, .int .i64 b, .int .i64 c, .int .i64 d] : Array Value)[i]? = some v → W0.cell? ⟨w.heap.size + 1, i, none⟩ = some v := fun i v hv => by rw [hW0]; exact ((Ext.refl _).alloc _).cellOf (boxed i hv (by simp))
  have c1 : W0.cell? ⟨w.heap.size + 1, 0, none⟩ = some (.int .i64 a) := cl 0 _ rfl
  have c2 : W0.cell? ⟨w.heap.size + 1, 1, none⟩ = some (.int .i64 b) := cl 1 _ rfl
  have c3 : W0.cell? ⟨w.heap.size + 1, 2, none⟩ = some (.int .i64 c) := cl 2 _ rfl
  have c4 : W0.cell? ⟨w.heap.size + 1, 3, none⟩ = some (.int .i64 d) := cl 3 _ rfl
  have bR : Box W0 (w.heap.size + 1 + 1) [.int .i64 0, .int .i64 0, .int .i64 0, .int .i64 0, .int .i64 0] := by rw [hW0]; exact Box.new5 (by simp)
  have HS := Lib.hid (crossings_spec a0 cap fs a b c d W0 (hf.ext hX) hv hs)
  have hlen := crL_len fs a b c d (fs.length - 1)
  have h40 := (trB_yes hv).1
  clear cl hf hv hs
  generalize crL fs a b c d (fs.length - 1) = cs at *
  go_enter Tryz.func158, Tryz.ntmps158
  go_wp2_with fail
  rw [← hW0]
  clear hW0
  refine HS.out.mono ?_
  rintro e w3 ⟨v, rfl, hO, hz⟩
  obtain ⟨ar, cp, rfl, hC⟩ := hO.cxs (by unfold maxLen; omega)
  have HC := Lib.hid hC
  have RB := Lib.hid (bR.ext hz)
  have X3 := Lib.hid (hX.trans hz)
  clear hC hO hz c0 c1 c2 c3 c4 bR HS hX
  go_wp2
  go_loopw [11] (fun i wr => RelFi w3 cs g f i wr) (fun i _ => cs.length - (intOf i).toNat)
  case atStart => exact ⟨0, rfl, by simp, Nat.zero_le _, Ext.refl _⟩
  case round =>
    obtain ⟨k, rfl, hn, hk, hx⟩ := hrel
    have HN := Lib.hid hn
    have RB3 := Lib.hid (RB.out.ext hx)
    obtain ⟨⟨r0, r1, r2, r3, r4⟩, s0, s1, s2, s3, s4⟩ := RB3.out.five
    clear hn
    by_cases hlt : k < cs.length
    · obtain ⟨b', off, rfl, hb⟩ := HC.out.row (by omega)
      obtain ⟨d0, d1, d2, d3, d4⟩ := (hb k hlt).ext hx
      have i0 : (0 : Int) ≤ (k : Int) := by omega
      have i1 : (k : Int) < (cs.length : Int) := by omega
      have TK := Lib.hid (take_cx cs k hlt)
      clear hb
      cases hc : isC g f (cx cs k)
      · have HN2 := Lib.hid (fun (x : C5) (hm : x ∈ cs.take (k + 1)) => show isC g f x = false from by
          rw [TK.out] at hm
          rcases List.mem_append.1 hm with hm | hm
          · exact HN.out x hm
          · simp at hm; subst hm; exact hc)
        unfold isC at hc
        cases x1 : ((cx cs k).g == g)
        · go_wp2
          go_roundw
          case rel => exact ⟨k + 1, by go_num, HN2.out, by omega, hx⟩
          case measure => simp [intOf]; omega
        · rw [x1, Bool.true_and] at hc
          go_wp2
          go_roundw
          case rel => exact ⟨k + 1, by go_num, HN2.out, by omega, hx⟩
          case measure => simp [intOf]; omega
      · have hp : cs.take k ++ [cx cs k] <+: cs := by rw [← TK.out]; exact List.take_prefix _ _
        have HV := Lib.hid (fc_yes HN.out hc hp).1
        have HD := Lib.hid (fd_yes HN.out hc hp)
        unfold isC at hc
        rw [Bool.and_eq_true] at hc
        obtain ⟨x1, x2⟩ := hc
        go_wp2
        rw [HV.out, HD.out]
        obtain ⟨h1, h2⟩ := put5_ok (X3.out.trans hx) (by omega) RB3.out (cx cs k)
        exact l1_done h2 h1 rfl rfl
    · obtain rfl : k = cs.length := by omega
      have hn := HN.out
      rw [List.take_length] at hn
      have HV := Lib.hid (fc_no hn).1
      have HD := Lib.hid (fd_no hn)
      clear hn
      go_wp2
      rw [HV.out, HD.out]
      obtain ⟨h1, h2⟩ := put5_ok (X3.out.trans hx) (by omega) RB3.out ⟨0, 0, 0, 0, 0⟩
      exact l1_done h2 h1 rfl rfl
end Go.Proofs.YtplbahdomjeekaaGreat.Rwk
namespace Go.Proofs.YtplbahdomjeekaaGreat.Rwk
open Go.ChangeShapes Go.WideShapes Go.ChangeAt Go.RowKit
open Go.Proofs.YtplbahdomjeekaaGreat.Num Go.Proofs.YtplbahdomjeekaaGreat.Kit Go.Proofs.YtplbahdomjeekaaGreat.Pts Go.Proofs.YtplbahdomjeekaaGreat.Seg Go.Proofs.YtplbahdomjeekaaGreat.Gcd Go.Proofs.YtplbahdomjeekaaGreat.Crs Go.Proofs.YtplbahdomjeekaaGreat.Trk
set_option linter.unusedVariables false
set_option linter.unusedSimpArgs false
end Go.Proofs.YtplbahdomjeekaaGreat.Rwk
