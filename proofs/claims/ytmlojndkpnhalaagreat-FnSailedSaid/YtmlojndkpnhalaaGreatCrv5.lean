import Derived.Test.YtmlojndkpnhalaaGreatMMom
import Derived.Test.YtmlojndkpnhalaaGreatWac
import Derived.Test.YtmlojndkpnhalaaGreatMPlace
namespace Go.Proofs.YtmlojndkpnhalaaGreat.Trk
open Go.ChangeShapes Go.WideShapes Go.ChangeAt Go.RowKit
open Go.Proofs.YtmlojndkpnhalaaGreat.Num Go.Proofs.YtmlojndkpnhalaaGreat.Kit Go.Proofs.YtmlojndkpnhalaaGreat.Pts Go.Proofs.YtmlojndkpnhalaaGreat.Seg Go.Proofs.YtmlojndkpnhalaaGreat.Gcd Go.Proofs.YtmlojndkpnhalaaGreat.Crs
set_option linter.unusedVariables false
set_option linter.unusedSimpArgs false
structure C5 where
  t : Int
  l : Int
  g : Int
  x : Int
  y : Int
deriving DecidableEq
abbrev CrV (c : C5) : Value := Cr c.t c.l c.g c.x c.y
def lwI (fs : List F3) (a b c d : Int) (k : Nat) : Int := wyI a b c d (fx fs k).x (fx fs k).y (fx fs (k + 1)).x (fx fs (k + 1)).y
def lA (fs : List F3) (a b c d : Int) (k : Nat) : Int := crs a b c d (fx fs k).x (fx fs k).y
def lB (fs : List F3) (a b c d : Int) (k : Nat) : Int := crs a b c d (fx fs (k + 1)).x (fx fs (k + 1)).y
def lxN (fs : List F3) (a b c d : Int) (k : Nat) : Int := plN (lA fs a b c d k) (lB fs a b c d k)
def lxD (fs : List F3) (a b c d : Int) (k : Nat) : Int := plD (lA fs a b c d k) (lB fs a b c d k)
def upI (w r : Int) : Int := if 0 < r then w + 1 else w
def legC (fs : List F3) (a b c d : Int) (k : Nat) : C5 :=
  ⟨upI (mwI fs k (lxN fs a b c d k) (lxD fs a b c d k)) (mrI fs k (lxN fs a b c d k) (lxD fs a b c d k)), k, lwI fs a b c d k, lxN fs a b c d k, lxD fs a b c d k⟩
def crL (fs : List F3) (a b c d : Int) : Nat → List C5
  | 0 => []
  | k + 1 => if lwI fs a b c d k = 0 then crL fs a b c d k else crL fs a b c d k ++ [legC fs a b c d k]
theorem pl_bd {A B : Int} (hA : -8000000000000 ≤ A ∧ A ≤ 8000000000000) (hB : -8000000000000 ≤ B ∧ B ≤ 8000000000000) (h : (0 < A ∧ B ≤ 0) ∨ (A ≤ 0 ∧ 0 < B)) :
    sgn A ≠ sgn B ∧ 0 ≤ plN A B ∧ plN A B ≤ plD A B ∧ 1 ≤ plD A B ∧ plD A B ≤ 100000000000000 := by
  have hs : sgn A ≠ sgn B := by
    rcases sgn_cases A with ⟨g, e⟩ | ⟨g, e⟩ | ⟨g, e⟩ <;> rcases sgn_cases B with ⟨k, f⟩ | ⟨k, f⟩ | ⟨k, f⟩ <;> rw [e, f] <;> omega
  refine ⟨hs, ?_⟩
  unfold plN plD
  rw [if_neg hs, if_neg hs]
  obtain ⟨n, hn⟩ : ∃ n, n = ab A := ⟨_, rfl⟩
  obtain ⟨m, hm⟩ : ∃ m, m = ab (A - B) := ⟨_, rfl⟩
  have b1 : 0 ≤ n ∧ n ≤ m ∧ 1 ≤ m ∧ m ≤ 16000000000000 := by
    rw [hn, hm]; unfold ab
    by_cases g : A < 0
    · rw [if_pos g]
      by_cases k : A - B < 0
      · rw [if_pos k]; omega
      · rw [if_neg k]; omega
    · rw [if_neg g]
      by_cases k : A - B < 0
      · rw [if_pos k]; omega
      · rw [if_neg k]; omega
  rw [← hn, ← hm]
  clear hn hm
  obtain ⟨n0, n1, m1, m2⟩ := b1
  have g1 : 1 ≤ gc n m := gc_pos m1
  have g2 : gc n m ≤ m := by
    unfold gc
    have := Nat.gcd_le_right n.toNat (show 0 < m.toNat by omega)
    omega
  obtain ⟨q0, q1⟩ := div_bd n0 g1
  obtain ⟨r0, r1⟩ := div_bd (show 0 ≤ m by omega) g1
  refine ⟨q0, Int.ediv_le_ediv (by omega) n1, ?_, by omega⟩
  have := Int.ediv_le_ediv (show 0 < gc n m by omega) g2
  rw [Int.ediv_self (by omega)] at this
  exact this
theorem lw_no {fs : List F3} {a b c d : Int} {k : Nat} (h : lwI fs a b c d k ≠ 0) :
    (0 < lA fs a b c d k ∧ lB fs a b c d k ≤ 0) ∨ (lA fs a b c d k ≤ 0 ∧ 0 < lB fs a b c d k) := by
  by_cases g : bhB a b c d (fx fs k).x (fx fs k).y = bhB a b c d (fx fs (k + 1)).x (fx fs (k + 1)).y
  · exact absurd (wyI_same g) h
  · unfold bhB at g
    unfold lA lB
    by_cases p : 0 < crs a b c d (fx fs k).x (fx fs k).y
    · rw [decide_eq_true p] at g
      by_cases q : 0 < crs a b c d (fx fs (k + 1)).x (fx fs (k + 1)).y
      · rw [decide_eq_true q] at g; exact absurd rfl g
      · omega
    · rw [decide_eq_false p] at g
      by_cases q : 0 < crs a b c d (fx fs (k + 1)).x (fx fs (k + 1)).y
      · omega
      · rw [decide_eq_false q] at g; exact absurd rfl g
theorem lw_sg {fs : List F3} {a b c d : Int} {k : Nat} (hv : trB fs = true) (hk : k + 1 < fs.length) (h : lwI fs a b c d k ≠ 0) : sgB (fx fs k).x (fx fs k).y (fx fs (k + 1)).x (fx fs (k + 1)).y = true := by
  obtain ⟨⟨ca, cb, cc, cd⟩, _⟩ := leg_bounds hv hk
  have hn := lw_no h
  unfold lA lB at hn
  unfold sgB ptB coB
  rw [inB_yes ca.1 ca.2, inB_yes cb.1 cb.2, inB_yes cc.1 cc.2, inB_yes cd.1 cd.2]
  by_cases e1 : (fx fs k).x = (fx fs (k + 1)).x
  · by_cases e2 : (fx fs k).y = (fx fs (k + 1)).y
    · rw [e1, e2] at hn; omega
    · rw [beq_eq_false_iff_ne.2 e2]; simp
  · rw [beq_eq_false_iff_ne.2 e1]; rfl
theorem lx_bd {fs : List F3} {a b c d : Int} {k : Nat} (hv : trB fs = true) (hk : k + 1 < fs.length) (hs : sgB a b c d = true) (h : lwI fs a b c d k ≠ 0) :
    sgn (lA fs a b c d k) ≠ sgn (lB fs a b c d k) ∧ 0 ≤ lxN fs a b c d k ∧ lxN fs a b c d k ≤ lxD fs a b c d k ∧ 1 ≤ lxD fs a b c d k ∧ lxD fs a b c d k ≤ 100000000000000 := by
  obtain ⟨⟨ca, cb, cc, cd⟩, _⟩ := leg_bounds hv hk
  obtain ⟨⟨ga, gb, gc, gd⟩, _⟩ := sgB_yes hs
  exact pl_bd (crs_bd ga gb gc gd ca cb) (crs_bd ga gb gc gd cc cd) (lw_no h)
theorem roundedUp_any (m r y : Int) (w : World) (m0 : 0 ≤ m) (m1 : m ≤ 1000000000) : Calls Tryz.prog 248 #[Fx m r y] w fun e w' => e = .returned (.int .i64 (upI m r)) ∧ Ext w w' := by
  have E1 : IntKind.i64.wrap (m + 1) = m + 1 := IntWalk.i64_in _ (by omega)
  by_cases h : 0 < r
  · have H := Lib.hid (show upI m r = m + 1 from if_pos h)
    go_enter Tryz.func248, Tryz.ntmps248
    go_wp2
    go_ret
    exact ⟨ret_int H.out, (by repeat (first | exact Ext.refl _ | assumption | apply Ext.alloc | apply Ext.drew | (refine Ext.trans ?_ (by assumption)) | (refine Ext.setNew ?_ (by simp <;> omega) _)))⟩
  · have H := Lib.hid (show upI m r = m from if_neg h)
    go_enter Tryz.func248, Tryz.ntmps248
    go_wp2
    go_ret
    exact ⟨ret_int H.out, (by repeat (first | exact Ext.refl _ | assumption | apply Ext.alloc | apply Ext.drew | (refine Ext.trans ?_ (by assumption)) | (refine Ext.setNew ?_ (by simp <;> omega) _)))⟩
def cellsC (cs : List C5) : List Value := cs.flatMap fun c => [.int .i64 c.t, .int .i64 c.l, .int .i64 c.g, .int .i64 c.x, .int .i64 c.y]
theorem cellsC_app (cs : List C5) (c : C5) : cellsC cs ++ [.int .i64 c.t, .int .i64 c.l, .int .i64 c.g, .int .i64 c.x, .int .i64 c.y] = cellsC (cs ++ [c]) := by simp [cellsC]
def cx (cs : List C5) (i : Nat) : C5 := cs.getD i ⟨0, 0, 0, 0, 0⟩
theorem cellsC_get : ∀ (cs : List C5) (i : Nat), i < cs.length → (cellsC cs)[i * 5]? = some (.int .i64 (cx cs i).t) ∧ (cellsC cs)[i * 5 + 1]? = some (.int .i64 (cx cs i).l) ∧ (cellsC cs)[i * 5 + 2]? = some (.int .i64 (cx cs i).g) ∧ (cellsC cs)[i * 5 + 3]? = some (.int .i64 (cx cs i).x) ∧ (cellsC cs)[i * 5 + 4]? = some (.int .i64 (cx cs i).y)
  | [], i, h => absurd h (by simp)
  | c :: cs, 0, _ => by simp [cellsC, cx]
  | c :: cs, i + 1, h => by
    have := cellsC_get cs i (by simpa using h)
    have e : cellsC (c :: cs) = .int .i64 c.t :: .int .i64 c.l :: .int .i64 c.g :: .int .i64 c.x :: .int .i64 c.y :: cellsC cs := by simp [cellsC]
    rw [e, show (i + 1) * 5 = i * 5 + 5 by omega]
    simpa [cx] using this
theorem crossInfo : (Tryz.prog.info? 188).map (fun i => (i.zero, i.size, i.bytes)) = some (some (Cr 0 0 0 0 0), 5, 40) := by kernel_rfl
theorem ones5 (c : C5) : ∀ u ∈ ([.int .i64 c.t, .int .i64 c.l, .int .i64 c.g, .int .i64 c.x, .int .i64 c.y] : List Value), u.oneCell' = true := by
  intro u hu
  simp at hu
  rcases hu with rfl | rfl | rfl | rfl | rfl <;> rfl
theorem crL_len (fs : List F3) (a b c d : Int) : ∀ k, (crL fs a b c d k).length ≤ k
  | 0 => Nat.le_refl _
  | k + 1 => by
    have := crL_len fs a b c d k
    unfold crL
    split
    · omega
    · simp; omega
theorem crL_same {fs : List F3} {a b c d : Int} {k : Nat} (h : lwI fs a b c d k = 0) : crL fs a b c d (k + 1) = crL fs a b c d k := if_pos h
theorem crL_more {fs : List F3} {a b c d : Int} {k : Nat} (h : lwI fs a b c d k ≠ 0) : crL fs a b c d (k + 1) = crL fs a b c d k ++ [legC fs a b c d k] := if_neg h
end Go.Proofs.YtmlojndkpnhalaaGreat.Trk
