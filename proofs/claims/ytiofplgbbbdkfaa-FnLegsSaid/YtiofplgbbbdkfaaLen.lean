/- LegLengths (impl, spec): both answers. -/
import Derived.Test.YtiofplgbbbdkfaaSto
import Derived.Test.YtiofplgbbbdkfaaRoot
namespace Go.Proofs.Ytiofplgbbbdkfaa.Crs
open Go.ChangeShapes Go.WideShapes Go.ChangeAt Go.RowKit Go.PlainAid
open Go.Proofs.Ytiofplgbbbdkfaa.Num Go.Proofs.Ytiofplgbbbdkfaa.Kit Go.Proofs.Ytiofplgbbbdkfaa.Pts Go.Proofs.Ytiofplgbbbdkfaa.Seg Go.Proofs.Ytiofplgbbbdkfaa.Div Go.Proofs.Ytiofplgbbbdkfaa.Root Go.Proofs.Ytiofplgbbbdkfaa.Rt
set_option linter.unusedVariables false
set_option linter.unusedSimpArgs false

theorem sq_nn (x : Int) : 0 ≤ x * x := by
  rcases Int.le_total 0 x with h | h
  · exact Int.mul_nonneg h h
  · have q := Int.mul_nonneg (show 0 ≤ -x by omega) (show 0 ≤ -x by omega)
    rwa [Int.neg_mul_neg] at q
theorem sqs_bd {x y : Int} (hx : -2000000 ≤ x ∧ x ≤ 2000000) (hy : -2000000 ≤ y ∧ y ≤ 2000000) : 0 ≤ x * x + y * y ∧ x * x + y * y ≤ 8000000000000 := by
  obtain ⟨_, a⟩ := mul_bd 2000000 2000000 hx hx
  obtain ⟨_, b⟩ := mul_bd 2000000 2000000 hy hy
  have c := sq_nn x
  have d := sq_nn y
  simp only [Int.reduceMul] at a b
  omega
theorem length_any (x y : Int) (w : World) (hx : -2000000 ≤ x ∧ x ≤ 2000000) (hy : -2000000 ≤ y ∧ y ≤ 2000000) :
    Calls Try.prog 22 #[Pt x y] w fun e w' => e = .returned (.int .i64 (rt (x * x + y * y))) ∧ Ext w w' := by
  obtain ⟨b0, b1⟩ := sqs_bd hx hy
  have PS := Lib.hid (fun w => squareLength_any x y w hx hy)
  obtain ⟨Q, hQ⟩ : ∃ Q, Q = x * x + y * y := ⟨_, rfl⟩
  rw [← hQ] at PS b0 b1 ⊢
  clear hQ
  have PR := Lib.hid (fun w => rootOf_in Q w b0 (by omega))
  obtain ⟨R, hR⟩ : ∃ R, R = rt Q := ⟨_, rfl⟩
  rw [← hR] at PR ⊢
  clear hR
  go_enter Try.func22, Try.ntmps22
  go_wp2_with fail
  refine (PS.out _).mono ?_
  rintro e w1 ⟨rfl, hx1⟩
  go_wp2_with fail
  refine (PR.out _).mono ?_
  rintro e w2 ⟨rfl, rfl⟩
  go_wp2
  go_ret
  exact ⟨rfl, (by repeat (first | exact Ext.refl _ | assumption | apply Ext.alloc | apply Ext.drew | (refine Ext.trans ?_ (by assumption)) | (refine Ext.setNew ?_ (by simp <;> omega) _)))⟩

/-- The length of the leg number i, and the first n of them as cells. -/
def lnI (l k : L4) (ms : List M5) (i : Nat) : Int := rt (sqD (stP l k ms i).x (stP l k ms i).y (stP l k ms (i + 1)).x (stP l k ms (i + 1)).y)
def lnV (l k : L4) (ms : List M5) (n : Nat) : List Value := (List.range n).map fun i => .int .i64 (lnI l k ms i)
theorem lnV_succ (l k : L4) (ms : List M5) (n : Nat) : lnV l k ms (n + 1) = lnV l k ms n ++ [.int .i64 (lnI l k ms n)] := by simp [lnV, List.range_succ]
theorem int64Info : (Try.prog.info? 2).map (fun i => (i.zero, i.size, i.bytes)) = some (some (.int .i64 0), 1, 8) := by kernel_rfl
theorem st_co {l k : L4} {ms : List M5} (h : pvB l k ms = true) (i : Nat) : Co (stP l k ms i).x ∧ Co (stP l k ms i).y := ptB_yes (st_pt h i)
theorem cr_pv {l k : L4} {ms : List M5} (h : crB l k ms = true) : pvB l k ms = true := by
  unfold crB at h
  simp only [Bool.and_eq_true] at h
  exact h.2.2.1
theorem one_int (x : Int) : ∀ u ∈ ([.int .i64 x] : List Value), u.oneCell' = true := fun u hu => by simp at hu; subst hu; rfl

/-- Rows of cells of different types lie in different blocks. -/
theorem row_apart {w : World} {b b' s s' n n' : Nat} {e e' : TypeId} {v v' : Value} {xs xs' : List Value} (h : w.ownsRow b e s v n xs) (h' : w.ownsRow b' e' s' v' n' xs') (he : e ≠ e') : v.ownBlock = none ∨ v.ownBlock ≠ v'.ownBlock := by
  rcases h.2 with ⟨hv, _⟩ | ⟨g, cap, cur, hv, _, hg, _⟩
  · left; rw [hv]; rfl
  · rcases h'.2 with ⟨hv', _⟩ | ⟨g', cap', cur', hv', _, hg', _⟩
    · right; rw [hv, hv']; simp [Value.ownBlock]
    · right
      rw [hv, hv']
      intro q
      have q2 : g = g' := by simpa [Value.ownBlock] using q
      subst q2
      rw [hg] at hg'
      injection hg' with hg'
      injection hg' with _ h2 _
      exact he h2

/-- A row of numbers of a call's own. -/
def OwnI (w : World) (base : Nat) (v : Value) (n : Nat) (xs : List Value) : Prop := w.ownsRow base 2 1 v n xs

def llC (l k : L4) (ms : List M5) : Int := if crB l k ms = true then 0 else 1
def llN (l k : L4) (ms : List M5) : Nat := if crB l k ms = true then ms.length + 1 else 0

def RelLL (wx : World) (l k : L4) (ms : List M5) (o i : Value) (wr : World) : Prop :=
  ∃ j : Nat, i = .int .i64 j ∧ j ≤ ms.length + 1 ∧ wr.ownsRow wx.heap.size 2 1 o j (lnV l k ms j) ∧ Ext wx wr

set_option maxRecDepth 100000 in
set_option maxHeartbeats 4000000 in
theorem legLengths_impl (l k : L4) (a : Option Addr) (cap : Nat) (ms : List M5) (w : World) (hf : Mks w a ms) :
    Calls Try.prog 7 #[CV l k (.slice a ms.length cap)] w fun e w' => ∃ v, e = .returned (.tuple #[v, .int .i64 (llC l k ms)]) ∧ OwnI w' w.heap.size v (llN l k ms) (lnV l k ms (llN l k ms)) ∧ Ext w w' := by
  obtain ⟨W0, hW0⟩ : ∃ W0, W0 = w.alloc (.cells (cellsC l k (.slice a ms.length cap)).toArray 30) := ⟨_, rfl⟩
  have HW := Lib.hid (show Ext w W0 from hW0 ▸ (Ext.refl w).alloc _)
  have BB := Lib.hid (show Box W0 w.heap.size (cellsC l k (.slice a ms.length cap)) from hW0 ▸ Box.new rfl)
  have HF := Lib.hid (hf.ext HW.out)
  clear hf
  cases hq : crB l k ms
  · rw [show llC l k ms = 1 by unfold llC; rw [hq]; rfl, show llN l k ms = 0 by unfold llN; rw [hq]; rfl]
    go_enter Try.func7, Try.ntmps7
    go_wp2_with fail
    rw [← hW0]
    clear hW0
    refine (courseValid_any _ _ _ _ _ _ HF.out).mono ?_
    rw [hq]
    rintro e w1 ⟨rfl, hx⟩
    go_wp2
    go_ret2
    exact ⟨_, rfl, World.ownsRow_nil _ _ _ _, HW.out.trans hx⟩
  · obtain ⟨hv, hv2⟩ := cr_lines hq
    have h8 := cr_eight hq
    have HP := Lib.hid (fun i => st_co (cr_pv hq) i)
    rw [show llC l k ms = 0 by unfold llC; rw [if_pos hq], show llN l k ms = ms.length + 1 by unfold llN; rw [if_pos hq]]
    go_enter Try.func7, Try.ntmps7
    go_wp2_with fail
    rw [← hW0]
    clear hW0
    refine (courseValid_any _ _ _ _ _ _ HF.out).mono ?_
    rw [hq]
    rintro e w1 ⟨rfl, hx⟩
    obtain ⟨⟨p0, p1, p2, p3, p4, p5, p6, p7, p8⟩, _⟩ := Box.nine (BB.out.ext hx)
    go_wp2_with fail
    refine (legs_any _ _ _ _ _ _ (HF.out.ext hx) h8 hv hv2).mono ?_
    rintro e w2 ⟨v, rfl, hO, hy⟩
    rcases row_cases hO with ⟨_, h0⟩ | ⟨g, cp, rfl, hcp, _, hc⟩
    · exact absurd h0 (by omega)
    have HC := Lib.hid hc
    have X1 := Lib.hid (HW.out.trans (hx.trans hy))
    clear hx hy hO hc p0 p1 p2 p3 p4 p5 p6 p7 p8
    obtain ⟨i0, hin, hz0, hz1, hz2⟩ := info_parts int64Info
    go_wp2
    go_loopw [4, 13] (fun o i wr => RelLL w2 l k ms o i wr) (fun o i _ => ms.length + 1 - (intOf i).toNat)
    case atStart => exact ⟨0, rfl, Nat.zero_le _, World.ownsRow_nil _ _ _ _, Ext.refl _⟩
    case round =>
      obtain ⟨j, rfl, hj, hO, hx⟩ := hrel
      have HO := Lib.hid hO
      have HX := Lib.hid hx
      clear hO hx
      by_cases hj1 : j < ms.length + 1
      · have j0 : (0 : Int) ≤ (j : Int) := by omega
        have j1 : (j : Int) < ((ms.length + 1 : Nat) : Int) := by omega
        have j2 : (j : Int) < (ms.length : Int) + 1 := by omega
        have T7 : IntKind.i64.wrap ((j : Int) + 1) = (j : Int) + 1 := IntWalk.i64_in _ (by omega)
        obtain ⟨q0, q1, q2, q3⟩ := lgC_get l k ms (ms.length + 1) j hj1
        have c0 : wr.cell? ⟨g, j * 4, none⟩ = some (.int .i64 (stP l k ms j).x) := HX.out.cellOf (by rw [HC.out _ (by omega)]; exact q0)
        have c1 : wr.cell? ⟨g, j * 4 + 1, none⟩ = some (.int .i64 (stP l k ms j).y) := HX.out.cellOf (by rw [HC.out _ (by omega)]; exact q1)
        have c2 : wr.cell? ⟨g, j * 4 + 2, none⟩ = some (.int .i64 (stP l k ms (j + 1)).x) := HX.out.cellOf (by rw [HC.out _ (by omega)]; exact q2)
        have c3 : wr.cell? ⟨g, j * 4 + 3, none⟩ = some (.int .i64 (stP l k ms (j + 1)).y) := HX.out.cellOf (by rw [HC.out _ (by omega)]; exact q3)
        clear q0 q1 q2 q3
        obtain ⟨a0, a1⟩ := HP.out j
        obtain ⟨b0, b1⟩ := HP.out (j + 1)
        have PV := Lib.hid (fun w => vector_any (stP l k ms j).x (stP l k ms j).y (stP l k ms (j + 1)).x (stP l k ms (j + 1)).y w a0 a1 b0 b1)
        have PL := Lib.hid (fun w => length_any ((stP l k ms (j + 1)).x - (stP l k ms j).x) ((stP l k ms (j + 1)).y - (stP l k ms j).y) w (by unfold Co at a0 b0; omega) (by unfold Co at a1 b1; omega))
        have HN := Lib.hid (show rt (((stP l k ms (j + 1)).x - (stP l k ms j).x) * ((stP l k ms (j + 1)).x - (stP l k ms j).x) + ((stP l k ms (j + 1)).y - (stP l k ms j).y) * ((stP l k ms (j + 1)).y - (stP l k ms j).y)) = lnI l k ms j from rfl)
        rw [HN.out] at PL
        have LS := Lib.hid (lnV_succ l k ms j)
        obtain ⟨N, hN⟩ : ∃ N, N = lnI l k ms j := ⟨_, rfl⟩
        rw [← hN] at PL LS
        clear hN HN a0 a1 b0 b1
        go_wp2_with fail
        refine (PV.out _).mono ?_
        rintro e w3 ⟨rfl, hy⟩
        go_wp2_with fail
        refine (PL.out _).mono ?_
        rintro e w4 ⟨rfl, hz⟩
        have XW := Lib.hid (HX.out.trans ((((Ext.refl wr).alloc _).trans hy).trans hz))
        have OW := row_ext HO.out (((((Ext.refl wr).alloc _).trans hy).trans hz))
        have OA := row_ext OW ((Ext.refl w4).alloc (.cells #[.int .i64 N] 2))
        have XA := Lib.hid (XW.out.alloc (.cells #[.int .i64 N] 2))
        have CC := Lib.hid (lit_cells (w := w4) (u := .int .i64 N) (t := 2) rfl)
        have P1 := Lib.hid (one_int N)
        have P3 := Lib.hid (show j + 1 ≤ maxLen by unfold maxLen; omega)
        have P4 := Lib.hid (show (j + 1) * 8 ≤ 140737488355328 by omega)
        have zA := Lib.hid (Ext.size XA.out)
        clear hy hz OW
        go_wp2_with (at_builtin; refine wpList_append_own _ rfl _ _ 32 rfl w2.heap.size 2 i0 (.int .i64 0) 1 8 Try.underlying32 hin hz0 hz1 hz2 rfl (by decide) _ j _ rfl OA ⟨w4.heap.size, 0, none⟩ 1 1 [.int .i64 N] rfl rfl CC.out P1.out P3.out P4.out zA.out ?_; intro v1 w5 hown hgrow hnil; have O5 := Lib.hid (show w5.ownsRow w2.heap.size 2 1 v1 (j + 1) (lnV l k ms (j + 1)) by rw [LS.out]; exact hown); have X5 := Lib.hid (row_grown (w0 := w2) OA hgrow (Nat.le_refl _) XA.out); clear hown hgrow hnil OA)
        go_roundw
        case rel => exact ⟨j + 1, by go_num, by omega, O5.out, X5.out⟩
        case measure => simp [intOf]; omega
      · obtain rfl : j = ms.length + 1 := by omega
        go_wp2
        go_ret2
        exact ⟨_, rfl, row_mono HO.out (Ext.size X1.out), X1.out.trans HX.out⟩

end Go.Proofs.Ytiofplgbbbdkfaa.Crs
