import Derived.Test.YtmlojndkpnhalaaGreatMSai
namespace Go.Proofs.YtmlojndkpnhalaaGreat.Crs
open Go.ChangeShapes Go.WideShapes Go.ChangeAt Go.RowKit Go.PlainAid
open Go.Proofs.YtmlojndkpnhalaaGreat.Num Go.Proofs.YtmlojndkpnhalaaGreat.Kit Go.Proofs.YtmlojndkpnhalaaGreat.Pts Go.Proofs.YtmlojndkpnhalaaGreat.Seg Go.Proofs.YtmlojndkpnhalaaGreat.Div Go.Proofs.YtmlojndkpnhalaaGreat.Root Go.Proofs.YtmlojndkpnhalaaGreat.Rt Go.Proofs.YtmlojndkpnhalaaGreat.Gcd
open Go.Proofs.YtmlojndkpnhalaaGreat.Trk (F3 Fxs Tr trB)
set_option linter.unusedVariables false
set_option linter.unusedSimpArgs false
theorem pgIndex (x y : Int) (w : World) : (Instr.index 113 (.agg #[.int .i64 x, .int .i64 y]) (.int .i64 0)).run Tryz.prog w = .ok (.int .i64 x) w := by
  simp [Instr.index, run_underlying Tryz.underlying113, asIntOf, go_sem]
def raV (l k : L4) (ms : List M5) (fs : List F3) (t : Int) : Int := if tsC l k ms fs = 0 then rcN (tsZ l k ms fs) t else 0
set_option maxRecDepth 100000 in
set_option maxHeartbeats 4000000 in
theorem reachedAt_impl (l k : L4) (a : Option Addr) (cap : Nat) (ms : List M5) (at_ : Option Addr) (ct : Nat) (fs : List F3) (t : Int) (w : World) (hf : Mks w a ms) (ht : Fxs w at_ fs) :
    Calls Tryz.prog 13 #[CV l k (.slice a ms.length cap), Tr (.slice at_ fs.length ct), .int .i64 t] w fun e w' => e = .returned (.tuple #[.int .i64 (raV l k ms fs t), .int .i64 (tsC l k ms fs)]) ∧ Ext w w' := by
  obtain ⟨W0, hW0⟩ : ∃ W0, W0 = (w.alloc (.cells (cellsC l k (.slice a ms.length cap)).toArray 30)).alloc (.cells #[.slice at_ fs.length ct] 33) := ⟨_, rfl⟩
  have HW := Lib.hid (show Ext w W0 from hW0 ▸ ((Ext.refl w).alloc _).alloc _)
  have HF := Lib.hid (hf.ext HW.out)
  have HT := Lib.hid (ht.ext HW.out)
  clear hf ht
  have KS := Lib.hid (timesSailed_impl l k a cap ms at_ ct fs W0 HF.out HT.out)
  unfold TsA at KS
  by_cases g : tsC l k ms fs = 0
  · have H := Lib.hid (And.intro (show raV l k ms fs t = (rcN (tsZ l k ms fs) t : Nat) from if_pos g) g)
    have LN := Lib.hid (ts_facts l k ms fs)
    rw [g] at KS
    obtain ⟨zs, hz⟩ : ∃ zs, zs = tsZ l k ms fs := ⟨_, rfl⟩
    rw [← hz] at KS LN H
    clear hz g
    have IX := pgIndex (rcN zs t : Nat) (pgT zs t)
    go_enter Tryz.func13, Tryz.ntmps13
    go_wp2_with fail
    rw [← hW0]
    clear hW0
    refine KS.out.mono ?_
    rintro e w1 ⟨v, rfl, hO, hx⟩
    obtain ⟨az, cz, rfl, hZ⟩ := hO.zxs (by unfold maxLen; have := LN.out.2.2; omega)
    have KP := Lib.hid (progressAt_any az cz zs t w1 hZ (by have := LN.out.2.2; omega) LN.out.2.1)
    clear hO hZ
    go_wp2_with fail
    refine KP.out.mono ?_
    rintro e w2 ⟨rfl, hy⟩
    go_wp2
    go_ret2
    exact ⟨ret_int2 H.out.1 H.out.2, HW.out.trans (hx.trans hy)⟩
  · have H := Lib.hid (show raV l k ms fs t = 0 from if_neg g)
    have g1 : (tsC l k ms fs != 0) = true := by simp [g]
    have g2 : (tsC l k ms fs == 0) = false := beq_eq_false_iff_ne.2 g
    obtain ⟨C, hC⟩ : ∃ C, C = tsC l k ms fs := ⟨_, rfl⟩
    have HC := Lib.hid hC
    rw [← hC] at KS g1 g2
    clear g hC
    go_enter Tryz.func13, Tryz.ntmps13
    go_wp2_with fail
    rw [← hW0]
    clear hW0
    refine KS.out.mono ?_
    rintro e w1 ⟨v, rfl, -, hx⟩
    go_wp2
    go_ret2
    exact ⟨ret_int2 H.out HC.out.symm, HW.out.trans hx⟩
theorem OwnZ.push {w : World} {base : Nat} {v : Value} {zs : List Int} {z : Int} (h : w.ownsRow base 2 1 v (zs.length + 1) (cellsZ zs ++ [.int .i64 z])) : OwnZ w base v (zs ++ [z]) := by
  unfold OwnZ
  rw [show (zs ++ [z]).length = zs.length + 1 by simp, show cellsZ (zs ++ [z]) = cellsZ zs ++ [.int .i64 z] by simp [cellsZ]]
  exact h
def TwoT (g o j : Nat) (x y : Int) (w' : World) : Prop := w'.cell? ⟨g, o + (j + 1), none⟩ = some (.int .i64 x) ∧ w'.cell? ⟨g, o + j, none⟩ = some (.int .i64 y)
theorem TwoT.ext {g o j : Nat} {x y : Int} {a b : World} (h : TwoT g o j x y a) (k : Ext a b) : TwoT g o j x y b := ⟨k.cellOf h.1, k.cellOf h.2⟩
theorem TwoT.grown {g o j : Nat} {x y : Int} {a b : World} {row : Option Nat} (h : TwoT g o j x y a) (k : a.grownBy b row) (hg : row ≠ some g) : TwoT g o j x y b :=
  ⟨World.grownBy.cell k h.1 (fun e => hg e.symm), World.grownBy.cell k h.2 (fun e => hg e.symm)⟩
end Go.Proofs.YtmlojndkpnhalaaGreat.Crs
