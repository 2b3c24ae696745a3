/- FnExactFirstCrossing: for all arguments, impl.FirstCrossing and spec.FirstCrossing answer the same, and the arguments are as they were. No condition. -/
import Derived.Test.YtaliopnhdcdajaaFir3
import Derived.Test.YtaliopnhdcdajaaOpnT
import Derived.Test.YtaliopnhdcdajaaOpn
import Derived.Test.YtaliopnhdcdajaaSeg
import Derived.Deep.DeepCutAuto
import Derived.ChangeOld
import Derived.Below
import Derived.Lib.SmallJoins
namespace Go.Proofs.Ytaliopnhdcdajaa.fnExactFirstCrossing
open Go.ChangeShapes Go.WideShapes Go.ChangeAt Go.RowKit
open Go.Proofs.Ytaliopnhdcdajaa.Kit Go.Proofs.Ytaliopnhdcdajaa.Pts Go.Proofs.Ytaliopnhdcdajaa.Seg Go.Proofs.Ytaliopnhdcdajaa.Trk Go.Proofs.Ytaliopnhdcdajaa.Rwk Go.Proofs.Ytaliopnhdcdajaa.Crs
set_option linter.unusedVariables false
set_option linter.unusedSimpArgs false

set_option maxRecDepth 100000 in
set_option maxHeartbeats 4000000 in
theorem walk (a : Option Addr) (cap : Nat) (fs : List F3) (p q u v : Int) (r : Int) (s : Int) (w : World) (hf1 : Fxs w a fs) : Calls Try.prog 4 #[Tr (.slice a fs.length cap), Sg p q u v, .int .i64 r, .int .i64 s] w fun e w' => e = .returned (.bool true) ∧ Ext w w' := by
  have HF1 := Lib.hid hf1
  have HM1 := Lib.hid hf1.1
  have KS := Lib.hid (fun (a : Option Addr) (cap : Nat) (w : World) (hf : Fxs w a fs) => show Calls Try.prog 19 #[Tr (.slice a fs.length cap), Sg p q u v, .int .i64 r, .int .i64 s] w (fun e w' => e = .returned (.tuple #[.agg #[.int .i64 ((fiV fs p q u v r s).t), .int .i64 ((fiV fs p q u v r s).l), .int .i64 ((fiV fs p q u v r s).g), .int .i64 ((fiV fs p q u v r s).x), .int .i64 ((fiV fs p q u v r s).y)], .int .i64 (fiC fs p q u v r s)]) ∧ Ext w w') from first_spec a cap fs p q u v r s w hf)
  have KI := Lib.hid (fun (a : Option Addr) (cap : Nat) (w : World) (hf : Fxs w a fs) => show Calls Try.prog 20 #[Tr (.slice a fs.length cap), Sg p q u v, .int .i64 r, .int .i64 s] w (fun e w' => e = .returned (.tuple #[.agg #[.int .i64 ((fiV fs p q u v r s).t), .int .i64 ((fiV fs p q u v r s).l), .int .i64 ((fiV fs p q u v r s).g), .int .i64 ((fiV fs p q u v r s).x), .int .i64 ((fiV fs p q u v r s).y)], .int .i64 (fiC fs p q u v r s)]) ∧ Ext w w') from first_impl a cap fs p q u v r s w hf )
  obtain ⟨x0, hx0⟩ : ∃ x0, x0 = (fiV fs p q u v r s).t := ⟨_, rfl⟩
  obtain ⟨x1, hx1⟩ : ∃ x1, x1 = (fiV fs p q u v r s).l := ⟨_, rfl⟩
  obtain ⟨x2, hx2⟩ : ∃ x2, x2 = (fiV fs p q u v r s).g := ⟨_, rfl⟩
  obtain ⟨x3, hx3⟩ : ∃ x3, x3 = (fiV fs p q u v r s).x := ⟨_, rfl⟩
  obtain ⟨x4, hx4⟩ : ∃ x4, x4 = (fiV fs p q u v r s).y := ⟨_, rfl⟩
  obtain ⟨ck, hck⟩ : ∃ ck, ck = fiC fs p q u v r s := ⟨_, rfl⟩
  rw [← hx0, ← hx1, ← hx2, ← hx3, ← hx4, ← hck] at KS KI
  clear hf1 hck hx0 hx1 hx2 hx3 hx4
  obtain ⟨W0, hW0⟩ : ∃ W0, W0 = (w.alloc (.cells #[.slice a fs.length cap] 24)).alloc (.cells #[.int .i64 p, .int .i64 q, .int .i64 u, .int .i64 v] 28) := ⟨_, rfl⟩
  have hX : Ext w W0 := hW0 ▸ (((Ext.refl w).alloc _).alloc _)
  have hs0 : W0.heap.size = w.heap.size + 1 + 1 := by rw [hW0]; simp
  have e00 : ∀ w', (Ext W0) w' → w'.cell? ⟨w.heap.size, 0, none⟩ = some (.slice a fs.length cap) := fun w' h => h.cellOf (by rw [hW0]; exact ((Ext.refl _).alloc _).cellOf (boxed 0 rfl (by simp)))
  have e10 : ∀ w', (Ext W0) w' → w'.cell? ⟨w.heap.size + 1, 0, none⟩ = some (.int .i64 p) := fun w' h => h.cellOf (by rw [hW0]; exact boxed 0 rfl (by simp))
  have e11 : ∀ w', (Ext W0) w' → w'.cell? ⟨w.heap.size + 1, 1, none⟩ = some (.int .i64 q) := fun w' h => h.cellOf (by rw [hW0]; exact boxed 1 rfl (by simp))
  have e12 : ∀ w', (Ext W0) w' → w'.cell? ⟨w.heap.size + 1, 2, none⟩ = some (.int .i64 u) := fun w' h => h.cellOf (by rw [hW0]; exact boxed 2 rfl (by simp))
  have e13 : ∀ w', (Ext W0) w' → w'.cell? ⟨w.heap.size + 1, 3, none⟩ = some (.int .i64 v) := fun w' h => h.cellOf (by rw [hW0]; exact boxed 3 rfl (by simp))
  have hr0 := Ext.refl W0
  go_enter Try.func4, Try.ntmps4
  go_wp2_with fail
  refine (szTrack_any _ _ _ _ _ HM1.out (by omega) (by omega)).mono ?_
  rintro e z1 ⟨rfl, hz⟩
  rw [← hW0] at hz
  clear hW0 hr0
  replace hz : Ext W0 z1 := hz
  by_cases hl1 : (1048576 : Int) - fs.length < 0
  · rw [szL_neg hl1]
    go_wp2
    go_ret
    exact ⟨rfl, hX.trans hz⟩
  have hl1b : decide ((1048576 : Int) - fs.length < 0) = false := decide_eq_false hl1
  have HL1 := Lib.hid (show fs.length ≤ 1048576 by omega)
  rw [szL_pos hl1]
  have TT1 := Lib.hid (fun w' (h : Ext w w') => toTrack_any a cap fs w' (HF1.out.ext h) HL1.out)
  go_upto_region 5 with fail
  go_cut [10, 11] (fun s t wx => (∃ B, s = .pointer (some ⟨B, 0, none⟩) ∧ Box wx B [.int .i64 x0, .int .i64 x1, .int .i64 x2, .int .i64 x3, .int .i64 x4]) ∧ t = .int .i64 ck ∧ Ext W0 wx)
  case first =>
    refine wp_region_held_drew (S := fun w' => Ext W0 w') (by kernel_rfl) (by (try dsimp only); exact hz.drew) (fun hHeld => ?_)
    (refine Ord.takeH 0 21 (v := ?_) rfl rfl (by kernel_rfl) (by kernel_rfl) (by kernel_rfl) (fun _ _ _ h => h) (by rfl) ?_ (by assumption) ?_; rotate_left; (intro w hSw; (try dsimp only at hSw); go_simp; (first | done | with_reducible rfl)); (try simp only [Act.put, List.setIfInBounds_toArray, List.set_cons_zero, List.set_cons_succ])); (refine Ord.takeH 2 23 (v := ?_) rfl rfl (by kernel_rfl) (by kernel_rfl) (by kernel_rfl) (fun _ _ _ h => h) (by rfl) ?_ (by assumption) ?_; rotate_left; (intro w hSw; (try dsimp only at hSw); go_simp; (first | done | with_reducible rfl)); (try simp only [Act.put, List.setIfInBounds_toArray, List.set_cons_zero, List.set_cons_succ])); (refine Ord.takeH 4 25 (v := ?_) rfl rfl (by kernel_rfl) (by kernel_rfl) (by kernel_rfl) (fun _ _ _ h => h) (by rfl) ?_ (by assumption) ?_; rotate_left; (intro w hSw; (try dsimp only at hSw); go_simp; (first | done | with_reducible rfl)); (try simp only [Act.put, List.setIfInBounds_toArray, List.set_cons_zero, List.set_cons_succ])); (refine Ord.takeH 5 26 (v := ?_) rfl rfl (by kernel_rfl) (by kernel_rfl) (by kernel_rfl) (fun _ _ _ h => h) (by rfl) ?_ (by assumption) ?_; rotate_left; (intro w hSw; (try dsimp only at hSw); go_simp; (first | done | with_reducible rfl)); (try simp only [Act.put, List.setIfInBounds_toArray, List.set_cons_zero, List.set_cons_succ]))
    have hE : Ext W0 z1.drew := hz.drew
    obtain ⟨V0, hV0⟩ : ∃ V0, V0 = z1.drew := ⟨_, rfl⟩
    rw [← hV0] at hE hHeld ⊢
    clear hV0
    have z00 := Ext.size hE
    refine wpAnyH_ready (rs := [1, 10]) (by kernel_rfl) (by simp) ?_
    refine (AllReadyH.cons rfl (fun K hK => ?_) (AllReadyH.cons rfl (fun K hK => ?_) AllReadyH.nil))
    · go_simp
      go_at_call 11
      refine (TT1.out _ (hX.trans hE)).mono ?_
      rintro e V1 ⟨B9, rfl, -, O9, hy⟩
      go_wp2_with fail
      have zy := Ext.size hy
      have hE' := hE.trans hy
      refine hK.out _ _ hE' (fun hHeld => ?_)
      clear hK K
      (try simp only [Act.put, List.setIfInBounds_toArray, List.set_cons_zero, List.set_cons_succ])
      have R9 := O9.fxs HM1.out
      clear O9
      replace hE := hE'
      clear hE' hy
      refine wpAnyH_ready (rs := [3, 10]) (by kernel_rfl) (by simp) ?_
      refine (AllReadyH.cons rfl (fun K hK => ?_) (AllReadyH.cons rfl (fun K hK => ?_) AllReadyH.nil))
      · go_simp
        go_at_call 12
        refine (toLine_any _ _ _ _ _).mono ?_
        rintro e V2 ⟨rfl, hy⟩
        go_wp2_with fail
        have zy := Ext.size hy
        have hE' := hE.trans hy
        refine hK.out _ _ hE' (fun hHeld => ?_)
        clear hK K
        (try simp only [Act.put, List.setIfInBounds_toArray, List.set_cons_zero, List.set_cons_succ])
        replace R9 := R9.ext hy
        replace hE := hE'
        clear hE' hy
        refine wpAnyH_ready (rs := [6, 10]) (by kernel_rfl) (by simp) ?_
        refine (AllReadyH.cons rfl (fun K hK => ?_) (AllReadyH.cons rfl (fun K hK => ?_) AllReadyH.nil))
        · go_simp
          go_at_call 19
          refine (KS.out _ _ _ R9).mono ?_
          rintro e V3 ⟨rfl, hy⟩
          go_wp2_with fail
          have zy := Ext.size hy
          have hE' := hE.trans hy
          refine hK.out _ _ hE' (fun hHeld => ?_)
          clear hK K
          (try simp only [Act.put, List.setIfInBounds_toArray, List.set_cons_zero, List.set_cons_succ])
          replace R9 := R9.ext hy
          replace hE := hE'
          clear hE' hy
          (refine Ord.takeH 7 20 (v := ?_) rfl rfl (by kernel_rfl) (by kernel_rfl) (by kernel_rfl) (fun _ _ _ h => h) (by rfl) ?_ (by assumption) ?_; rotate_left; (intro w hSw; (try dsimp only at hSw); go_simp; (first | done | with_reducible rfl)); (try simp only [Act.put, List.setIfInBounds_toArray, List.set_cons_zero, List.set_cons_succ])); (refine Ord.takeH 8 28 (v := ?_) rfl rfl (by kernel_rfl) (by kernel_rfl) (by kernel_rfl) (fun _ _ _ h => h) (by rfl) ?_ (by assumption) ?_; rotate_left; (intro w hSw; (try dsimp only at hSw); go_simp; (first | done | with_reducible rfl)); (try simp only [Act.put, List.setIfInBounds_toArray, List.set_cons_zero, List.set_cons_succ])); (refine Ord.takeH 9 29 (v := ?_) rfl rfl (by kernel_rfl) (by kernel_rfl) (by kernel_rfl) (fun _ _ _ h => h) (by rfl) ?_ (by assumption) ?_; rotate_left; (intro w hSw; (try dsimp only at hSw); go_simp; (first | done | with_reducible rfl)); (try simp only [Act.put, List.setIfInBounds_toArray, List.set_cons_zero, List.set_cons_succ]))
          refine wpAnyH_ready (rs := [10]) (by kernel_rfl) (by simp) ?_
          refine (AllReadyH.cons rfl (fun K hK => ?_) AllReadyH.nil)
          · go_simp
            have hE' : Ext W0 (V3.alloc (.cells #[.int .i64 0, .int .i64 0, .int .i64 0, .int .i64 0, .int .i64 0] 49)) := hE.alloc _
            refine hK.out _ _ hE' (fun hHeld => ?_)
            clear hK K
            (try simp only [Act.put, List.setIfInBounds_toArray, List.set_cons_zero, List.set_cons_succ])
            have PB := Box.new5 (w := V3) (x := .int .i64 0) (y := .int .i64 0) (z := .int .i64 0) (u := .int .i64 0) (r := .int .i64 0) (t := 49) rfl
            have zA := Ext.size hE
            have yA : V3.heap.size < (V3.alloc (.cells #[.int .i64 0, .int .i64 0, .int .i64 0, .int .i64 0, .int .i64 0] 49)).heap.size := by simp
            replace R9 := R9.ext ((Ext.refl V3).alloc (.cells #[.int .i64 0, .int .i64 0, .int .i64 0, .int .i64 0, .int .i64 0] 49))
            replace hE := hE'
            clear hE'
            generalize V3.alloc (.cells #[.int .i64 0, .int .i64 0, .int .i64 0, .int .i64 0, .int .i64 0] 49) = V4 at *
            refine wpAnyH_ready (rs := [11]) (by kernel_rfl) (by simp) ?_
            refine AllReadyH.cons rfl (fun K hK => ?_) AllReadyH.nil
            obtain ⟨⟨u0, u1, u2, u3, u4⟩, g0, g1, g2, g3, g4⟩ := PB.five
            go_simp
            have hE' : Ext W0 (((((V4.setCell ⟨V3.heap.size, 0, none⟩ (.int .i64 x0)).setCell ⟨V3.heap.size, 1, none⟩ (.int .i64 x1)).setCell ⟨V3.heap.size, 2, none⟩ (.int .i64 x2)).setCell ⟨V3.heap.size, 3, none⟩ (.int .i64 x3)).setCell ⟨V3.heap.size, 4, none⟩ (.int .i64 x4)) := (((((hE.setNew (by first | omega | (simp; omega) | simp) _).setNew (by first | omega | (simp; omega) | simp) _).setNew (by first | omega | (simp; omega) | simp) _).setNew (by first | omega | (simp; omega) | simp) _).setNew (by first | omega | (simp; omega) | simp) _)
            refine hK.out _ _ hE' (fun hHeld => ?_)
            clear hK K
            (try simp only [Act.put, List.setIfInBounds_toArray, List.set_cons_zero, List.set_cons_succ])
            replace PB := PB.set5 (a := .int .i64 x0) (b := .int .i64 x1) (c := .int .i64 x2) (d := .int .i64 x3) (e := .int .i64 x4)
            (refine Ord.takeH 12 11 (v := ?_) rfl rfl (by kernel_rfl) (by kernel_rfl) (by kernel_rfl) (fun _ _ _ h => h) (by rfl) ?_ (by assumption) ?_; rotate_left; (intro w hSw; (try dsimp only at hSw); go_simp; (first | done | with_reducible rfl)); (try simp only [Act.put, List.setIfInBounds_toArray, List.set_cons_zero, List.set_cons_succ]))
            refine wpAnyH_done (by kernel_rfl) ?_ _
            go_wp2_with fail
            go_meet
            exact ⟨⟨_, rfl, PB⟩, rfl, hE'⟩
        · go_simp
          have hE' : Ext W0 (V2.alloc (.cells #[.int .i64 0, .int .i64 0, .int .i64 0, .int .i64 0, .int .i64 0] 49)) := hE.alloc _
          refine hK.out _ _ hE' (fun hHeld => ?_)
          clear hK K
          (try simp only [Act.put, List.setIfInBounds_toArray, List.set_cons_zero, List.set_cons_succ])
          have PB := Box.new5 (w := V2) (x := .int .i64 0) (y := .int .i64 0) (z := .int .i64 0) (u := .int .i64 0) (r := .int .i64 0) (t := 49) rfl
          have zA := Ext.size hE
          have yA : V2.heap.size < (V2.alloc (.cells #[.int .i64 0, .int .i64 0, .int .i64 0, .int .i64 0, .int .i64 0] 49)).heap.size := by simp
          replace R9 := R9.ext ((Ext.refl V2).alloc (.cells #[.int .i64 0, .int .i64 0, .int .i64 0, .int .i64 0, .int .i64 0] 49))
          replace hE := hE'
          clear hE'
          generalize V2.alloc (.cells #[.int .i64 0, .int .i64 0, .int .i64 0, .int .i64 0, .int .i64 0] 49) = V3 at *
          refine wpAnyH_ready (rs := [6]) (by kernel_rfl) (by simp) ?_
          refine (AllReadyH.cons rfl (fun K hK => ?_) AllReadyH.nil)
          · go_simp
            go_at_call 19
            refine (KS.out _ _ _ R9).mono ?_
            rintro e V4 ⟨rfl, hy⟩
            go_wp2_with fail
            have zy := Ext.size hy
            have hE' := hE.trans hy
            refine hK.out _ _ hE' (fun hHeld => ?_)
            clear hK K
            (try simp only [Act.put, List.setIfInBounds_toArray, List.set_cons_zero, List.set_cons_succ])
            replace R9 := R9.ext hy
            replace PB := PB.ext hy
            replace hE := hE'
            clear hE' hy
            (refine Ord.takeH 7 20 (v := ?_) rfl rfl (by kernel_rfl) (by kernel_rfl) (by kernel_rfl) (fun _ _ _ h => h) (by rfl) ?_ (by assumption) ?_; rotate_left; (intro w hSw; (try dsimp only at hSw); go_simp; (first | done | with_reducible rfl)); (try simp only [Act.put, List.setIfInBounds_toArray, List.set_cons_zero, List.set_cons_succ])); (refine Ord.takeH 8 28 (v := ?_) rfl rfl (by kernel_rfl) (by kernel_rfl) (by kernel_rfl) (fun _ _ _ h => h) (by rfl) ?_ (by assumption) ?_; rotate_left; (intro w hSw; (try dsimp only at hSw); go_simp; (first | done | with_reducible rfl)); (try simp only [Act.put, List.setIfInBounds_toArray, List.set_cons_zero, List.set_cons_succ])); (refine Ord.takeH 9 29 (v := ?_) rfl rfl (by kernel_rfl) (by kernel_rfl) (by kernel_rfl) (fun _ _ _ h => h) (by rfl) ?_ (by assumption) ?_; rotate_left; (intro w hSw; (try dsimp only at hSw); go_simp; (first | done | with_reducible rfl)); (try simp only [Act.put, List.setIfInBounds_toArray, List.set_cons_zero, List.set_cons_succ]))
            refine wpAnyH_ready (rs := [11]) (by kernel_rfl) (by simp) ?_
            refine AllReadyH.cons rfl (fun K hK => ?_) AllReadyH.nil
            obtain ⟨⟨u0, u1, u2, u3, u4⟩, g0, g1, g2, g3, g4⟩ := PB.five
            go_simp
            have hE' : Ext W0 (((((V4.setCell ⟨V2.heap.size, 0, none⟩ (.int .i64 x0)).setCell ⟨V2.heap.size, 1, none⟩ (.int .i64 x1)).setCell ⟨V2.heap.size, 2, none⟩ (.int .i64 x2)).setCell ⟨V2.heap.size, 3, none⟩ (.int .i64 x3)).setCell ⟨V2.heap.size, 4, none⟩ (.int .i64 x4)) := (((((hE.setNew (by first | omega | (simp; omega) | simp) _).setNew (by first | omega | (simp; omega) | simp) _).setNew (by first | omega | (simp; omega) | simp) _).setNew (by first | omega | (simp; omega) | simp) _).setNew (by first | omega | (simp; omega) | simp) _)
            refine hK.out _ _ hE' (fun hHeld => ?_)
            clear hK K
            (try simp only [Act.put, List.setIfInBounds_toArray, List.set_cons_zero, List.set_cons_succ])
            replace PB := PB.set5 (a := .int .i64 x0) (b := .int .i64 x1) (c := .int .i64 x2) (d := .int .i64 x3) (e := .int .i64 x4)
            (refine Ord.takeH 12 11 (v := ?_) rfl rfl (by kernel_rfl) (by kernel_rfl) (by kernel_rfl) (fun _ _ _ h => h) (by rfl) ?_ (by assumption) ?_; rotate_left; (intro w hSw; (try dsimp only at hSw); go_simp; (first | done | with_reducible rfl)); (try simp only [Act.put, List.setIfInBounds_toArray, List.set_cons_zero, List.set_cons_succ]))
            refine wpAnyH_done (by kernel_rfl) ?_ _
            go_wp2_with fail
            go_meet
            exact ⟨⟨_, rfl, PB⟩, rfl, hE'⟩
      · go_simp
        have hE' : Ext W0 (V1.alloc (.cells #[.int .i64 0, .int .i64 0, .int .i64 0, .int .i64 0, .int .i64 0] 49)) := hE.alloc _
        refine hK.out _ _ hE' (fun hHeld => ?_)
        clear hK K
        (try simp only [Act.put, List.setIfInBounds_toArray, List.set_cons_zero, List.set_cons_succ])
        have PB := Box.new5 (w := V1) (x := .int .i64 0) (y := .int .i64 0) (z := .int .i64 0) (u := .int .i64 0) (r := .int .i64 0) (t := 49) rfl
        have zA := Ext.size hE
        have yA : V1.heap.size < (V1.alloc (.cells #[.int .i64 0, .int .i64 0, .int .i64 0, .int .i64 0, .int .i64 0] 49)).heap.size := by simp
        replace R9 := R9.ext ((Ext.refl V1).alloc (.cells #[.int .i64 0, .int .i64 0, .int .i64 0, .int .i64 0, .int .i64 0] 49))
        replace hE := hE'
        clear hE'
        generalize V1.alloc (.cells #[.int .i64 0, .int .i64 0, .int .i64 0, .int .i64 0, .int .i64 0] 49) = V2 at *
        refine wpAnyH_ready (rs := [3]) (by kernel_rfl) (by simp) ?_
        refine (AllReadyH.cons rfl (fun K hK => ?_) AllReadyH.nil)
        · go_simp
          go_at_call 12
          refine (toLine_any _ _ _ _ _).mono ?_
          rintro e V3 ⟨rfl, hy⟩
          go_wp2_with fail
          have zy := Ext.size hy
          have hE' := hE.trans hy
          refine hK.out _ _ hE' (fun hHeld => ?_)
          clear hK K
          (try simp only [Act.put, List.setIfInBounds_toArray, List.set_cons_zero, List.set_cons_succ])
          replace R9 := R9.ext hy
          replace PB := PB.ext hy
          replace hE := hE'
          clear hE' hy
          refine wpAnyH_ready (rs := [6]) (by kernel_rfl) (by simp) ?_
          refine (AllReadyH.cons rfl (fun K hK => ?_) AllReadyH.nil)
          · go_simp
            go_at_call 19
            refine (KS.out _ _ _ R9).mono ?_
            rintro e V4 ⟨rfl, hy⟩
            go_wp2_with fail
            have zy := Ext.size hy
            have hE' := hE.trans hy
            refine hK.out _ _ hE' (fun hHeld => ?_)
            clear hK K
            (try simp only [Act.put, List.setIfInBounds_toArray, List.set_cons_zero, List.set_cons_succ])
            replace R9 := R9.ext hy
            replace PB := PB.ext hy
            replace hE := hE'
            clear hE' hy
            (refine Ord.takeH 7 20 (v := ?_) rfl rfl (by kernel_rfl) (by kernel_rfl) (by kernel_rfl) (fun _ _ _ h => h) (by rfl) ?_ (by assumption) ?_; rotate_left; (intro w hSw; (try dsimp only at hSw); go_simp; (first | done | with_reducible rfl)); (try simp only [Act.put, List.setIfInBounds_toArray, List.set_cons_zero, List.set_cons_succ])); (refine Ord.takeH 8 28 (v := ?_) rfl rfl (by kernel_rfl) (by kernel_rfl) (by kernel_rfl) (fun _ _ _ h => h) (by rfl) ?_ (by assumption) ?_; rotate_left; (intro w hSw; (try dsimp only at hSw); go_simp; (first | done | with_reducible rfl)); (try simp only [Act.put, List.setIfInBounds_toArray, List.set_cons_zero, List.set_cons_succ])); (refine Ord.takeH 9 29 (v := ?_) rfl rfl (by kernel_rfl) (by kernel_rfl) (by kernel_rfl) (fun _ _ _ h => h) (by rfl) ?_ (by assumption) ?_; rotate_left; (intro w hSw; (try dsimp only at hSw); go_simp; (first | done | with_reducible rfl)); (try simp only [Act.put, List.setIfInBounds_toArray, List.set_cons_zero, List.set_cons_succ]))
            refine wpAnyH_ready (rs := [11]) (by kernel_rfl) (by simp) ?_
            refine AllReadyH.cons rfl (fun K hK => ?_) AllReadyH.nil
            obtain ⟨⟨u0, u1, u2, u3, u4⟩, g0, g1, g2, g3, g4⟩ := PB.five
            go_simp
            have hE' : Ext W0 (((((V4.setCell ⟨V1.heap.size, 0, none⟩ (.int .i64 x0)).setCell ⟨V1.heap.size, 1, none⟩ (.int .i64 x1)).setCell ⟨V1.heap.size, 2, none⟩ (.int .i64 x2)).setCell ⟨V1.heap.size, 3, none⟩ (.int .i64 x3)).setCell ⟨V1.heap.size, 4, none⟩ (.int .i64 x4)) := (((((hE.setNew (by first | omega | (simp; omega) | simp) _).setNew (by first | omega | (simp; omega) | simp) _).setNew (by first | omega | (simp; omega) | simp) _).setNew (by first | omega | (simp; omega) | simp) _).setNew (by first | omega | (simp; omega) | simp) _)
            refine hK.out _ _ hE' (fun hHeld => ?_)
            clear hK K
            (try simp only [Act.put, List.setIfInBounds_toArray, List.set_cons_zero, List.set_cons_succ])
            replace PB := PB.set5 (a := .int .i64 x0) (b := .int .i64 x1) (c := .int .i64 x2) (d := .int .i64 x3) (e := .int .i64 x4)
            (refine Ord.takeH 12 11 (v := ?_) rfl rfl (by kernel_rfl) (by kernel_rfl) (by kernel_rfl) (fun _ _ _ h => h) (by rfl) ?_ (by assumption) ?_; rotate_left; (intro w hSw; (try dsimp only at hSw); go_simp; (first | done | with_reducible rfl)); (try simp only [Act.put, List.setIfInBounds_toArray, List.set_cons_zero, List.set_cons_succ]))
            refine wpAnyH_done (by kernel_rfl) ?_ _
            go_wp2_with fail
            go_meet
            exact ⟨⟨_, rfl, PB⟩, rfl, hE'⟩
    · go_simp
      have hE' : Ext W0 (V0.alloc (.cells #[.int .i64 0, .int .i64 0, .int .i64 0, .int .i64 0, .int .i64 0] 49)) := hE.alloc _
      refine hK.out _ _ hE' (fun hHeld => ?_)
      clear hK K
      (try simp only [Act.put, List.setIfInBounds_toArray, List.set_cons_zero, List.set_cons_succ])
      have PB := Box.new5 (w := V0) (x := .int .i64 0) (y := .int .i64 0) (z := .int .i64 0) (u := .int .i64 0) (r := .int .i64 0) (t := 49) rfl
      have zA := Ext.size hE
      have yA : V0.heap.size < (V0.alloc (.cells #[.int .i64 0, .int .i64 0, .int .i64 0, .int .i64 0, .int .i64 0] 49)).heap.size := by simp
      replace hE := hE'
      clear hE'
      generalize V0.alloc (.cells #[.int .i64 0, .int .i64 0, .int .i64 0, .int .i64 0, .int .i64 0] 49) = V1 at *
      refine wpAnyH_ready (rs := [1]) (by kernel_rfl) (by simp) ?_
      refine (AllReadyH.cons rfl (fun K hK => ?_) AllReadyH.nil)
      · go_simp
        go_at_call 11
        refine (TT1.out _ (hX.trans hE)).mono ?_
        rintro e V2 ⟨B9, rfl, -, O9, hy⟩
        go_wp2_with fail
        have zy := Ext.size hy
        have hE' := hE.trans hy
        refine hK.out _ _ hE' (fun hHeld => ?_)
        clear hK K
        (try simp only [Act.put, List.setIfInBounds_toArray, List.set_cons_zero, List.set_cons_succ])
        have R9 := O9.fxs HM1.out
        clear O9
        replace PB := PB.ext hy
        replace hE := hE'
        clear hE' hy
        refine wpAnyH_ready (rs := [3]) (by kernel_rfl) (by simp) ?_
        refine (AllReadyH.cons rfl (fun K hK => ?_) AllReadyH.nil)
        · go_simp
          go_at_call 12
          refine (toLine_any _ _ _ _ _).mono ?_
          rintro e V3 ⟨rfl, hy⟩
          go_wp2_with fail
          have zy := Ext.size hy
          have hE' := hE.trans hy
          refine hK.out _ _ hE' (fun hHeld => ?_)
          clear hK K
          (try simp only [Act.put, List.setIfInBounds_toArray, List.set_cons_zero, List.set_cons_succ])
          replace R9 := R9.ext hy
          replace PB := PB.ext hy
          replace hE := hE'
          clear hE' hy
          refine wpAnyH_ready (rs := [6]) (by kernel_rfl) (by simp) ?_
          refine (AllReadyH.cons rfl (fun K hK => ?_) AllReadyH.nil)
          · go_simp
            go_at_call 19
            refine (KS.out _ _ _ R9).mono ?_
            rintro e V4 ⟨rfl, hy⟩
            go_wp2_with fail
            have zy := Ext.size hy
            have hE' := hE.trans hy
            refine hK.out _ _ hE' (fun hHeld => ?_)
            clear hK K
            (try simp only [Act.put, List.setIfInBounds_toArray, List.set_cons_zero, List.set_cons_succ])
            replace R9 := R9.ext hy
            replace PB := PB.ext hy
            replace hE := hE'
            clear hE' hy
            (refine Ord.takeH 7 20 (v := ?_) rfl rfl (by kernel_rfl) (by kernel_rfl) (by kernel_rfl) (fun _ _ _ h => h) (by rfl) ?_ (by assumption) ?_; rotate_left; (intro w hSw; (try dsimp only at hSw); go_simp; (first | done | with_reducible rfl)); (try simp only [Act.put, List.setIfInBounds_toArray, List.set_cons_zero, List.set_cons_succ])); (refine Ord.takeH 8 28 (v := ?_) rfl rfl (by kernel_rfl) (by kernel_rfl) (by kernel_rfl) (fun _ _ _ h => h) (by rfl) ?_ (by assumption) ?_; rotate_left; (intro w hSw; (try dsimp only at hSw); go_simp; (first | done | with_reducible rfl)); (try simp only [Act.put, List.setIfInBounds_toArray, List.set_cons_zero, List.set_cons_succ])); (refine Ord.takeH 9 29 (v := ?_) rfl rfl (by kernel_rfl) (by kernel_rfl) (by kernel_rfl) (fun _ _ _ h => h) (by rfl) ?_ (by assumption) ?_; rotate_left; (intro w hSw; (try dsimp only at hSw); go_simp; (first | done | with_reducible rfl)); (try simp only [Act.put, List.setIfInBounds_toArray, List.set_cons_zero, List.set_cons_succ]))
            refine wpAnyH_ready (rs := [11]) (by kernel_rfl) (by simp) ?_
            refine AllReadyH.cons rfl (fun K hK => ?_) AllReadyH.nil
            obtain ⟨⟨u0, u1, u2, u3, u4⟩, g0, g1, g2, g3, g4⟩ := PB.five
            go_simp
            have hE' : Ext W0 (((((V4.setCell ⟨V0.heap.size, 0, none⟩ (.int .i64 x0)).setCell ⟨V0.heap.size, 1, none⟩ (.int .i64 x1)).setCell ⟨V0.heap.size, 2, none⟩ (.int .i64 x2)).setCell ⟨V0.heap.size, 3, none⟩ (.int .i64 x3)).setCell ⟨V0.heap.size, 4, none⟩ (.int .i64 x4)) := (((((hE.setNew (by first | omega | (simp; omega) | simp) _).setNew (by first | omega | (simp; omega) | simp) _).setNew (by first | omega | (simp; omega) | simp) _).setNew (by first | omega | (simp; omega) | simp) _).setNew (by first | omega | (simp; omega) | simp) _)
            refine hK.out _ _ hE' (fun hHeld => ?_)
            clear hK K
            (try simp only [Act.put, List.setIfInBounds_toArray, List.set_cons_zero, List.set_cons_succ])
            replace PB := PB.set5 (a := .int .i64 x0) (b := .int .i64 x1) (c := .int .i64 x2) (d := .int .i64 x3) (e := .int .i64 x4)
            (refine Ord.takeH 12 11 (v := ?_) rfl rfl (by kernel_rfl) (by kernel_rfl) (by kernel_rfl) (fun _ _ _ h => h) (by rfl) ?_ (by assumption) ?_; rotate_left; (intro w hSw; (try dsimp only at hSw); go_simp; (first | done | with_reducible rfl)); (try simp only [Act.put, List.setIfInBounds_toArray, List.set_cons_zero, List.set_cons_succ]))
            refine wpAnyH_done (by kernel_rfl) ?_ _
            go_wp2_with fail
            go_meet
            exact ⟨⟨_, rfl, PB⟩, rfl, hE'⟩
  case rest =>
    obtain ⟨⟨B5, rfl, P5⟩, rfl, hz2⟩ := hcut
    obtain ⟨z2, rfl⟩ : ∃ z2 : World, z2 = wc := ⟨_, rfl⟩
    clear hz
    have t00 := e00 _ hz2
    go_wp2_with fail
    refine (toTrack_any a cap fs _ (HF1.out.ext (hX.trans hz2)) HL1.out).mono ?_
    rintro e y1 ⟨C1, rfl, -, P1, hy⟩
    have R1 := P1.fxs HM1.out
    have hz := hz2.trans hy
    replace P5 := P5.ext hy
    clear P1 hy hz2 t00
    generalize hU1 : y1.alloc (.cells #[.slice (some ⟨C1, 0, none⟩) fs.length fs.length] 35) = U1
    have hyV : Ext y1 U1 := hU1 ▸ (Ext.refl _).alloc _
    replace R1 := R1.ext hyV
    replace P5 := P5.ext hyV
    have hWV : Ext W0 U1 := hz.trans hyV
    replace e00 : ∀ w', Ext U1 w' → w'.cell? ⟨w.heap.size, 0, none⟩ = some (.slice a fs.length cap) := fun w' h => e00 w' (hWV.trans h)
    replace e10 : ∀ w', Ext U1 w' → w'.cell? ⟨w.heap.size + 1, 0, none⟩ = some (.int .i64 p) := fun w' h => e10 w' (hWV.trans h)
    replace e11 : ∀ w', Ext U1 w' → w'.cell? ⟨w.heap.size + 1, 1, none⟩ = some (.int .i64 q) := fun w' h => e11 w' (hWV.trans h)
    replace e12 : ∀ w', Ext U1 w' → w'.cell? ⟨w.heap.size + 1, 2, none⟩ = some (.int .i64 u) := fun w' h => e12 w' (hWV.trans h)
    replace e13 : ∀ w', Ext U1 w' → w'.cell? ⟨w.heap.size + 1, 3, none⟩ = some (.int .i64 v) := fun w' h => e13 w' (hWV.trans h)
    have b1 : ∀ w', Ext U1 w' → w'.cell? ⟨y1.heap.size, 0, none⟩ = some (.slice (some ⟨C1, 0, none⟩) fs.length fs.length) := fun w' h => h.cellOf (hU1 ▸ boxed 0 rfl rfl)
    replace hX := hX.trans hWV
    clear hWV hyV hz
    go_upto_region 7 with fail
    try rw [hU1]
    clear hU1
    go_cut [13, 14] (fun s t wx => (∃ B, s = .pointer (some ⟨B, 0, none⟩) ∧ Box wx B [.int .i64 x0, .int .i64 x1, .int .i64 x2, .int .i64 x3, .int .i64 x4]) ∧ t = .int .i64 ck ∧ Ext U1 wx)
    case first =>
      refine wp_region_held_drew (S := fun w' => Ext U1 w') (by kernel_rfl) (by (try dsimp only); exact (Ext.refl U1).drew) (fun hHeld => ?_)
      (refine Ord.takeH 0 33 (v := ?_) rfl rfl (by kernel_rfl) (by kernel_rfl) (by kernel_rfl) (fun _ _ _ h => h) (by rfl) ?_ (by assumption) ?_; rotate_left; (intro w hSw; (try dsimp only at hSw); go_simp; (first | done | with_reducible rfl)); (try simp only [Act.put, List.setIfInBounds_toArray, List.set_cons_zero, List.set_cons_succ])); (refine Ord.takeH 1 34 (v := ?_) rfl rfl (by kernel_rfl) (by kernel_rfl) (by kernel_rfl) (fun _ _ _ h => h) (by rfl) ?_ (by assumption) ?_; rotate_left; (intro w hSw; (try dsimp only at hSw); go_simp; (first | done | with_reducible rfl)); (try simp only [Act.put, List.setIfInBounds_toArray, List.set_cons_zero, List.set_cons_succ])); (refine Ord.takeH 3 36 (v := ?_) rfl rfl (by kernel_rfl) (by kernel_rfl) (by kernel_rfl) (fun _ _ _ h => h) (by rfl) ?_ (by assumption) ?_; rotate_left; (intro w hSw; (try dsimp only at hSw); go_simp; (first | done | with_reducible rfl)); (try simp only [Act.put, List.setIfInBounds_toArray, List.set_cons_zero, List.set_cons_succ])); (refine Ord.takeH 4 37 (v := ?_) rfl rfl (by kernel_rfl) (by kernel_rfl) (by kernel_rfl) (fun _ _ _ h => h) (by rfl) ?_ (by assumption) ?_; rotate_left; (intro w hSw; (try dsimp only at hSw); go_simp; (first | done | with_reducible rfl)); (try simp only [Act.put, List.setIfInBounds_toArray, List.set_cons_zero, List.set_cons_succ]))
      have hE : Ext U1 U1.drew := (Ext.refl U1).drew
      obtain ⟨V0, hV0⟩ : ∃ V0, V0 = U1.drew := ⟨_, rfl⟩
      rw [← hV0] at hE hHeld ⊢
      clear hV0
      have z00 := Ext.size hE
      refine wpAnyH_ready (rs := [2, 9]) (by kernel_rfl) (by simp) ?_
      refine (AllReadyH.cons rfl (fun K hK => ?_) (AllReadyH.cons rfl (fun K hK => ?_) AllReadyH.nil))
      · go_simp
        go_at_call 12
        refine (toLine_any _ _ _ _ _).mono ?_
        rintro e V1 ⟨rfl, hy⟩
        go_wp2_with fail
        have zy := Ext.size hy
        have hE' := hE.trans hy
        refine hK.out _ _ hE' (fun hHeld => ?_)
        clear hK K
        (try simp only [Act.put, List.setIfInBounds_toArray, List.set_cons_zero, List.set_cons_succ])
        replace hE := hE'
        clear hE' hy
        refine wpAnyH_ready (rs := [5, 9]) (by kernel_rfl) (by simp) ?_
        refine (AllReadyH.cons rfl (fun K hK => ?_) (AllReadyH.cons rfl (fun K hK => ?_) AllReadyH.nil))
        · go_simp
          go_at_call 20
          refine (KI.out _ _ _ (R1.ext hE)).mono ?_
          rintro e V2 ⟨rfl, hy⟩
          go_wp2_with fail
          have zy := Ext.size hy
          have hE' := hE.trans hy
          refine hK.out _ _ hE' (fun hHeld => ?_)
          clear hK K
          (try simp only [Act.put, List.setIfInBounds_toArray, List.set_cons_zero, List.set_cons_succ])
          replace hE := hE'
          clear hE' hy
          (refine Ord.takeH 6 32 (v := ?_) rfl rfl (by kernel_rfl) (by kernel_rfl) (by kernel_rfl) (fun _ _ _ h => h) (by rfl) ?_ (by assumption) ?_; rotate_left; (intro w hSw; (try dsimp only at hSw); go_simp; (first | done | with_reducible rfl)); (try simp only [Act.put, List.setIfInBounds_toArray, List.set_cons_zero, List.set_cons_succ])); (refine Ord.takeH 7 39 (v := ?_) rfl rfl (by kernel_rfl) (by kernel_rfl) (by kernel_rfl) (fun _ _ _ h => h) (by rfl) ?_ (by assumption) ?_; rotate_left; (intro w hSw; (try dsimp only at hSw); go_simp; (first | done | with_reducible rfl)); (try simp only [Act.put, List.setIfInBounds_toArray, List.set_cons_zero, List.set_cons_succ])); (refine Ord.takeH 8 40 (v := ?_) rfl rfl (by kernel_rfl) (by kernel_rfl) (by kernel_rfl) (fun _ _ _ h => h) (by rfl) ?_ (by assumption) ?_; rotate_left; (intro w hSw; (try dsimp only at hSw); go_simp; (first | done | with_reducible rfl)); (try simp only [Act.put, List.setIfInBounds_toArray, List.set_cons_zero, List.set_cons_succ]))
          refine wpAnyH_ready (rs := [9]) (by kernel_rfl) (by simp) ?_
          refine (AllReadyH.cons rfl (fun K hK => ?_) AllReadyH.nil)
          · go_simp
            have hE' : Ext U1 (V2.alloc (.cells #[.int .i64 0, .int .i64 0, .int .i64 0, .int .i64 0, .int .i64 0] 49)) := hE.alloc _
            refine hK.out _ _ hE' (fun hHeld => ?_)
            clear hK K
            (try simp only [Act.put, List.setIfInBounds_toArray, List.set_cons_zero, List.set_cons_succ])
            have PB := Box.new5 (w := V2) (x := .int .i64 0) (y := .int .i64 0) (z := .int .i64 0) (u := .int .i64 0) (r := .int .i64 0) (t := 49) rfl
            have zA := Ext.size hE
            have yA : V2.heap.size < (V2.alloc (.cells #[.int .i64 0, .int .i64 0, .int .i64 0, .int .i64 0, .int .i64 0] 49)).heap.size := by simp
            replace hE := hE'
            clear hE'
            generalize V2.alloc (.cells #[.int .i64 0, .int .i64 0, .int .i64 0, .int .i64 0, .int .i64 0] 49) = V3 at *
            refine wpAnyH_ready (rs := [10]) (by kernel_rfl) (by simp) ?_
            refine AllReadyH.cons rfl (fun K hK => ?_) AllReadyH.nil
            obtain ⟨⟨u0, u1, u2, u3, u4⟩, g0, g1, g2, g3, g4⟩ := PB.five
            go_simp
            have hE' : Ext U1 (((((V3.setCell ⟨V2.heap.size, 0, none⟩ (.int .i64 x0)).setCell ⟨V2.heap.size, 1, none⟩ (.int .i64 x1)).setCell ⟨V2.heap.size, 2, none⟩ (.int .i64 x2)).setCell ⟨V2.heap.size, 3, none⟩ (.int .i64 x3)).setCell ⟨V2.heap.size, 4, none⟩ (.int .i64 x4)) := (((((hE.setNew (by first | omega | (simp; omega) | simp) _).setNew (by first | omega | (simp; omega) | simp) _).setNew (by first | omega | (simp; omega) | simp) _).setNew (by first | omega | (simp; omega) | simp) _).setNew (by first | omega | (simp; omega) | simp) _)
            refine hK.out _ _ hE' (fun hHeld => ?_)
            clear hK K
            (try simp only [Act.put, List.setIfInBounds_toArray, List.set_cons_zero, List.set_cons_succ])
            replace PB := PB.set5 (a := .int .i64 x0) (b := .int .i64 x1) (c := .int .i64 x2) (d := .int .i64 x3) (e := .int .i64 x4)
            (refine Ord.takeH 11 14 (v := ?_) rfl rfl (by kernel_rfl) (by kernel_rfl) (by kernel_rfl) (fun _ _ _ h => h) (by rfl) ?_ (by assumption) ?_; rotate_left; (intro w hSw; (try dsimp only at hSw); go_simp; (first | done | with_reducible rfl)); (try simp only [Act.put, List.setIfInBounds_toArray, List.set_cons_zero, List.set_cons_succ]))
            refine wpAnyH_done (by kernel_rfl) ?_ _
            go_wp2_with fail
            go_meet
            exact ⟨⟨_, rfl, PB⟩, rfl, hE'⟩
        · go_simp
          have hE' : Ext U1 (V1.alloc (.cells #[.int .i64 0, .int .i64 0, .int .i64 0, .int .i64 0, .int .i64 0] 49)) := hE.alloc _
          refine hK.out _ _ hE' (fun hHeld => ?_)
          clear hK K
          (try simp only [Act.put, List.setIfInBounds_toArray, List.set_cons_zero, List.set_cons_succ])
          have PB := Box.new5 (w := V1) (x := .int .i64 0) (y := .int .i64 0) (z := .int .i64 0) (u := .int .i64 0) (r := .int .i64 0) (t := 49) rfl
          have zA := Ext.size hE
          have yA : V1.heap.size < (V1.alloc (.cells #[.int .i64 0, .int .i64 0, .int .i64 0, .int .i64 0, .int .i64 0] 49)).heap.size := by simp
          replace hE := hE'
          clear hE'
          generalize V1.alloc (.cells #[.int .i64 0, .int .i64 0, .int .i64 0, .int .i64 0, .int .i64 0] 49) = V2 at *
          refine wpAnyH_ready (rs := [5]) (by kernel_rfl) (by simp) ?_
          refine (AllReadyH.cons rfl (fun K hK => ?_) AllReadyH.nil)
          · go_simp
            go_at_call 20
            refine (KI.out _ _ _ (R1.ext hE)).mono ?_
            rintro e V3 ⟨rfl, hy⟩
            go_wp2_with fail
            have zy := Ext.size hy
            have hE' := hE.trans hy
            refine hK.out _ _ hE' (fun hHeld => ?_)
            clear hK K
            (try simp only [Act.put, List.setIfInBounds_toArray, List.set_cons_zero, List.set_cons_succ])
            replace PB := PB.ext hy
            replace hE := hE'
            clear hE' hy
            (refine Ord.takeH 6 32 (v := ?_) rfl rfl (by kernel_rfl) (by kernel_rfl) (by kernel_rfl) (fun _ _ _ h => h) (by rfl) ?_ (by assumption) ?_; rotate_left; (intro w hSw; (try dsimp only at hSw); go_simp; (first | done | with_reducible rfl)); (try simp only [Act.put, List.setIfInBounds_toArray, List.set_cons_zero, List.set_cons_succ])); (refine Ord.takeH 7 39 (v := ?_) rfl rfl (by kernel_rfl) (by kernel_rfl) (by kernel_rfl) (fun _ _ _ h => h) (by rfl) ?_ (by assumption) ?_; rotate_left; (intro w hSw; (try dsimp only at hSw); go_simp; (first | done | with_reducible rfl)); (try simp only [Act.put, List.setIfInBounds_toArray, List.set_cons_zero, List.set_cons_succ])); (refine Ord.takeH 8 40 (v := ?_) rfl rfl (by kernel_rfl) (by kernel_rfl) (by kernel_rfl) (fun _ _ _ h => h) (by rfl) ?_ (by assumption) ?_; rotate_left; (intro w hSw; (try dsimp only at hSw); go_simp; (first | done | with_reducible rfl)); (try simp only [Act.put, List.setIfInBounds_toArray, List.set_cons_zero, List.set_cons_succ]))
            refine wpAnyH_ready (rs := [10]) (by kernel_rfl) (by simp) ?_
            refine AllReadyH.cons rfl (fun K hK => ?_) AllReadyH.nil
            obtain ⟨⟨u0, u1, u2, u3, u4⟩, g0, g1, g2, g3, g4⟩ := PB.five
            go_simp
            have hE' : Ext U1 (((((V3.setCell ⟨V1.heap.size, 0, none⟩ (.int .i64 x0)).setCell ⟨V1.heap.size, 1, none⟩ (.int .i64 x1)).setCell ⟨V1.heap.size, 2, none⟩ (.int .i64 x2)).setCell ⟨V1.heap.size, 3, none⟩ (.int .i64 x3)).setCell ⟨V1.heap.size, 4, none⟩ (.int .i64 x4)) := (((((hE.setNew (by first | omega | (simp; omega) | simp) _).setNew (by first | omega | (simp; omega) | simp) _).setNew (by first | omega | (simp; omega) | simp) _).setNew (by first | omega | (simp; omega) | simp) _).setNew (by first | omega | (simp; omega) | simp) _)
            refine hK.out _ _ hE' (fun hHeld => ?_)
            clear hK K
            (try simp only [Act.put, List.setIfInBounds_toArray, List.set_cons_zero, List.set_cons_succ])
            replace PB := PB.set5 (a := .int .i64 x0) (b := .int .i64 x1) (c := .int .i64 x2) (d := .int .i64 x3) (e := .int .i64 x4)
            (refine Ord.takeH 11 14 (v := ?_) rfl rfl (by kernel_rfl) (by kernel_rfl) (by kernel_rfl) (fun _ _ _ h => h) (by rfl) ?_ (by assumption) ?_; rotate_left; (intro w hSw; (try dsimp only at hSw); go_simp; (first | done | with_reducible rfl)); (try simp only [Act.put, List.setIfInBounds_toArray, List.set_cons_zero, List.set_cons_succ]))
            refine wpAnyH_done (by kernel_rfl) ?_ _
            go_wp2_with fail
            go_meet
            exact ⟨⟨_, rfl, PB⟩, rfl, hE'⟩
      · go_simp
        have hE' : Ext U1 (V0.alloc (.cells #[.int .i64 0, .int .i64 0, .int .i64 0, .int .i64 0, .int .i64 0] 49)) := hE.alloc _
        refine hK.out _ _ hE' (fun hHeld => ?_)
        clear hK K
        (try simp only [Act.put, List.setIfInBounds_toArray, List.set_cons_zero, List.set_cons_succ])
        have PB := Box.new5 (w := V0) (x := .int .i64 0) (y := .int .i64 0) (z := .int .i64 0) (u := .int .i64 0) (r := .int .i64 0) (t := 49) rfl
        have zA := Ext.size hE
        have yA : V0.heap.size < (V0.alloc (.cells #[.int .i64 0, .int .i64 0, .int .i64 0, .int .i64 0, .int .i64 0] 49)).heap.size := by simp
        replace hE := hE'
        clear hE'
        generalize V0.alloc (.cells #[.int .i64 0, .int .i64 0, .int .i64 0, .int .i64 0, .int .i64 0] 49) = V1 at *
        refine wpAnyH_ready (rs := [2]) (by kernel_rfl) (by simp) ?_
        refine (AllReadyH.cons rfl (fun K hK => ?_) AllReadyH.nil)
        · go_simp
          go_at_call 12
          refine (toLine_any _ _ _ _ _).mono ?_
          rintro e V2 ⟨rfl, hy⟩
          go_wp2_with fail
          have zy := Ext.size hy
          have hE' := hE.trans hy
          refine hK.out _ _ hE' (fun hHeld => ?_)
          clear hK K
          (try simp only [Act.put, List.setIfInBounds_toArray, List.set_cons_zero, List.set_cons_succ])
          replace PB := PB.ext hy
          replace hE := hE'
          clear hE' hy
          refine wpAnyH_ready (rs := [5]) (by kernel_rfl) (by simp) ?_
          refine (AllReadyH.cons rfl (fun K hK => ?_) AllReadyH.nil)
          · go_simp
            go_at_call 20
            refine (KI.out _ _ _ (R1.ext hE)).mono ?_
            rintro e V3 ⟨rfl, hy⟩
            go_wp2_with fail
            have zy := Ext.size hy
            have hE' := hE.trans hy
            refine hK.out _ _ hE' (fun hHeld => ?_)
            clear hK K
            (try simp only [Act.put, List.setIfInBounds_toArray, List.set_cons_zero, List.set_cons_succ])
            replace PB := PB.ext hy
            replace hE := hE'
            clear hE' hy
            (refine Ord.takeH 6 32 (v := ?_) rfl rfl (by kernel_rfl) (by kernel_rfl) (by kernel_rfl) (fun _ _ _ h => h) (by rfl) ?_ (by assumption) ?_; rotate_left; (intro w hSw; (try dsimp only at hSw); go_simp; (first | done | with_reducible rfl)); (try simp only [Act.put, List.setIfInBounds_toArray, List.set_cons_zero, List.set_cons_succ])); (refine Ord.takeH 7 39 (v := ?_) rfl rfl (by kernel_rfl) (by kernel_rfl) (by kernel_rfl) (fun _ _ _ h => h) (by rfl) ?_ (by assumption) ?_; rotate_left; (intro w hSw; (try dsimp only at hSw); go_simp; (first | done | with_reducible rfl)); (try simp only [Act.put, List.setIfInBounds_toArray, List.set_cons_zero, List.set_cons_succ])); (refine Ord.takeH 8 40 (v := ?_) rfl rfl (by kernel_rfl) (by kernel_rfl) (by kernel_rfl) (fun _ _ _ h => h) (by rfl) ?_ (by assumption) ?_; rotate_left; (intro w hSw; (try dsimp only at hSw); go_simp; (first | done | with_reducible rfl)); (try simp only [Act.put, List.setIfInBounds_toArray, List.set_cons_zero, List.set_cons_succ]))
            refine wpAnyH_ready (rs := [10]) (by kernel_rfl) (by simp) ?_
            refine AllReadyH.cons rfl (fun K hK => ?_) AllReadyH.nil
            obtain ⟨⟨u0, u1, u2, u3, u4⟩, g0, g1, g2, g3, g4⟩ := PB.five
            go_simp
            have hE' : Ext U1 (((((V3.setCell ⟨V0.heap.size, 0, none⟩ (.int .i64 x0)).setCell ⟨V0.heap.size, 1, none⟩ (.int .i64 x1)).setCell ⟨V0.heap.size, 2, none⟩ (.int .i64 x2)).setCell ⟨V0.heap.size, 3, none⟩ (.int .i64 x3)).setCell ⟨V0.heap.size, 4, none⟩ (.int .i64 x4)) := (((((hE.setNew (by first | omega | (simp; omega) | simp) _).setNew (by first | omega | (simp; omega) | simp) _).setNew (by first | omega | (simp; omega) | simp) _).setNew (by first | omega | (simp; omega) | simp) _).setNew (by first | omega | (simp; omega) | simp) _)
            refine hK.out _ _ hE' (fun hHeld => ?_)
            clear hK K
            (try simp only [Act.put, List.setIfInBounds_toArray, List.set_cons_zero, List.set_cons_succ])
            replace PB := PB.set5 (a := .int .i64 x0) (b := .int .i64 x1) (c := .int .i64 x2) (d := .int .i64 x3) (e := .int .i64 x4)
            (refine Ord.takeH 11 14 (v := ?_) rfl rfl (by kernel_rfl) (by kernel_rfl) (by kernel_rfl) (fun _ _ _ h => h) (by rfl) ?_ (by assumption) ?_; rotate_left; (intro w hSw; (try dsimp only at hSw); go_simp; (first | done | with_reducible rfl)); (try simp only [Act.put, List.setIfInBounds_toArray, List.set_cons_zero, List.set_cons_succ]))
            refine wpAnyH_done (by kernel_rfl) ?_ _
            go_wp2_with fail
            go_meet
            exact ⟨⟨_, rfl, PB⟩, rfl, hE'⟩
    case rest =>
      obtain ⟨⟨B7, rfl, P7⟩, rfl, hz2⟩ := hcut
      obtain ⟨z3, rfl⟩ : ∃ z3 : World, z3 = wc := ⟨_, rfl⟩
      obtain ⟨⟨d0, d1, d2, d3, d4⟩, _⟩ := P7.five
      obtain ⟨⟨k0, k1, k2, k3, k4⟩, _⟩ := (P5.ext hz2).five
      replace R1 := R1.ext hz2
      clear P5 P7 KS KI TT1
      go_wp2_with fail
      refine (eqCrossing_same _ _ _ _ _ _).mono ?_
      rintro e z4 ⟨rfl, hy⟩
      replace hz2 : Ext U1 z4 := hz2.trans hy
      replace R1 := R1.ext hy
      clear hy d0 k0 d1 k1 d2 k2 d3 k3 d4 k4
      go_upto_region 10 with fail
      replace R1 := R1.ext (Ext.refl _).drew
      refine wp_region_held_drew (S := (fun w' => Ext U1 w')) (by kernel_rfl) (by (try dsimp only); first | go_keep | exact (Ext.refl _).drew | exact Res.new2.drew | exact Res.new4.drew | exact ResB.drew (by assumption) | exact ResC.drew (by assumption) | assumption | exact Ext.drew (by assumption) | exact Res.drew (by assumption)) (fun hHeld => ?_)
      (refine Ord.takeH 0 50 (v := ?_) rfl rfl (by kernel_rfl) (by kernel_rfl) (by kernel_rfl) (fun _ _ _ h => h) (by rfl) ?_ (by assumption) ?_; rotate_left; (intro w hSw; (try dsimp only at hSw); go_simp; (first | done | with_reducible rfl)); (try simp only [Act.put, List.setIfInBounds_toArray, List.set_cons_zero, List.set_cons_succ]))
      (refine Ord.takeH 1 51 (v := ?_) rfl rfl (by kernel_rfl) (by kernel_rfl) (by kernel_rfl) (fun _ _ _ h => h) (by rfl) ?_ (by assumption) ?_; rotate_left; (intro w hSw; (try dsimp only at hSw); go_simp; (first | done | with_reducible rfl)); (try simp only [Act.put, List.setIfInBounds_toArray, List.set_cons_zero, List.set_cons_succ]))
      (refine wpAnyH_ready (rs := [2]) (by kernel_rfl) (by simp) ?_; refine AllReadyH.cons rfl (fun K hK => ?_) AllReadyH.nil; go_simp; (first | (go_at_call 11; refine (toTrack_any a cap fs _ (HF1.out.ext (hX.trans (by assumption))) HL1.out).mono ?_; rintro e w1 ⟨B1, rfl, -, O1, hy⟩; (try replace R1 := Fxs.ext R1 hy); have Q1 := O1.fxs HM1.out) | (go_at_call 15; refine (eqTrack_same _ _ _ _ _ _ (by assumption) (by assumption)).mono ?_; rintro e w1 ⟨rfl, hy⟩; (try replace R1 := Fxs.ext R1 hy))); go_wp2_with fail; (refine hK.out _ _ (by first | assumption | exact Ext.trans (by assumption) hy | exact Res.ext (by assumption) hy | exact ResB.ext (by assumption) hy | exact ResC.ext (by assumption) hy | (go_split_ands; (repeat' apply And.intro) <;> exact Ext.cellOf hy (by assumption))) (fun hHeld => ?_)); clear hK K; (try simp only [Act.put, List.setIfInBounds_toArray, List.set_cons_zero, List.set_cons_succ]))
      (refine wpAnyH_ready (rs := [3]) (by kernel_rfl) (by simp) ?_; refine AllReadyH.cons rfl (fun K hK => ?_) AllReadyH.nil; go_simp; (first | (go_at_call 11; refine (toTrack_any a cap fs _ (HF1.out.ext (hX.trans (by assumption))) HL1.out).mono ?_; rintro e w1 ⟨B1, rfl, -, O1, hy⟩; (try replace R1 := Fxs.ext R1 hy); have Q1 := O1.fxs HM1.out) | (go_at_call 15; refine (eqTrack_same _ _ _ _ _ _ (by assumption) (by assumption)).mono ?_; rintro e w1 ⟨rfl, hy⟩; (try replace R1 := Fxs.ext R1 hy))); go_wp2_with fail; (refine hK.out _ _ (by first | assumption | exact Ext.trans (by assumption) hy | exact Res.ext (by assumption) hy | exact ResB.ext (by assumption) hy | exact ResC.ext (by assumption) hy | (go_split_ands; (repeat' apply And.intro) <;> exact Ext.cellOf hy (by assumption))) (fun hHeld => ?_)); clear hK K; (try simp only [Act.put, List.setIfInBounds_toArray, List.set_cons_zero, List.set_cons_succ]))
      (refine Ord.takeH 4 54 (v := ?_) rfl rfl (by kernel_rfl) (by kernel_rfl) (by kernel_rfl) (fun _ _ _ h => h) (by rfl) ?_ (by assumption) ?_; rotate_left; (intro w hSw; (try dsimp only at hSw); go_simp; (first | done | with_reducible rfl)); (try simp only [Act.put, List.setIfInBounds_toArray, List.set_cons_zero, List.set_cons_succ]))
      refine wpAnyH_done (by kernel_rfl) ?_ _
      go_wp2
      go_ret
      exact ⟨rfl, hX.trans hHeld⟩

theorem own : ownKnob Try.prog.godebug = none := by kernel_rfl
theorem laidOut : laidOutB Try.prog = true := by kernel_rfl

set_option maxRecDepth 100000 in
set_option maxHeartbeats 1000000 in
theorem lifted (os : Os) (started : os.Started) (H : Type) (enc : TypeId × Value → H) :
    ReturnsInHanded {} Try.checked os 4 .any (Rows.fnExactFirstCrossingSpec.pre6 enc Try.prog Try.f4 Rows.fnExactFirstCrossingRow.domain false) (Rows.fnExactFirstCrossingSpec.post enc Try.prog Try.f4 false true false false) := by
  refine returnsInHanded_of_change (C := Try.checked) own started (by kernel_rfl) Try.func4
    (ChangeSpec.witness6 (enc := enc) (C := Try.checked) false ⟨#[], #[.agg #[.slice none 0 0], .agg #[.int .i64 0, .int .i64 0, .int .i64 0, .int .i64 0], .int .i64 0, .int .i64 0], []⟩ 8 (by kernel_rfl) (by kernel_rfl) (by kernel_rfl) (by kernel_rfl)) ?_
  intro W base args ds gs before hval0 hW hcnd _
  have hval : ∀ (j : Nat) t v, Try.f4.params[j]? = some t → args[j]? = some v → Value.okWide Try.prog W .any base t v := hval0
  have hW' := hW
  obtain ⟨p, q, hA0, hV, rfl, hfz, hnd⟩ := hW
  have hA : DataW.TrodAll enc Try.prog W 0 (fun _ => true) true Try.f4.params.toList args.toList ds p := hA0
  rw [Try.params4] at hA hval
  obtain ⟨v0, vs0, d0, ds0, p0, q0, hargs, rfl, rfl, h0, r0⟩ := trodAll_cons hA
  obtain ⟨v1, vs1, d1, ds1, p1, q1, rfl, rfl, rfl, h1, r1⟩ := trodAll_cons r0
  obtain ⟨v2, vs2, d2, ds2, p2, q2, rfl, rfl, rfl, h2, r2⟩ := trodAll_cons r1
  obtain ⟨v3, vs3, d3, ds3, p3, q3, rfl, rfl, rfl, h3, r3⟩ := trodAll_cons r2
  obtain ⟨rfl, rfl, rfl⟩ := trodAll_nil r3
  obtain rfl : args = #[v0, v1, v2, v3] := by cases args; simp_all
  obtain ⟨rfl, rfl⟩ := trodVars_none hV
  have k0 := h0
  have lt0 : ∀ x ∈ p0, x.block < W.heap.size := by obtain ⟨m, hm⟩ := k0; exact DataW.trod_lt m _ _ _ hm
  obtain ⟨a0, cap0, fs0, rfl, w0⟩ := Trk.open_track Try.underlying24 (by kernel_rfl) (by kernel_rfl) Try.underlying22 Try.underlying117 (by kernel_rfl) (by kernel_rfl) Try.underlying2 Try.underlying2 Try.underlying2 (hval 0 24 v0 rfl rfl) h0
  have k1 := h1
  have lt1 : ∀ x ∈ p1, x.block < W.heap.size := by obtain ⟨m, hm⟩ := k1; exact DataW.trod_lt m _ _ _ hm
  obtain ⟨a1, b1, c1, e1, rfl⟩ := Opn.open_seg Try.underlying28 Try.underlying26 Try.underlying26 (by kernel_rfl) rfl rfl (by kernel_rfl) (by kernel_rfl) (by kernel_rfl) (by kernel_rfl) Try.underlying2 Try.underlying2 Try.underlying2 Try.underlying2 (hval 1 28 v1 rfl rfl) h1
  have k2 := h2
  have lt2 : ∀ x ∈ p2, x.block < W.heap.size := by obtain ⟨m, hm⟩ := k2; exact DataW.trod_lt m _ _ _ hm
  obtain ⟨a2, rfl, _, _, w2⟩ := open_int Try.underlying2 (hval 2 2 v2 rfl rfl) h2
  have k3 := h3
  have lt3 : ∀ x ∈ p3, x.block < W.heap.size := by obtain ⟨m, hm⟩ := k3; exact DataW.trod_lt m _ _ _ hm
  obtain ⟨a3, rfl, _, _, w3⟩ := open_int Try.underlying2 (hval 3 2 v3 rfl rfl) h3
  clear hA0 hval0
  refine (walk a0 cap0 fs0 a1 b1 c1 e1 a2 a3 W w0).mono fun e W' ⟨he, hx⟩ => ?_
  have bel := hx.below
  subst he
  exact ⟨_, rfl, _, _, _, [], _, [], hW', trodAll_mk1 (shut_bool Try.underlying4 _), (trodAll_cons_mk (Below.trod laidOut (by kernel_rfl) (of_decide_eq_true (by kernel_rfl)) k0 bel lt0) (trodAll_cons_mk (Below.trod laidOut (by kernel_rfl) (of_decide_eq_true (by kernel_rfl)) k1 bel lt1) (trodAll_cons_mk (Below.trod laidOut (by kernel_rfl) (of_decide_eq_true (by kernel_rfl)) k2 bel lt2) (trodAll_cons_mk (Below.trod laidOut (by kernel_rfl) (of_decide_eq_true (by kernel_rfl)) k3 bel lt3) trodAll_mk0)))), rfl, bel.frame _, fun h => by cases h⟩

theorem proved : Rows.FnExactFirstCrossingSaid :=
  OpenClaim.holds_of_wide 4 Try.f4 rfl rfl rfl rfl rfl rfl rfl ⟨rfl, rfl, rfl, rfl, rfl⟩ rfl rfl rfl rfl rfl (by kernel_rfl) Try.func4 (by kernel_rfl)
    (of_decide_eq_true (by kernel_rfl)) (by unfold Func.isWrapper; first | (rw [if_pos (by decide +kernel)]; kernel_rfl) | (rw [if_neg (by decide +kernel)]; exact ⟨rfl, rfl⟩))
    (fun os started H enc _ => lifted os started H enc)

end Go.Proofs.Ytaliopnhdcdajaa.fnExactFirstCrossing
