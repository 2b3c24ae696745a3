import Derived.Test.YtmlojndkpnhalaaGreatRlt
import Derived.Test.YtmlojndkpnhalaaGreatRlx
import Derived.Test.YtmlojndkpnhalaaGreatOpnT
import Derived.ChangeOld
import Derived.Below
import Derived.Deep.DeepCutAuto
import Derived.Lib.SmallJoins
namespace Go.Proofs.YtmlojndkpnhalaaGreat.fnExactRuleAt
open Go.ChangeShapes Go.WideShapes Go.ChangeAt Go.RowKit
open Go.Proofs.YtmlojndkpnhalaaGreat.Kit Go.Proofs.YtmlojndkpnhalaaGreat.Pts Go.Proofs.YtmlojndkpnhalaaGreat.Wnd Go.Proofs.YtmlojndkpnhalaaGreat.Trk Go.Proofs.YtmlojndkpnhalaaGreat.Rul Go.Proofs.YtmlojndkpnhalaaGreat.Rlt
set_option linter.unusedVariables false
set_option linter.unusedSimpArgs false
set_option maxRecDepth 100000 in
set_option maxHeartbeats 8000000 in
theorem walk (x y : Int) (a : Option Addr) (cap : Nat) (fs : List F3) (b : Option Addr) (cap' : Nat) (gs : List F3) (t l s : Int) (w : World) (hf1 : Fxs w a fs) (hg1 : Fxs w b gs) : Calls Tryz.prog 9 #[Pt x y, Tr (.slice a fs.length cap), Tr (.slice b gs.length cap'), .int .i64 t, .int .i64 l, .int .i64 s] w fun e w' => e = .returned (.bool true) ∧ Ext w w' := by
  have HF1 := Lib.hid hf1
  have HG1 := Lib.hid hg1
  have HM1 := Lib.hid hf1.1
  have HN1 := Lib.hid hg1.1
  clear hf1 hg1
  have KS := Lib.hid (fun (hl : fs.length ≤ 1048576) (hk : gs.length ≤ 1048576) (a b : Option Addr) (w : World) (hf : Fxs w a fs) (hg : Fxs w b gs) => ruleAt_spec x y a b fs.length gs.length fs gs t l s w hf hg hl hk (Nat.le_refl _) (Nat.le_refl _))
  have KI := Lib.hid (fun (hl : fs.length ≤ 1048576) (hk : gs.length ≤ 1048576) (a b : Option Addr) (w : World) (hf : Fxs w a fs) (hg : Fxs w b gs) => ruleAt_impl x y a b fs.length gs.length fs gs t l s w hf hg hl hk (Nat.le_refl _) (Nat.le_refl _))
  generalize rtK x y fs gs t l s = kk at *
  generalize rtR x y fs gs t l s = rr at *
  generalize raC x y fs gs t l s = cc at *
  obtain ⟨W0, hW0⟩ : ∃ W0, W0 = ((w.alloc (.cells #[.int .i64 x, .int .i64 y] 91)).alloc (.cells #[.slice a fs.length cap] 94)).alloc (.cells #[.slice b gs.length cap'] 94) := ⟨_, rfl⟩
  have hX : Ext w W0 := hW0 ▸ ((((Ext.refl w).alloc _).alloc _).alloc _)
  have hs0 : W0.heap.size = w.heap.size + 1 + 1 + 1 := by rw [hW0]; simp
  have e00 : ∀ w', (Ext W0) w' → w'.cell? ⟨w.heap.size, 0, none⟩ = some (.int .i64 x) := fun w' h => h.cellOf (by rw [hW0]; exact (((Ext.refl _).alloc _).alloc _).cellOf (boxed 0 rfl (by simp)))
  have e01 : ∀ w', (Ext W0) w' → w'.cell? ⟨w.heap.size, 1, none⟩ = some (.int .i64 y) := fun w' h => h.cellOf (by rw [hW0]; exact (((Ext.refl _).alloc _).alloc _).cellOf (boxed 1 rfl (by simp)))
  have e10 : ∀ w', (Ext W0) w' → w'.cell? ⟨w.heap.size + 1, 0, none⟩ = some (.slice a fs.length cap) := fun w' h => h.cellOf (by rw [hW0]; exact ((Ext.refl _).alloc _).cellOf (boxed 0 rfl (by simp)))
  have e20 : ∀ w', (Ext W0) w' → w'.cell? ⟨w.heap.size + 1 + 1, 0, none⟩ = some (.slice b gs.length cap') := fun w' h => h.cellOf (by rw [hW0]; exact boxed 0 rfl (by simp))
  have hr0 := Ext.refl W0
  have q10 := e10 W0 hr0
  go_enter Tryz.func9, Tryz.ntmps9
  go_wp2_with fail
  refine (szTrack_any _ _ _ _ _ HM1.out (by omega) (by omega)).mono ?_
  rintro e z1 ⟨rfl, hz⟩
  rw [← hW0] at hz
  clear hW0 hr0 q10
  replace hz : Ext W0 z1 := hz
  by_cases hl1 : (1048576 : Int) - fs.length < 0
  · rw [szL_neg hl1]
    go_wp2
    go_ret
    exact ⟨rfl, hX.trans hz⟩
  have hl1b : decide ((1048576 : Int) - fs.length < 0) = false := decide_eq_false hl1
  rw [szL_pos hl1]
  have q20 := e20 z1 hz
  go_wp2_with fail
  refine (szTrack_any _ _ _ _ _ HN1.out (by omega) (by omega)).mono ?_
  rintro e z1' ⟨rfl, hz'⟩
  replace hz := hz.trans hz'
  clear q20 hz'
  by_cases hk1 : (1048576 : Int) - fs.length - gs.length < 0
  · rw [szL_neg hk1]
    go_wp2
    go_ret
    exact ⟨rfl, hX.trans hz⟩
  have hk1b : decide ((1048576 : Int) - fs.length - gs.length < 0) = false := decide_eq_false hk1
  rw [szL_pos hk1]
  have HL1 := Lib.hid (show fs.length ≤ 1048576 by omega)
  have HK1 := Lib.hid (show gs.length ≤ 1048576 by omega)
  have TT1 := Lib.hid (fun w' (h : Ext w w') => toTrack_any a cap fs w' (HF1.out.ext h) HL1.out)
  have TU1 := Lib.hid (fun w' (h : Ext w w') => toTrack_any b cap' gs w' (HG1.out.ext h) HK1.out)
  go_wp2_with fail
  go_cut [14, 15] (fun s1 s2 wx => (∃ B, s1 = .pointer (some ⟨B, 0, none⟩) ∧ Box wx B [.int .i64 kk, .int .i64 rr]) ∧ s2 = .int .i64 cc ∧ Ext W0 wx)
  case first =>
    refine wp_region_held_drew (S := fun w' => Ext W0 w') (by kernel_rfl) (by (try dsimp only); exact Ext.drew hz) (fun hHeld => ?_)
    have hE : Ext W0 z1'.drew := Ext.drew hz
    obtain ⟨V0, hV0⟩ : ∃ V0, V0 = z1'.drew := ⟨_, rfl⟩
    rw [← hV0] at hE hHeld ⊢
    clear hV0
    refine Ord.K 0 31 ?_; refine Ord.K 2 33 ?_; refine Ord.K 4 35 ?_; refine Ord.K 6 37 ?_; refine Ord.K 7 38 ?_; refine Ord.K 8 39 ?_
    refine wpAnyH_ready (rs := [1, 13]) (by kernel_rfl) (by simp) ?_
    refine (AllReadyH.cons rfl (fun K hK => ?_) (AllReadyH.cons rfl (fun K hK => ?_) AllReadyH.nil))
    · go_simp
      go_at_call 50
      refine (toWind_any x y _).mono ?_
      rintro e V1 ⟨rfl, hy⟩
      go_wp2_with fail
      have zy := Ext.size hy
      have hE' := hE.trans hy
      refine hK.out _ _ hE' (fun hHeld => ?_)
      clear hK K
      (try simp only [Act.put, Ord.a, Ord.b, Ord.c])
      replace hE := hE'
      clear hE' hy
      refine wpAnyH_ready (rs := [3, 13]) (by kernel_rfl) (by simp) ?_
      refine (AllReadyH.cons rfl (fun K hK => ?_) (AllReadyH.cons rfl (fun K hK => ?_) AllReadyH.nil))
      · go_simp
        go_at_call 51
        refine (TT1.out _ (hX.trans hE)).mono ?_
        rintro e V2 ⟨B1, rfl, -, O1, hy⟩
        go_wp2_with fail
        have zy := Ext.size hy
        have hE' := hE.trans hy
        refine hK.out _ _ hE' (fun hHeld => ?_)
        clear hK K
        (try simp only [Act.put, Ord.a, Ord.b, Ord.c])
        replace hE := hE'
        have R1 := O1.fxs HM1.out
        clear hE' hy
        refine wpAnyH_ready (rs := [5, 13]) (by kernel_rfl) (by simp) ?_
        refine (AllReadyH.cons rfl (fun K hK => ?_) (AllReadyH.cons rfl (fun K hK => ?_) AllReadyH.nil))
        · go_simp
          go_at_call 51
          refine (TU1.out _ (hX.trans hE)).mono ?_
          rintro e V3 ⟨B2, rfl, -, O2, hy⟩
          go_wp2_with fail
          have zy := Ext.size hy
          have hE' := hE.trans hy
          refine hK.out _ _ hE' (fun hHeld => ?_)
          clear hK K
          (try simp only [Act.put, Ord.a, Ord.b, Ord.c])
          replace R1 := Fxs.ext R1 hy
          replace hE := hE'
          have R2 := O2.fxs HN1.out
          clear hE' hy
          refine wpAnyH_ready (rs := [9, 13]) (by kernel_rfl) (by simp) ?_
          refine (AllReadyH.cons rfl (fun K hK => ?_) (AllReadyH.cons rfl (fun K hK => ?_) AllReadyH.nil))
          · go_simp
            go_at_call 30
            refine (KS.out HL1.out HK1.out _ _ _ R1 R2).mono ?_
            rintro e V4 ⟨rfl, hy⟩
            go_wp2_with fail
            have zy := Ext.size hy
            have hE' := hE.trans hy
            refine hK.out _ _ hE' (fun hHeld => ?_)
            clear hK K
            (try simp only [Act.put, Ord.a, Ord.b, Ord.c])
            replace R1 := Fxs.ext R1 hy
            replace R2 := Fxs.ext R2 hy
            replace hE := hE'
            clear hE' hy
            refine Ord.K 10 30 ?_; refine Ord.K 11 41 ?_; refine Ord.K 12 42 ?_
            refine wpAnyH_ready (rs := [13]) (by kernel_rfl) (by simp) ?_
            refine (AllReadyH.cons rfl (fun K hK => ?_) AllReadyH.nil)
            go_simp
            have hy : Ext V4 (V4.alloc (.cells #[.int .i64 0, .int .i64 0] 58)) := (Ext.refl V4).alloc _
            have hE' := hE.trans hy
            refine hK.out _ _ hE' (fun hHeld => ?_)
            clear hK K
            (try simp only [Act.put, Ord.a, Ord.b, Ord.c])
            replace R1 := Fxs.ext R1 hy
            replace R2 := Fxs.ext R2 hy
            have P13 : Box (V4.alloc (.cells #[.int .i64 0, .int .i64 0] 58)) V4.heap.size [.int .i64 0, .int .i64 0] := Box.new (vs := [.int .i64 0, .int .i64 0]) rfl
            have z13 := Ext.size hE
            have y13 : V4.heap.size < (V4.alloc (.cells #[.int .i64 0, .int .i64 0] 58)).heap.size := by simp
            replace hE := hE'
            clear hE' hy
            generalize V4.alloc (.cells #[.int .i64 0, .int .i64 0] 58) = V5 at *
            refine wpAnyH_ready (rs := [14]) (by kernel_rfl) (by simp) ?_
            refine (AllReadyH.cons rfl (fun K hK => ?_) AllReadyH.nil)
            obtain ⟨⟨r0, r1⟩, r2, r3⟩ := P13.two
            go_simp
            have hE' : Ext W0 ((V5.setCell ⟨V4.heap.size, 0, none⟩ (.int .i64 kk)).setCell ⟨V4.heap.size, 1, none⟩ (.int .i64 rr)) := ((hE.setNew (by first | omega | (simp; omega) | simp) _).setNew (by first | omega | (simp; omega) | simp) _)
            refine hK.out _ _ hE' (fun hHeld => ?_)
            clear hK K r0 r1 r2 r3
            (try simp only [Act.put, Ord.a, Ord.b, Ord.c])
            replace P13 := P13.set2 (u := .int .i64 kk) (v := .int .i64 rr)
            replace hE := hE'
            clear hE'
            generalize ((V5.setCell ⟨V4.heap.size, 0, none⟩ (.int .i64 kk)).setCell ⟨V4.heap.size, 1, none⟩ (.int .i64 rr)) = V6 at *
            refine Ord.K 15 15 ?_
            refine wpAnyH_done (by kernel_rfl) ?_ _
            go_wp2_with fail; go_meet; exact ⟨⟨_, rfl, P13⟩, rfl, hE⟩
          · go_simp
            have hy : Ext V3 (V3.alloc (.cells #[.int .i64 0, .int .i64 0] 58)) := (Ext.refl V3).alloc _
            have hE' := hE.trans hy
            refine hK.out _ _ hE' (fun hHeld => ?_)
            clear hK K
            (try simp only [Act.put, Ord.a, Ord.b, Ord.c])
            replace R1 := Fxs.ext R1 hy
            replace R2 := Fxs.ext R2 hy
            have P13 : Box (V3.alloc (.cells #[.int .i64 0, .int .i64 0] 58)) V3.heap.size [.int .i64 0, .int .i64 0] := Box.new (vs := [.int .i64 0, .int .i64 0]) rfl
            have z13 := Ext.size hE
            have y13 : V3.heap.size < (V3.alloc (.cells #[.int .i64 0, .int .i64 0] 58)).heap.size := by simp
            replace hE := hE'
            clear hE' hy
            generalize V3.alloc (.cells #[.int .i64 0, .int .i64 0] 58) = V4 at *
            refine wpAnyH_ready (rs := [9]) (by kernel_rfl) (by simp) ?_
            refine (AllReadyH.cons rfl (fun K hK => ?_) AllReadyH.nil)
            go_simp
            go_at_call 30
            refine (KS.out HL1.out HK1.out _ _ _ R1 R2).mono ?_
            rintro e V5 ⟨rfl, hy⟩
            go_wp2_with fail
            have zy := Ext.size hy
            have hE' := hE.trans hy
            refine hK.out _ _ hE' (fun hHeld => ?_)
            clear hK K
            (try simp only [Act.put, Ord.a, Ord.b, Ord.c])
            replace R1 := Fxs.ext R1 hy
            replace R2 := Fxs.ext R2 hy
            replace P13 := P13.ext hy
            replace hE := hE'
            clear hE' hy
            refine Ord.K 10 30 ?_; refine Ord.K 11 41 ?_; refine Ord.K 12 42 ?_
            refine wpAnyH_ready (rs := [14]) (by kernel_rfl) (by simp) ?_
            refine (AllReadyH.cons rfl (fun K hK => ?_) AllReadyH.nil)
            obtain ⟨⟨r0, r1⟩, r2, r3⟩ := P13.two
            go_simp
            have hE' : Ext W0 ((V5.setCell ⟨V3.heap.size, 0, none⟩ (.int .i64 kk)).setCell ⟨V3.heap.size, 1, none⟩ (.int .i64 rr)) := ((hE.setNew (by first | omega | (simp; omega) | simp) _).setNew (by first | omega | (simp; omega) | simp) _)
            refine hK.out _ _ hE' (fun hHeld => ?_)
            clear hK K r0 r1 r2 r3
            (try simp only [Act.put, Ord.a, Ord.b, Ord.c])
            replace P13 := P13.set2 (u := .int .i64 kk) (v := .int .i64 rr)
            replace hE := hE'
            clear hE'
            generalize ((V5.setCell ⟨V3.heap.size, 0, none⟩ (.int .i64 kk)).setCell ⟨V3.heap.size, 1, none⟩ (.int .i64 rr)) = V6 at *
            refine Ord.K 15 15 ?_
            refine wpAnyH_done (by kernel_rfl) ?_ _
            go_wp2_with fail; go_meet; exact ⟨⟨_, rfl, P13⟩, rfl, hE⟩
        · go_simp
          have hy : Ext V2 (V2.alloc (.cells #[.int .i64 0, .int .i64 0] 58)) := (Ext.refl V2).alloc _
          have hE' := hE.trans hy
          refine hK.out _ _ hE' (fun hHeld => ?_)
          clear hK K
          (try simp only [Act.put, Ord.a, Ord.b, Ord.c])
          replace R1 := Fxs.ext R1 hy
          have P13 : Box (V2.alloc (.cells #[.int .i64 0, .int .i64 0] 58)) V2.heap.size [.int .i64 0, .int .i64 0] := Box.new (vs := [.int .i64 0, .int .i64 0]) rfl
          have z13 := Ext.size hE
          have y13 : V2.heap.size < (V2.alloc (.cells #[.int .i64 0, .int .i64 0] 58)).heap.size := by simp
          replace hE := hE'
          clear hE' hy
          generalize V2.alloc (.cells #[.int .i64 0, .int .i64 0] 58) = V3 at *
          refine wpAnyH_ready (rs := [5]) (by kernel_rfl) (by simp) ?_
          refine (AllReadyH.cons rfl (fun K hK => ?_) AllReadyH.nil)
          go_simp
          go_at_call 51
          refine (TU1.out _ (hX.trans hE)).mono ?_
          rintro e V4 ⟨B2, rfl, -, O2, hy⟩
          go_wp2_with fail
          have zy := Ext.size hy
          have hE' := hE.trans hy
          refine hK.out _ _ hE' (fun hHeld => ?_)
          clear hK K
          (try simp only [Act.put, Ord.a, Ord.b, Ord.c])
          replace R1 := Fxs.ext R1 hy
          replace P13 := P13.ext hy
          replace hE := hE'
          have R2 := O2.fxs HN1.out
          clear hE' hy
          refine wpAnyH_ready (rs := [9]) (by kernel_rfl) (by simp) ?_
          refine (AllReadyH.cons rfl (fun K hK => ?_) AllReadyH.nil)
          go_simp
          go_at_call 30
          refine (KS.out HL1.out HK1.out _ _ _ R1 R2).mono ?_
          rintro e V5 ⟨rfl, hy⟩
          go_wp2_with fail
          have zy := Ext.size hy
          have hE' := hE.trans hy
          refine hK.out _ _ hE' (fun hHeld => ?_)
          clear hK K
          (try simp only [Act.put, Ord.a, Ord.b, Ord.c])
          replace R1 := Fxs.ext R1 hy
          replace R2 := Fxs.ext R2 hy
          replace P13 := P13.ext hy
          replace hE := hE'
          clear hE' hy
          refine Ord.K 10 30 ?_; refine Ord.K 11 41 ?_; refine Ord.K 12 42 ?_
          refine wpAnyH_ready (rs := [14]) (by kernel_rfl) (by simp) ?_
          refine (AllReadyH.cons rfl (fun K hK => ?_) AllReadyH.nil)
          obtain ⟨⟨r0, r1⟩, r2, r3⟩ := P13.two
          go_simp
          have hE' : Ext W0 ((V5.setCell ⟨V2.heap.size, 0, none⟩ (.int .i64 kk)).setCell ⟨V2.heap.size, 1, none⟩ (.int .i64 rr)) := ((hE.setNew (by first | omega | (simp; omega) | simp) _).setNew (by first | omega | (simp; omega) | simp) _)
          refine hK.out _ _ hE' (fun hHeld => ?_)
          clear hK K r0 r1 r2 r3
          (try simp only [Act.put, Ord.a, Ord.b, Ord.c])
          replace P13 := P13.set2 (u := .int .i64 kk) (v := .int .i64 rr)
          replace hE := hE'
          clear hE'
          generalize ((V5.setCell ⟨V2.heap.size, 0, none⟩ (.int .i64 kk)).setCell ⟨V2.heap.size, 1, none⟩ (.int .i64 rr)) = V6 at *
          refine Ord.K 15 15 ?_
          refine wpAnyH_done (by kernel_rfl) ?_ _
          go_wp2_with fail; go_meet; exact ⟨⟨_, rfl, P13⟩, rfl, hE⟩
      · go_simp
        have hy : Ext V1 (V1.alloc (.cells #[.int .i64 0, .int .i64 0] 58)) := (Ext.refl V1).alloc _
        have hE' := hE.trans hy
        refine hK.out _ _ hE' (fun hHeld => ?_)
        clear hK K
        (try simp only [Act.put, Ord.a, Ord.b, Ord.c])
        have P13 : Box (V1.alloc (.cells #[.int .i64 0, .int .i64 0] 58)) V1.heap.size [.int .i64 0, .int .i64 0] := Box.new (vs := [.int .i64 0, .int .i64 0]) rfl
        have z13 := Ext.size hE
        have y13 : V1.heap.size < (V1.alloc (.cells #[.int .i64 0, .int .i64 0] 58)).heap.size := by simp
        replace hE := hE'
        clear hE' hy
        generalize V1.alloc (.cells #[.int .i64 0, .int .i64 0] 58) = V2 at *
        refine wpAnyH_ready (rs := [3]) (by kernel_rfl) (by simp) ?_
        refine (AllReadyH.cons rfl (fun K hK => ?_) AllReadyH.nil)
        go_simp
        go_at_call 51
        refine (TT1.out _ (hX.trans hE)).mono ?_
        rintro e V3 ⟨B1, rfl, -, O1, hy⟩
        go_wp2_with fail
        have zy := Ext.size hy
        have hE' := hE.trans hy
        refine hK.out _ _ hE' (fun hHeld => ?_)
        clear hK K
        (try simp only [Act.put, Ord.a, Ord.b, Ord.c])
        replace P13 := P13.ext hy
        replace hE := hE'
        have R1 := O1.fxs HM1.out
        clear hE' hy
        refine wpAnyH_ready (rs := [5]) (by kernel_rfl) (by simp) ?_
        refine (AllReadyH.cons rfl (fun K hK => ?_) AllReadyH.nil)
        go_simp
        go_at_call 51
        refine (TU1.out _ (hX.trans hE)).mono ?_
        rintro e V4 ⟨B2, rfl, -, O2, hy⟩
        go_wp2_with fail
        have zy := Ext.size hy
        have hE' := hE.trans hy
        refine hK.out _ _ hE' (fun hHeld => ?_)
        clear hK K
        (try simp only [Act.put, Ord.a, Ord.b, Ord.c])
        replace R1 := Fxs.ext R1 hy
        replace P13 := P13.ext hy
        replace hE := hE'
        have R2 := O2.fxs HN1.out
        clear hE' hy
        refine wpAnyH_ready (rs := [9]) (by kernel_rfl) (by simp) ?_
        refine (AllReadyH.cons rfl (fun K hK => ?_) AllReadyH.nil)
        go_simp
        go_at_call 30
        refine (KS.out HL1.out HK1.out _ _ _ R1 R2).mono ?_
        rintro e V5 ⟨rfl, hy⟩
        go_wp2_with fail
        have zy := Ext.size hy
        have hE' := hE.trans hy
        refine hK.out _ _ hE' (fun hHeld => ?_)
        clear hK K
        (try simp only [Act.put, Ord.a, Ord.b, Ord.c])
        replace R1 := Fxs.ext R1 hy
        replace R2 := Fxs.ext R2 hy
        replace P13 := P13.ext hy
        replace hE := hE'
        clear hE' hy
        refine Ord.K 10 30 ?_; refine Ord.K 11 41 ?_; refine Ord.K 12 42 ?_
        refine wpAnyH_ready (rs := [14]) (by kernel_rfl) (by simp) ?_
        refine (AllReadyH.cons rfl (fun K hK => ?_) AllReadyH.nil)
        obtain ⟨⟨r0, r1⟩, r2, r3⟩ := P13.two
        go_simp
        have hE' : Ext W0 ((V5.setCell ⟨V1.heap.size, 0, none⟩ (.int .i64 kk)).setCell ⟨V1.heap.size, 1, none⟩ (.int .i64 rr)) := ((hE.setNew (by first | omega | (simp; omega) | simp) _).setNew (by first | omega | (simp; omega) | simp) _)
        refine hK.out _ _ hE' (fun hHeld => ?_)
        clear hK K r0 r1 r2 r3
        (try simp only [Act.put, Ord.a, Ord.b, Ord.c])
        replace P13 := P13.set2 (u := .int .i64 kk) (v := .int .i64 rr)
        replace hE := hE'
        clear hE'
        generalize ((V5.setCell ⟨V1.heap.size, 0, none⟩ (.int .i64 kk)).setCell ⟨V1.heap.size, 1, none⟩ (.int .i64 rr)) = V6 at *
        refine Ord.K 15 15 ?_
        refine wpAnyH_done (by kernel_rfl) ?_ _
        go_wp2_with fail; go_meet; exact ⟨⟨_, rfl, P13⟩, rfl, hE⟩
    · go_simp
      have hy : Ext V0 (V0.alloc (.cells #[.int .i64 0, .int .i64 0] 58)) := (Ext.refl V0).alloc _
      have hE' := hE.trans hy
      refine hK.out _ _ hE' (fun hHeld => ?_)
      clear hK K
      (try simp only [Act.put, Ord.a, Ord.b, Ord.c])
      have P13 : Box (V0.alloc (.cells #[.int .i64 0, .int .i64 0] 58)) V0.heap.size [.int .i64 0, .int .i64 0] := Box.new (vs := [.int .i64 0, .int .i64 0]) rfl
      have z13 := Ext.size hE
      have y13 : V0.heap.size < (V0.alloc (.cells #[.int .i64 0, .int .i64 0] 58)).heap.size := by simp
      replace hE := hE'
      clear hE' hy
      generalize V0.alloc (.cells #[.int .i64 0, .int .i64 0] 58) = V1 at *
      refine wpAnyH_ready (rs := [1]) (by kernel_rfl) (by simp) ?_
      refine (AllReadyH.cons rfl (fun K hK => ?_) AllReadyH.nil)
      go_simp
      go_at_call 50
      refine (toWind_any x y _).mono ?_
      rintro e V2 ⟨rfl, hy⟩
      go_wp2_with fail
      have zy := Ext.size hy
      have hE' := hE.trans hy
      refine hK.out _ _ hE' (fun hHeld => ?_)
      clear hK K
      (try simp only [Act.put, Ord.a, Ord.b, Ord.c])
      replace P13 := P13.ext hy
      replace hE := hE'
      clear hE' hy
      refine wpAnyH_ready (rs := [3]) (by kernel_rfl) (by simp) ?_
      refine (AllReadyH.cons rfl (fun K hK => ?_) AllReadyH.nil)
      go_simp
      go_at_call 51
      refine (TT1.out _ (hX.trans hE)).mono ?_
      rintro e V3 ⟨B1, rfl, -, O1, hy⟩
      go_wp2_with fail
      have zy := Ext.size hy
      have hE' := hE.trans hy
      refine hK.out _ _ hE' (fun hHeld => ?_)
      clear hK K
      (try simp only [Act.put, Ord.a, Ord.b, Ord.c])
      replace P13 := P13.ext hy
      replace hE := hE'
      have R1 := O1.fxs HM1.out
      clear hE' hy
      refine wpAnyH_ready (rs := [5]) (by kernel_rfl) (by simp) ?_
      refine (AllReadyH.cons rfl (fun K hK => ?_) AllReadyH.nil)
      go_simp
      go_at_call 51
      refine (TU1.out _ (hX.trans hE)).mono ?_
      rintro e V4 ⟨B2, rfl, -, O2, hy⟩
      go_wp2_with fail
      have zy := Ext.size hy
      have hE' := hE.trans hy
      refine hK.out _ _ hE' (fun hHeld => ?_)
      clear hK K
      (try simp only [Act.put, Ord.a, Ord.b, Ord.c])
      replace R1 := Fxs.ext R1 hy
      replace P13 := P13.ext hy
      replace hE := hE'
      have R2 := O2.fxs HN1.out
      clear hE' hy
      refine wpAnyH_ready (rs := [9]) (by kernel_rfl) (by simp) ?_
      refine (AllReadyH.cons rfl (fun K hK => ?_) AllReadyH.nil)
      go_simp
      go_at_call 30
      refine (KS.out HL1.out HK1.out _ _ _ R1 R2).mono ?_
      rintro e V5 ⟨rfl, hy⟩
      go_wp2_with fail
      have zy := Ext.size hy
      have hE' := hE.trans hy
      refine hK.out _ _ hE' (fun hHeld => ?_)
      clear hK K
      (try simp only [Act.put, Ord.a, Ord.b, Ord.c])
      replace R1 := Fxs.ext R1 hy
      replace R2 := Fxs.ext R2 hy
      replace P13 := P13.ext hy
      replace hE := hE'
      clear hE' hy
      refine Ord.K 10 30 ?_; refine Ord.K 11 41 ?_; refine Ord.K 12 42 ?_
      refine wpAnyH_ready (rs := [14]) (by kernel_rfl) (by simp) ?_
      refine (AllReadyH.cons rfl (fun K hK => ?_) AllReadyH.nil)
      obtain ⟨⟨r0, r1⟩, r2, r3⟩ := P13.two
      go_simp
      have hE' : Ext W0 ((V5.setCell ⟨V0.heap.size, 0, none⟩ (.int .i64 kk)).setCell ⟨V0.heap.size, 1, none⟩ (.int .i64 rr)) := ((hE.setNew (by first | omega | (simp; omega) | simp) _).setNew (by first | omega | (simp; omega) | simp) _)
      refine hK.out _ _ hE' (fun hHeld => ?_)
      clear hK K r0 r1 r2 r3
      (try simp only [Act.put, Ord.a, Ord.b, Ord.c])
      replace P13 := P13.set2 (u := .int .i64 kk) (v := .int .i64 rr)
      replace hE := hE'
      clear hE'
      generalize ((V5.setCell ⟨V0.heap.size, 0, none⟩ (.int .i64 kk)).setCell ⟨V0.heap.size, 1, none⟩ (.int .i64 rr)) = V6 at *
      refine Ord.K 15 15 ?_
      refine wpAnyH_done (by kernel_rfl) ?_ _
      go_wp2_with fail; go_meet; exact ⟨⟨_, rfl, P13⟩, rfl, hE⟩
  case rest =>
    obtain ⟨⟨BX, rfl, Q1⟩, rfl, X⟩ := hcut
    rename World => z2
    have HQ1 := Lib.hid Q1
    replace X := Lib.hid X
    clear Q1 hz
    have t10 := e10 z2 X.out
    go_wp2_with fail
    refine (toTrack_any a cap fs _ (HF1.out.ext (hX.trans X.out)) HL1.out).mono ?_
    rintro e y1 ⟨C1, rfl, hC1, P1, hy⟩
    generalize hYA : y1.alloc (.cells #[.slice (some ⟨C1, 0, none⟩) fs.length fs.length] 33) = YA
    have hyV : Ext y1 YA := hYA ▸ (Ext.refl _).alloc _
    replace P1 := Lib.hid (P1.ext hyV)
    replace HQ1 := Lib.hid (HQ1.out.ext (hy.trans hyV))
    have EX := Lib.hid (X.out.trans (hy.trans hyV))
    have b1 : ∀ w', Ext YA w' → w'.cell? ⟨y1.heap.size, 0, none⟩ = some (.slice (some ⟨C1, 0, none⟩) fs.length fs.length) := fun w' h => h.cellOf (hYA ▸ boxed 0 rfl rfl)
    clear hy hyV t10 X
    go_upto_region 10 with fail
    try rw [hYA]
    clear hYA
    generalize y1.heap.size = n1 at *
    have t20 := e20 YA EX.out
    go_wp2_with fail
    refine (toTrack_any b cap' gs _ (HG1.out.ext (hX.trans EX.out)) HK1.out).mono ?_
    rintro e y2 ⟨C2, rfl, hC2, P2, hy⟩
    generalize hYB : y2.alloc (.cells #[.slice (some ⟨C2, 0, none⟩) gs.length gs.length] 33) = YB
    have hyV : Ext YA YB := hYB ▸ hy.alloc _
    have hyW : Ext y2 YB := hYB ▸ (Ext.refl _).alloc _
    replace P2 := Lib.hid (P2.ext hyW)
    replace P1 := Lib.hid (P1.out.ext hyV)
    replace HQ1 := Lib.hid (HQ1.out.ext hyV)
    replace EX := Lib.hid (EX.out.trans hyV)
    replace b1 : ∀ w', Ext YB w' → w'.cell? ⟨n1, 0, none⟩ = some (.slice (some ⟨C1, 0, none⟩) fs.length fs.length) := fun w' h => b1 w' (hyV.trans h)
    have b2 : ∀ w', Ext YB w' → w'.cell? ⟨y2.heap.size, 0, none⟩ = some (.slice (some ⟨C2, 0, none⟩) gs.length gs.length) := fun w' h => h.cellOf (hYB ▸ boxed 0 rfl rfl)
    have f00 : ∀ w', Ext YB w' → w'.cell? ⟨w.heap.size, 0, none⟩ = some (.int .i64 x) := fun w' h => e00 w' (EX.out.trans h)
    have f01 : ∀ w', Ext YB w' → w'.cell? ⟨w.heap.size, 1, none⟩ = some (.int .i64 y) := fun w' h => e01 w' (EX.out.trans h)
    have f10 : ∀ w', Ext YB w' → w'.cell? ⟨w.heap.size + 1, 0, none⟩ = some (.slice a fs.length cap) := fun w' h => e10 w' (EX.out.trans h)
    have f20 : ∀ w', Ext YB w' → w'.cell? ⟨w.heap.size + 1 + 1, 0, none⟩ = some (.slice b gs.length cap') := fun w' h => e20 w' (EX.out.trans h)
    clear hy hyV hyW t20 e00 e01 e10 e20
    go_upto_region 11 with fail
    try rw [hYB]
    clear hYB
    generalize y2.heap.size = n2 at *
    go_cut [18, 19] (fun s1 s2 wx => (∃ B, s1 = .pointer (some ⟨B, 0, none⟩) ∧ Box wx B [.int .i64 kk, .int .i64 rr]) ∧ s2 = .int .i64 cc ∧ Ext YB wx)
    case first =>
      refine wp_region_held_drew (S := fun w' => Ext YB w') (by kernel_rfl) (by (try dsimp only); exact Ext.drew (Ext.refl YB)) (fun hHeld => ?_)
      have hE : Ext YB YB.drew := Ext.drew (Ext.refl YB)
      obtain ⟨V0, hV0⟩ : ∃ V0, V0 = YB.drew := ⟨_, rfl⟩
      rw [← hV0] at hE hHeld ⊢
      clear hV0
      refine Ord.K 0 48 ?_; refine Ord.K 2 50 ?_; refine Ord.K 3 51 ?_; refine Ord.K 4 52 ?_; refine Ord.K 5 53 ?_; refine Ord.K 6 54 ?_
      refine wpAnyH_ready (rs := [1, 11]) (by kernel_rfl) (by simp) ?_
      refine (AllReadyH.cons rfl (fun K hK => ?_) (AllReadyH.cons rfl (fun K hK => ?_) AllReadyH.nil))
      · go_simp
        go_at_call 50
        refine (toWind_any x y _).mono ?_
        rintro e V1 ⟨rfl, hy⟩
        go_wp2_with fail
        have zy := Ext.size hy
        have hE' := hE.trans hy
        refine hK.out _ _ hE' (fun hHeld => ?_)
        clear hK K
        (try simp only [Act.put, Ord.a, Ord.b, Ord.c])
        replace hE := hE'
        clear hE' hy
        refine wpAnyH_ready (rs := [7, 11]) (by kernel_rfl) (by simp) ?_
        refine (AllReadyH.cons rfl (fun K hK => ?_) (AllReadyH.cons rfl (fun K hK => ?_) AllReadyH.nil))
        · go_simp
          go_at_call 29
          refine (KI.out HL1.out HK1.out _ _ _ ((P1.out.ext hE).fxs HM1.out) ((P2.out.ext hE).fxs HN1.out)).mono ?_
          rintro e V2 ⟨rfl, hy⟩
          go_wp2_with fail
          have zy := Ext.size hy
          have hE' := hE.trans hy
          refine hK.out _ _ hE' (fun hHeld => ?_)
          clear hK K
          (try simp only [Act.put, Ord.a, Ord.b, Ord.c])
          replace hE := hE'
          clear hE' hy
          refine Ord.K 8 47 ?_; refine Ord.K 9 56 ?_; refine Ord.K 10 57 ?_
          refine wpAnyH_ready (rs := [11]) (by kernel_rfl) (by simp) ?_
          refine (AllReadyH.cons rfl (fun K hK => ?_) AllReadyH.nil)
          go_simp
          have hy : Ext V2 (V2.alloc (.cells #[.int .i64 0, .int .i64 0] 58)) := (Ext.refl V2).alloc _
          have hE' := hE.trans hy
          refine hK.out _ _ hE' (fun hHeld => ?_)
          clear hK K
          (try simp only [Act.put, Ord.a, Ord.b, Ord.c])
          have P11 : Box (V2.alloc (.cells #[.int .i64 0, .int .i64 0] 58)) V2.heap.size [.int .i64 0, .int .i64 0] := Box.new (vs := [.int .i64 0, .int .i64 0]) rfl
          have z11 := Ext.size hE
          have y11 : V2.heap.size < (V2.alloc (.cells #[.int .i64 0, .int .i64 0] 58)).heap.size := by simp
          replace hE := hE'
          clear hE' hy
          generalize V2.alloc (.cells #[.int .i64 0, .int .i64 0] 58) = V3 at *
          refine wpAnyH_ready (rs := [12]) (by kernel_rfl) (by simp) ?_
          refine (AllReadyH.cons rfl (fun K hK => ?_) AllReadyH.nil)
          obtain ⟨⟨r0, r1⟩, r2, r3⟩ := P11.two
          go_simp
          have hE' : Ext YB ((V3.setCell ⟨V2.heap.size, 0, none⟩ (.int .i64 kk)).setCell ⟨V2.heap.size, 1, none⟩ (.int .i64 rr)) := ((hE.setNew (by first | omega | (simp; omega) | simp) _).setNew (by first | omega | (simp; omega) | simp) _)
          refine hK.out _ _ hE' (fun hHeld => ?_)
          clear hK K r0 r1 r2 r3
          (try simp only [Act.put, Ord.a, Ord.b, Ord.c])
          replace P11 := P11.set2 (u := .int .i64 kk) (v := .int .i64 rr)
          replace hE := hE'
          clear hE'
          generalize ((V3.setCell ⟨V2.heap.size, 0, none⟩ (.int .i64 kk)).setCell ⟨V2.heap.size, 1, none⟩ (.int .i64 rr)) = V4 at *
          refine Ord.K 13 19 ?_
          refine wpAnyH_done (by kernel_rfl) ?_ _
          go_wp2_with fail; go_meet; exact ⟨⟨_, rfl, P11⟩, rfl, hE⟩
        · go_simp
          have hy : Ext V1 (V1.alloc (.cells #[.int .i64 0, .int .i64 0] 58)) := (Ext.refl V1).alloc _
          have hE' := hE.trans hy
          refine hK.out _ _ hE' (fun hHeld => ?_)
          clear hK K
          (try simp only [Act.put, Ord.a, Ord.b, Ord.c])
          have P11 : Box (V1.alloc (.cells #[.int .i64 0, .int .i64 0] 58)) V1.heap.size [.int .i64 0, .int .i64 0] := Box.new (vs := [.int .i64 0, .int .i64 0]) rfl
          have z11 := Ext.size hE
          have y11 : V1.heap.size < (V1.alloc (.cells #[.int .i64 0, .int .i64 0] 58)).heap.size := by simp
          replace hE := hE'
          clear hE' hy
          generalize V1.alloc (.cells #[.int .i64 0, .int .i64 0] 58) = V2 at *
          refine wpAnyH_ready (rs := [7]) (by kernel_rfl) (by simp) ?_
          refine (AllReadyH.cons rfl (fun K hK => ?_) AllReadyH.nil)
          go_simp
          go_at_call 29
          refine (KI.out HL1.out HK1.out _ _ _ ((P1.out.ext hE).fxs HM1.out) ((P2.out.ext hE).fxs HN1.out)).mono ?_
          rintro e V3 ⟨rfl, hy⟩
          go_wp2_with fail
          have zy := Ext.size hy
          have hE' := hE.trans hy
          refine hK.out _ _ hE' (fun hHeld => ?_)
          clear hK K
          (try simp only [Act.put, Ord.a, Ord.b, Ord.c])
          replace P11 := P11.ext hy
          replace hE := hE'
          clear hE' hy
          refine Ord.K 8 47 ?_; refine Ord.K 9 56 ?_; refine Ord.K 10 57 ?_
          refine wpAnyH_ready (rs := [12]) (by kernel_rfl) (by simp) ?_
          refine (AllReadyH.cons rfl (fun K hK => ?_) AllReadyH.nil)
          obtain ⟨⟨r0, r1⟩, r2, r3⟩ := P11.two
          go_simp
          have hE' : Ext YB ((V3.setCell ⟨V1.heap.size, 0, none⟩ (.int .i64 kk)).setCell ⟨V1.heap.size, 1, none⟩ (.int .i64 rr)) := ((hE.setNew (by first | omega | (simp; omega) | simp) _).setNew (by first | omega | (simp; omega) | simp) _)
          refine hK.out _ _ hE' (fun hHeld => ?_)
          clear hK K r0 r1 r2 r3
          (try simp only [Act.put, Ord.a, Ord.b, Ord.c])
          replace P11 := P11.set2 (u := .int .i64 kk) (v := .int .i64 rr)
          replace hE := hE'
          clear hE'
          generalize ((V3.setCell ⟨V1.heap.size, 0, none⟩ (.int .i64 kk)).setCell ⟨V1.heap.size, 1, none⟩ (.int .i64 rr)) = V4 at *
          refine Ord.K 13 19 ?_
          refine wpAnyH_done (by kernel_rfl) ?_ _
          go_wp2_with fail; go_meet; exact ⟨⟨_, rfl, P11⟩, rfl, hE⟩
      · go_simp
        have hy : Ext V0 (V0.alloc (.cells #[.int .i64 0, .int .i64 0] 58)) := (Ext.refl V0).alloc _
        have hE' := hE.trans hy
        refine hK.out _ _ hE' (fun hHeld => ?_)
        clear hK K
        (try simp only [Act.put, Ord.a, Ord.b, Ord.c])
        have P11 : Box (V0.alloc (.cells #[.int .i64 0, .int .i64 0] 58)) V0.heap.size [.int .i64 0, .int .i64 0] := Box.new (vs := [.int .i64 0, .int .i64 0]) rfl
        have z11 := Ext.size hE
        have y11 : V0.heap.size < (V0.alloc (.cells #[.int .i64 0, .int .i64 0] 58)).heap.size := by simp
        replace hE := hE'
        clear hE' hy
        generalize V0.alloc (.cells #[.int .i64 0, .int .i64 0] 58) = V1 at *
        refine wpAnyH_ready (rs := [1]) (by kernel_rfl) (by simp) ?_
        refine (AllReadyH.cons rfl (fun K hK => ?_) AllReadyH.nil)
        go_simp
        go_at_call 50
        refine (toWind_any x y _).mono ?_
        rintro e V2 ⟨rfl, hy⟩
        go_wp2_with fail
        have zy := Ext.size hy
        have hE' := hE.trans hy
        refine hK.out _ _ hE' (fun hHeld => ?_)
        clear hK K
        (try simp only [Act.put, Ord.a, Ord.b, Ord.c])
        replace P11 := P11.ext hy
        replace hE := hE'
        clear hE' hy
        refine wpAnyH_ready (rs := [7]) (by kernel_rfl) (by simp) ?_
        refine (AllReadyH.cons rfl (fun K hK => ?_) AllReadyH.nil)
        go_simp
        go_at_call 29
        refine (KI.out HL1.out HK1.out _ _ _ ((P1.out.ext hE).fxs HM1.out) ((P2.out.ext hE).fxs HN1.out)).mono ?_
        rintro e V3 ⟨rfl, hy⟩
        go_wp2_with fail
        have zy := Ext.size hy
        have hE' := hE.trans hy
        refine hK.out _ _ hE' (fun hHeld => ?_)
        clear hK K
        (try simp only [Act.put, Ord.a, Ord.b, Ord.c])
        replace P11 := P11.ext hy
        replace hE := hE'
        clear hE' hy
        refine Ord.K 8 47 ?_; refine Ord.K 9 56 ?_; refine Ord.K 10 57 ?_
        refine wpAnyH_ready (rs := [12]) (by kernel_rfl) (by simp) ?_
        refine (AllReadyH.cons rfl (fun K hK => ?_) AllReadyH.nil)
        obtain ⟨⟨r0, r1⟩, r2, r3⟩ := P11.two
        go_simp
        have hE' : Ext YB ((V3.setCell ⟨V0.heap.size, 0, none⟩ (.int .i64 kk)).setCell ⟨V0.heap.size, 1, none⟩ (.int .i64 rr)) := ((hE.setNew (by first | omega | (simp; omega) | simp) _).setNew (by first | omega | (simp; omega) | simp) _)
        refine hK.out _ _ hE' (fun hHeld => ?_)
        clear hK K r0 r1 r2 r3
        (try simp only [Act.put, Ord.a, Ord.b, Ord.c])
        replace P11 := P11.set2 (u := .int .i64 kk) (v := .int .i64 rr)
        replace hE := hE'
        clear hE'
        generalize ((V3.setCell ⟨V0.heap.size, 0, none⟩ (.int .i64 kk)).setCell ⟨V0.heap.size, 1, none⟩ (.int .i64 rr)) = V4 at *
        refine Ord.K 13 19 ?_
        refine wpAnyH_done (by kernel_rfl) ?_ _
        go_wp2_with fail; go_meet; exact ⟨⟨_, rfl, P11⟩, rfl, hE⟩
    case rest =>
      obtain ⟨⟨B2, rfl, Q2⟩, rfl, X2⟩ := hcut
      rename World => w2
      have Q1 := HQ1.out.ext X2
      obtain ⟨⟨c0, c1⟩, _⟩ := Q1.two
      obtain ⟨⟨d0, d1⟩, _⟩ := Q2.two
      clear Q1 Q2 HQ1
      go_wp2_with fail
      refine (eqRuling_same _ _ _).mono ?_
      rintro e z3 ⟨rfl, hy⟩
      have X3 := X2.trans hy
      replace P1 := Lib.hid (P1.out.ext X3)
      replace P2 := Lib.hid (P2.out.ext X3)
      replace EX := Lib.hid (EX.out.trans X3)
      replace b1 : ∀ w', Ext z3 w' → w'.cell? ⟨n1, 0, none⟩ = some (.slice (some ⟨C1, 0, none⟩) fs.length fs.length) := fun w' h => b1 w' (X3.trans h)
      replace b2 : ∀ w', Ext z3 w' → w'.cell? ⟨n2, 0, none⟩ = some (.slice (some ⟨C2, 0, none⟩) gs.length gs.length) := fun w' h => b2 w' (X3.trans h)
      replace f10 : ∀ w', Ext z3 w' → w'.cell? ⟨w.heap.size + 1, 0, none⟩ = some (.slice a fs.length cap) := fun w' h => f10 w' (X3.trans h)
      replace f20 : ∀ w', Ext z3 w' → w'.cell? ⟨w.heap.size + 1 + 1, 0, none⟩ = some (.slice b gs.length cap') := fun w' h => f20 w' (X3.trans h)
      clear hy X3 X2 f00 f01 c0 c1 d0 d1
      have hz3 := Ext.refl z3
      go_upto_region 14 with fail
      refine wp_region_held_drew (S := (fun w' => Ext z3 w')) (by kernel_rfl) (by (try dsimp only); first | go_keep | exact (Ext.refl _).drew | exact Res.new2.drew | exact Res.new4.drew | exact ResB.drew (by assumption) | exact ResC.drew (by assumption) | assumption | exact Ext.drew (by assumption) | exact Res.drew (by assumption)) (fun hHeld => ?_)
      refine Ord.K 0 67 ?_
      refine Ord.K 1 68 ?_
      (refine wpAnyH_ready (rs := [2]) (by kernel_rfl) (by simp) ?_; refine AllReadyH.cons rfl (fun K hK => ?_) AllReadyH.nil; go_simp; (first | (go_at_call 51; refine (toTrack_any a cap fs _ (HF1.out.ext (hX.trans (EX.out.trans (by first | assumption | exact (Ext.refl _).drew)))) HL1.out).mono ?_; rintro e w1 ⟨B1, rfl, -, Q1, hy⟩) | (go_at_call 53; refine (eqTrack_same _ _ _ _ _ _ ((P1.out.ext (by assumption)).fxs HM1.out) (Q1.fxs HM1.out)).mono ?_; rintro e z5 ⟨rfl, hy⟩)); go_wp2_with fail; (refine hK.out _ _ (by first | assumption | exact Ext.trans (by assumption) hy | exact Res.ext (by assumption) hy | exact ResB.ext (by assumption) hy | exact ResC.ext (by assumption) hy | (go_split_ands; (repeat' apply And.intro) <;> exact Ext.cellOf hy (by assumption))) (fun hHeld => ?_)); clear hK K; (try simp only [Act.put, Ord.a, Ord.b, Ord.c]))
      (refine wpAnyH_ready (rs := [3]) (by kernel_rfl) (by simp) ?_; refine AllReadyH.cons rfl (fun K hK => ?_) AllReadyH.nil; go_simp; (first | (go_at_call 51; refine (toTrack_any a cap fs _ (HF1.out.ext (hX.trans (EX.out.trans (by first | assumption | exact (Ext.refl _).drew)))) HL1.out).mono ?_; rintro e w1 ⟨B1, rfl, -, Q1, hy⟩) | (go_at_call 53; refine (eqTrack_same _ _ _ _ _ _ ((P1.out.ext (by assumption)).fxs HM1.out) (Q1.fxs HM1.out)).mono ?_; rintro e z5 ⟨rfl, hy⟩)); go_wp2_with fail; (refine hK.out _ _ (by first | assumption | exact Ext.trans (by assumption) hy | exact Res.ext (by assumption) hy | exact ResB.ext (by assumption) hy | exact ResC.ext (by assumption) hy | (go_split_ands; (repeat' apply And.intro) <;> exact Ext.cellOf hy (by assumption))) (fun hHeld => ?_)); clear hK K; (try simp only [Act.put, Ord.a, Ord.b, Ord.c]))
      refine Ord.K 4 71 ?_
      refine wpAnyH_done (by kernel_rfl) ?_ _
      have X5 : Ext z3 z5 := hHeld
      clear hHeld hy hz3 Q1
      replace P2 := Lib.hid (P2.out.ext X5)
      replace EX := Lib.hid (EX.out.trans X5)
      replace b2 : ∀ w', Ext z5 w' → w'.cell? ⟨n2, 0, none⟩ = some (.slice (some ⟨C2, 0, none⟩) gs.length gs.length) := fun w' h => b2 w' (X5.trans h)
      replace f20 : ∀ w', Ext z5 w' → w'.cell? ⟨w.heap.size + 1 + 1, 0, none⟩ = some (.slice b gs.length cap') := fun w' h => f20 w' (X5.trans h)
      clear b1 f10 X5
      have hz5 := Ext.refl z5
      go_upto_region 16 with fail
      refine wp_region_held_drew (S := (fun w' => Ext z5 w')) (by kernel_rfl) (by (try dsimp only); first | go_keep | exact (Ext.refl _).drew | exact Res.new2.drew | exact Res.new4.drew | exact ResB.drew (by assumption) | exact ResC.drew (by assumption) | assumption | exact Ext.drew (by assumption) | exact Res.drew (by assumption)) (fun hHeld => ?_)
      refine Ord.K 0 72 ?_
      refine Ord.K 1 73 ?_
      (refine wpAnyH_ready (rs := [2]) (by kernel_rfl) (by simp) ?_; refine AllReadyH.cons rfl (fun K hK => ?_) AllReadyH.nil; go_simp; (first | (go_at_call 51; refine (toTrack_any b cap' gs _ (HG1.out.ext (hX.trans (EX.out.trans (by first | assumption | exact (Ext.refl _).drew)))) HK1.out).mono ?_; rintro e w1 ⟨B1, rfl, -, Q1, hy⟩) | (go_at_call 53; refine (eqTrack_same _ _ _ _ _ _ ((P2.out.ext (by assumption)).fxs HN1.out) (Q1.fxs HN1.out)).mono ?_; rintro e z6 ⟨rfl, hy⟩)); go_wp2_with fail; (refine hK.out _ _ (by first | assumption | exact Ext.trans (by assumption) hy | exact Res.ext (by assumption) hy | exact ResB.ext (by assumption) hy | exact ResC.ext (by assumption) hy | (go_split_ands; (repeat' apply And.intro) <;> exact Ext.cellOf hy (by assumption))) (fun hHeld => ?_)); clear hK K; (try simp only [Act.put, Ord.a, Ord.b, Ord.c]))
      (refine wpAnyH_ready (rs := [3]) (by kernel_rfl) (by simp) ?_; refine AllReadyH.cons rfl (fun K hK => ?_) AllReadyH.nil; go_simp; (first | (go_at_call 51; refine (toTrack_any b cap' gs _ (HG1.out.ext (hX.trans (EX.out.trans (by first | assumption | exact (Ext.refl _).drew)))) HK1.out).mono ?_; rintro e w1 ⟨B1, rfl, -, Q1, hy⟩) | (go_at_call 53; refine (eqTrack_same _ _ _ _ _ _ ((P2.out.ext (by assumption)).fxs HN1.out) (Q1.fxs HN1.out)).mono ?_; rintro e z6 ⟨rfl, hy⟩)); go_wp2_with fail; (refine hK.out _ _ (by first | assumption | exact Ext.trans (by assumption) hy | exact Res.ext (by assumption) hy | exact ResB.ext (by assumption) hy | exact ResC.ext (by assumption) hy | (go_split_ands; (repeat' apply And.intro) <;> exact Ext.cellOf hy (by assumption))) (fun hHeld => ?_)); clear hK K; (try simp only [Act.put, Ord.a, Ord.b, Ord.c]))
      refine Ord.K 4 76 ?_
      refine wpAnyH_done (by kernel_rfl) ?_ _
      go_wp2
      go_ret
      exact ⟨rfl, hX.trans (EX.out.trans (by assumption))⟩
end Go.Proofs.YtmlojndkpnhalaaGreat.fnExactRuleAt
