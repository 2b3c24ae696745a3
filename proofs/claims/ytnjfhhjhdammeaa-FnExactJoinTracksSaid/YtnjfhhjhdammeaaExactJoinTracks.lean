/- FnExactJoinTracks: for all arguments, impl.JoinTracks and spec.JoinTracks answer the same, the tracks are as they were, and the answer has a row of its own. No condition. -/
import Derived.Test.YtnjfhhjhdammeaaJoin2
import Derived.Test.YtnjfhhjhdammeaaMko
import Derived.Test.YtnjfhhjhdammeaaOpnT
import Derived.Deep.DeepCutAuto
import Derived.ChangeOld
import Derived.Below
import Derived.Lib.SmallJoins
namespace Go.Proofs.Ytnjfhhjhdammeaa.fnExactJoinTracks
open Go.ChangeShapes Go.WideShapes Go.ChangeAt Go.RowKit
open Go.Proofs.Ytnjfhhjhdammeaa.Kit Go.Proofs.Ytnjfhhjhdammeaa.Pts Go.Proofs.Ytnjfhhjhdammeaa.Seg Go.Proofs.Ytnjfhhjhdammeaa.Trk
set_option linter.unusedVariables false
set_option linter.unusedSimpArgs false

set_option maxRecDepth 100000 in
set_option maxHeartbeats 8000000 in
theorem walk (a : Option Addr) (cap : Nat) (fs : List F3) (b : Option Addr) (cap' : Nat) (gs : List F3) (w : World) (hf : Fxs w a fs) (hg : Fxs w b gs) : Calls Try.prog 7 #[Tr (.slice a fs.length cap), Tr (.slice b gs.length cap')] w fun e w' => e = .returned (.bool true) ∧ Ext w w' := by
  have HF := Lib.hid hf
  have HG := Lib.hid hg
  have HM := Lib.hid (And.intro hf.1 hg.1)
  clear hf hg
  by_cases hl : (1048576 : Int) - fs.length < 0
  · have H := Lib.hid (szL_neg hl)
    go_enter Try.func7, Try.ntmps7
    go_wp2_with (go_at_call 24; refine (szTrack_any _ _ _ _ _ HM.out.1 (by decide) (by decide)).mono ?_; rw [H.out]; rintro e w1 ⟨rfl, h1⟩)
    go_ret
    exact ⟨rfl, (by repeat (first | exact Ext.refl _ | assumption | apply Ext.alloc | apply Ext.drew | (refine Ext.trans ?_ (by assumption)) | (refine Ext.setNew ?_ (by simp <;> omega) _)))⟩
  have H1 := Lib.hid (szL_pos hl)
  have hl1 : decide ((1048576 : Int) - fs.length < 0) = false := decide_eq_false hl
  by_cases hk : (1048576 : Int) - fs.length - gs.length < 0
  · have H := Lib.hid (szL_neg hk)
    go_enter Try.func7, Try.ntmps7
    go_wp2_with fail
    refine (szTrack_any _ _ _ _ _ HM.out.1 (by decide) (by decide)).mono ?_
    rw [H1.out]
    rintro e w1 ⟨rfl, h1⟩
    have bu : w1.cell? ⟨w.heap.size + 1, 0, none⟩ = some (.slice b gs.length cap') := h1.cellOf (boxed 0 rfl (by simp))
    go_wp2_with fail
    refine (szTrack_any _ _ _ _ _ HM.out.2 (by omega) (by omega)).mono ?_
    rw [H.out]
    rintro e w2 ⟨rfl, h2⟩
    go_wp2
    go_ret
    exact ⟨rfl, ((((Ext.refl w).alloc _).alloc _).trans h1).trans h2⟩
  · have H := Lib.hid (szL_pos hk)
    have hl2 : decide ((1048576 : Int) - fs.length - gs.length < 0) = false := decide_eq_false hk
    have HL := Lib.hid (show fs.length ≤ 1048576 ∧ gs.length ≤ 1048576 by omega)
    obtain ⟨rs, hrs⟩ : ∃ rs, rs = joF fs gs := ⟨_, rfl⟩
    obtain ⟨ck, hck⟩ : ∃ ck, ck = joC fs gs := ⟨_, rfl⟩
    have HR := Lib.hid (show rs.length ≤ 42 by rw [hrs]; exact Nat.le_trans (joF_len _ _) (by omega))
    have KS := Lib.hid (fun (a b : Option Addr) (cap cap' : Nat) (w : World) (hf : Fxs w a fs) (hg : Fxs w b gs) (hc : gs.length ≤ cap') => join_spec a b cap cap' fs gs w hf hg hc)
    have KI := Lib.hid (fun (a b : Option Addr) (cap cap' : Nat) (w : World) (hf : Fxs w a fs) (hg : Fxs w b gs) (hc : gs.length ≤ cap') => join_impl a b cap cap' fs gs w hf hg hc)
    rw [← hrs, ← hck] at KS KI
    clear hrs hck
    go_enter Try.func7, Try.ntmps7
    go_wp2_with fail
    refine (szTrack_any _ _ _ _ _ HM.out.1 (by decide) (by decide)).mono ?_
    rw [H1.out]
    rintro e w1 ⟨rfl, h1⟩
    have bt : w1.cell? ⟨w.heap.size, 0, none⟩ = some (.slice a fs.length cap) := h1.cellOf (((Ext.refl _).alloc _).cellOf (boxed 0 rfl rfl))
    have bu : w1.cell? ⟨w.heap.size + 1, 0, none⟩ = some (.slice b gs.length cap') := h1.cellOf (boxed 0 rfl (by simp))
    replace h1 := (((Ext.refl w).alloc _).alloc _).trans h1
    go_wp2_with fail
    refine (szTrack_any _ _ _ _ _ HM.out.2 (by omega) (by omega)).mono ?_
    rw [H.out]
    rintro e w2 ⟨rfl, h2⟩
    replace bt := h2.cellOf bt
    replace bu := h2.cellOf bu
    have X := Lib.hid (h1.trans h2)
    have zw := World.block_lt_of_cell? w2 _ bt
    have zu := World.block_lt_of_cell? w2 _ bu
    simp at zw zu
    clear h1 h2
    have e0 : ∀ w', Ext w2 w' → w'.cell? ⟨w.heap.size, 0, none⟩ = some (.slice a fs.length cap) := fun w' h => h.cellOf bt
    have e1 : ∀ w', Ext w2 w' → w'.cell? ⟨w.heap.size + 1, 0, none⟩ = some (.slice b gs.length cap') := fun w' h => h.cellOf bu
    go_upto_region 8 with fail
    go_cut [6, 7] (fun s t wx => (∃ (B : Nat) (a0 : Option Addr) (cap0 : Nat), s = .pointer (some ⟨B, 0, none⟩) ∧ wx.cell? ⟨B, 0, none⟩ = some (.slice a0 rs.length cap0) ∧ Fxs wx a0 rs ∧ w2.heap.size ≤ B) ∧ t = .int .i64 ck ∧ Ext w2 wx)
    case first =>
        refine wp_region_held_drew (S := fun w' => Ext w2 w') (by kernel_rfl) (by (try dsimp only); exact (Ext.refl _).drew) (fun hHeld => ?_)
        (refine Ord.takeH 0 28 (v := ?_) rfl rfl (by kernel_rfl) (by kernel_rfl) (by kernel_rfl) (fun _ _ _ h => h) (by rfl) ?_ (by assumption) ?_; rotate_left; (intro w hSw; (try dsimp only at hSw); go_simp; (first | done | with_reducible rfl)); (try simp only [Act.put, List.setIfInBounds_toArray, List.set_cons_zero, List.set_cons_succ])); (refine Ord.takeH 2 30 (v := ?_) rfl rfl (by kernel_rfl) (by kernel_rfl) (by kernel_rfl) (fun _ _ _ h => h) (by rfl) ?_ (by assumption) ?_; rotate_left; (intro w hSw; (try dsimp only at hSw); go_simp; (first | done | with_reducible rfl)); (try simp only [Act.put, List.setIfInBounds_toArray, List.set_cons_zero, List.set_cons_succ]))
        have hE : Ext w2 w2.drew := (Ext.refl w2).drew
        obtain ⟨V0, hV0⟩ : ∃ V0, V0 = w2.drew := ⟨_, rfl⟩
        rw [← hV0] at hE hHeld ⊢
        clear hV0 e0 e1
        refine wpAnyH_ready (rs := [1, 8]) (by kernel_rfl) (by simp) ?_
        refine (AllReadyH.cons rfl (fun K hK => ?_) (AllReadyH.cons rfl (fun K hK => ?_) AllReadyH.nil))
        · go_simp
          go_at_call 25
          refine (toTrack_any _ _ _ _ (HF.out.ext (X.out.trans hE)) HL.out.1).mono ?_
          rintro e V1 ⟨B1, rfl, -, O1, hy⟩
          go_wp2_with fail
          have zy := Ext.size hy
          have hE' := hE.trans hy
          refine hK.out _ _ hE' (fun hHeld => ?_)
          clear hK K
          (try simp only [Act.put, List.setIfInBounds_toArray, List.set_cons_zero, List.set_cons_succ])
          replace O1 := Lib.hid O1
          replace hE := hE'
          clear hE' hy
          refine wpAnyH_ready (rs := [3, 8]) (by kernel_rfl) (by simp) ?_
          refine (AllReadyH.cons rfl (fun K hK => ?_) (AllReadyH.cons rfl (fun K hK => ?_) AllReadyH.nil))
          · go_simp
            go_at_call 25
            refine (toTrack_any _ _ _ _ (HG.out.ext (X.out.trans hE)) HL.out.2).mono ?_
            rintro e V2 ⟨B2, rfl, -, O2, hy⟩
            go_wp2_with fail
            have zy := Ext.size hy
            have hE' := hE.trans hy
            refine hK.out _ _ hE' (fun hHeld => ?_)
            clear hK K
            (try simp only [Act.put, List.setIfInBounds_toArray, List.set_cons_zero, List.set_cons_succ])
            replace O2 := Lib.hid O2
            replace O1 := Lib.hid (O1.out.ext hy)
            replace hE := hE'
            clear hE' hy
            refine wpAnyH_ready (rs := [4, 8]) (by kernel_rfl) (by simp) ?_
            refine (AllReadyH.cons rfl (fun K hK => ?_) (AllReadyH.cons rfl (fun K hK => ?_) AllReadyH.nil))
            · go_simp
              go_at_call 29
              refine (KS.out _ _ _ _ _ (O1.out.fxs HM.out.1) (O2.out.fxs HM.out.2) (Nat.le_refl _)).mono ?_
              rintro e V3 ⟨v0, rfl, OV, hy⟩
              obtain ⟨a0, cap0, rfl, -, -, -⟩ := OV.fxs
              replace OV := Lib.hid OV
              go_wp2_with fail
              have zy := Ext.size hy
              have hE' := hE.trans hy
              refine hK.out _ _ hE' (fun hHeld => ?_)
              clear hK K
              (try simp only [Act.put, List.setIfInBounds_toArray, List.set_cons_zero, List.set_cons_succ])
              replace hE := hE'
              clear hE' hy
              (refine Ord.takeH 5 27 (v := ?_) rfl rfl (by kernel_rfl) (by kernel_rfl) (by kernel_rfl) (fun _ _ _ h => h) (by rfl) ?_ (by assumption) ?_; rotate_left; (intro w hSw; (try dsimp only at hSw); go_simp; (first | done | with_reducible rfl)); (try simp only [Act.put, List.setIfInBounds_toArray, List.set_cons_zero, List.set_cons_succ])); (refine Ord.takeH 6 33 (v := ?_) rfl rfl (by kernel_rfl) (by kernel_rfl) (by kernel_rfl) (fun _ _ _ h => h) (by rfl) ?_ (by assumption) ?_; rotate_left; (intro w hSw; (try dsimp only at hSw); go_simp; (first | done | with_reducible rfl)); (try simp only [Act.put, List.setIfInBounds_toArray, List.set_cons_zero, List.set_cons_succ])); (refine Ord.takeH 7 34 (v := ?_) rfl rfl (by kernel_rfl) (by kernel_rfl) (by kernel_rfl) (fun _ _ _ h => h) (by rfl) ?_ (by assumption) ?_; rotate_left; (intro w hSw; (try dsimp only at hSw); go_simp; (first | done | with_reducible rfl)); (try simp only [Act.put, List.setIfInBounds_toArray, List.set_cons_zero, List.set_cons_succ]))
              refine wpAnyH_ready (rs := [8]) (by kernel_rfl) (by simp) ?_
              refine (AllReadyH.cons rfl (fun K hK => ?_) AllReadyH.nil)
              · go_simp
                have hE' : Ext w2 (V3.alloc (.cells #[.slice none 0 0] 39)) := hE.alloc _
                refine hK.out _ _ hE' (fun hHeld => ?_)
                clear hK K
                (try simp only [Act.put, List.setIfInBounds_toArray, List.set_cons_zero, List.set_cons_succ])
                have PB := Box.new (w := V3) (n := V3.heap.size) (vs := [.slice none 0 0]) (t := 39) rfl
                have zA := Ext.size hE
                have yA : V3.heap.size < (V3.alloc (.cells #[.slice none 0 0] 39)).heap.size := by simp
                have NB := Lib.hid (fun (e : (Value.slice a0 rs.length cap0).ownBlock = some V3.heap.size) => show False by have := (World.ownsRow.lt OV.out _ e).2; omega)
                replace OV := Lib.hid (OV.out.ext ((Ext.refl V3).alloc (.cells #[.slice none 0 0] 39)))
                replace hE := hE'
                clear hE'
                generalize V3.alloc (.cells #[.slice none 0 0] 39) = V4 at *
                refine wpAnyH_ready (rs := [9]) (by kernel_rfl) (by simp) ?_
                refine AllReadyH.cons rfl (fun K hK => ?_) AllReadyH.nil
                obtain ⟨r0, rf⟩ := PB 0 _ rfl
                go_simp
                have hE' : Ext w2 (V4.setCell ⟨V3.heap.size, 0, none⟩ (.slice a0 rs.length cap0)) := hE.setNew (by simp; omega) _
                refine hK.out _ _ hE' (fun hHeld => ?_)
                clear hK K
                (try simp only [Act.put, List.setIfInBounds_toArray, List.set_cons_zero, List.set_cons_succ])
                obtain ⟨_, _, e1, -, FF, -⟩ := (OV.out.chg ((Chg.refl V3.heap.size V4).setCell 0 (.slice a0 rs.length cap0)) NB.out).fxs
                cases e1
                have CC := World.cell?_setCell_same (V4) ⟨V3.heap.size, 0, none⟩ (.slice a0 rs.length cap0) r0
                (refine Ord.takeH 10 7 (v := ?_) rfl rfl (by kernel_rfl) (by kernel_rfl) (by kernel_rfl) (fun _ _ _ h => h) (by rfl) ?_ (by assumption) ?_; rotate_left; (intro w hSw; (try dsimp only at hSw); go_simp; (first | done | with_reducible rfl)); (try simp only [Act.put, List.setIfInBounds_toArray, List.set_cons_zero, List.set_cons_succ]))
                refine wpAnyH_done (by kernel_rfl) ?_ _
                go_wp2_with fail
                go_meet
                exact ⟨⟨_, _, _, rfl, CC, FF, by omega⟩, rfl, hE'⟩
            · go_simp
              have hE' : Ext w2 (V2.alloc (.cells #[.slice none 0 0] 39)) := hE.alloc _
              refine hK.out _ _ hE' (fun hHeld => ?_)
              clear hK K
              (try simp only [Act.put, List.setIfInBounds_toArray, List.set_cons_zero, List.set_cons_succ])
              have PB := Box.new (w := V2) (n := V2.heap.size) (vs := [.slice none 0 0]) (t := 39) rfl
              have zA := Ext.size hE
              have yA : V2.heap.size < (V2.alloc (.cells #[.slice none 0 0] 39)).heap.size := by simp
              replace O1 := Lib.hid (O1.out.ext ((Ext.refl V2).alloc (.cells #[.slice none 0 0] 39)))
              replace O2 := Lib.hid (O2.out.ext ((Ext.refl V2).alloc (.cells #[.slice none 0 0] 39)))
              replace hE := hE'
              clear hE'
              generalize V2.alloc (.cells #[.slice none 0 0] 39) = V3 at *
              refine wpAnyH_ready (rs := [4]) (by kernel_rfl) (by simp) ?_
              refine (AllReadyH.cons rfl (fun K hK => ?_) AllReadyH.nil)
              · go_simp
                go_at_call 29
                refine (KS.out _ _ _ _ _ (O1.out.fxs HM.out.1) (O2.out.fxs HM.out.2) (Nat.le_refl _)).mono ?_
                rintro e V4 ⟨v0, rfl, OV, hy⟩
                obtain ⟨a0, cap0, rfl, -, -, -⟩ := OV.fxs
                have NB := Lib.hid (OV.block (B := V2.heap.size) (by omega))
                replace OV := Lib.hid OV
                go_wp2_with fail
                have zy := Ext.size hy
                have hE' := hE.trans hy
                refine hK.out _ _ hE' (fun hHeld => ?_)
                clear hK K
                (try simp only [Act.put, List.setIfInBounds_toArray, List.set_cons_zero, List.set_cons_succ])
                replace PB := Box.ext PB hy
                replace hE := hE'
                clear hE' hy
                (refine Ord.takeH 5 27 (v := ?_) rfl rfl (by kernel_rfl) (by kernel_rfl) (by kernel_rfl) (fun _ _ _ h => h) (by rfl) ?_ (by assumption) ?_; rotate_left; (intro w hSw; (try dsimp only at hSw); go_simp; (first | done | with_reducible rfl)); (try simp only [Act.put, List.setIfInBounds_toArray, List.set_cons_zero, List.set_cons_succ])); (refine Ord.takeH 6 33 (v := ?_) rfl rfl (by kernel_rfl) (by kernel_rfl) (by kernel_rfl) (fun _ _ _ h => h) (by rfl) ?_ (by assumption) ?_; rotate_left; (intro w hSw; (try dsimp only at hSw); go_simp; (first | done | with_reducible rfl)); (try simp only [Act.put, List.setIfInBounds_toArray, List.set_cons_zero, List.set_cons_succ])); (refine Ord.takeH 7 34 (v := ?_) rfl rfl (by kernel_rfl) (by kernel_rfl) (by kernel_rfl) (fun _ _ _ h => h) (by rfl) ?_ (by assumption) ?_; rotate_left; (intro w hSw; (try dsimp only at hSw); go_simp; (first | done | with_reducible rfl)); (try simp only [Act.put, List.setIfInBounds_toArray, List.set_cons_zero, List.set_cons_succ]))
                refine wpAnyH_ready (rs := [9]) (by kernel_rfl) (by simp) ?_
                refine AllReadyH.cons rfl (fun K hK => ?_) AllReadyH.nil
                obtain ⟨r0, rf⟩ := PB 0 _ rfl
                go_simp
                have hE' : Ext w2 (V4.setCell ⟨V2.heap.size, 0, none⟩ (.slice a0 rs.length cap0)) := hE.setNew (by simp; omega) _
                refine hK.out _ _ hE' (fun hHeld => ?_)
                clear hK K
                (try simp only [Act.put, List.setIfInBounds_toArray, List.set_cons_zero, List.set_cons_succ])
                obtain ⟨_, _, e1, -, FF, -⟩ := (OV.out.chg ((Chg.refl V2.heap.size V4).setCell 0 (.slice a0 rs.length cap0)) NB.out).fxs
                cases e1
                have CC := World.cell?_setCell_same (V4) ⟨V2.heap.size, 0, none⟩ (.slice a0 rs.length cap0) r0
                (refine Ord.takeH 10 7 (v := ?_) rfl rfl (by kernel_rfl) (by kernel_rfl) (by kernel_rfl) (fun _ _ _ h => h) (by rfl) ?_ (by assumption) ?_; rotate_left; (intro w hSw; (try dsimp only at hSw); go_simp; (first | done | with_reducible rfl)); (try simp only [Act.put, List.setIfInBounds_toArray, List.set_cons_zero, List.set_cons_succ]))
                refine wpAnyH_done (by kernel_rfl) ?_ _
                go_wp2_with fail
                go_meet
                exact ⟨⟨_, _, _, rfl, CC, FF, by omega⟩, rfl, hE'⟩
          · go_simp
            have hE' : Ext w2 (V1.alloc (.cells #[.slice none 0 0] 39)) := hE.alloc _
            refine hK.out _ _ hE' (fun hHeld => ?_)
            clear hK K
            (try simp only [Act.put, List.setIfInBounds_toArray, List.set_cons_zero, List.set_cons_succ])
            have PB := Box.new (w := V1) (n := V1.heap.size) (vs := [.slice none 0 0]) (t := 39) rfl
            have zA := Ext.size hE
            have yA : V1.heap.size < (V1.alloc (.cells #[.slice none 0 0] 39)).heap.size := by simp
            replace O1 := Lib.hid (O1.out.ext ((Ext.refl V1).alloc (.cells #[.slice none 0 0] 39)))
            replace hE := hE'
            clear hE'
            generalize V1.alloc (.cells #[.slice none 0 0] 39) = V2 at *
            refine wpAnyH_ready (rs := [3]) (by kernel_rfl) (by simp) ?_
            refine (AllReadyH.cons rfl (fun K hK => ?_) AllReadyH.nil)
            · go_simp
              go_at_call 25
              refine (toTrack_any _ _ _ _ (HG.out.ext (X.out.trans hE)) HL.out.2).mono ?_
              rintro e V3 ⟨B2, rfl, -, O2, hy⟩
              go_wp2_with fail
              have zy := Ext.size hy
              have hE' := hE.trans hy
              refine hK.out _ _ hE' (fun hHeld => ?_)
              clear hK K
              (try simp only [Act.put, List.setIfInBounds_toArray, List.set_cons_zero, List.set_cons_succ])
              replace O2 := Lib.hid O2
              replace O1 := Lib.hid (O1.out.ext hy)
              replace PB := Box.ext PB hy
              replace hE := hE'
              clear hE' hy
              refine wpAnyH_ready (rs := [4]) (by kernel_rfl) (by simp) ?_
              refine (AllReadyH.cons rfl (fun K hK => ?_) AllReadyH.nil)
              · go_simp
                go_at_call 29
                refine (KS.out _ _ _ _ _ (O1.out.fxs HM.out.1) (O2.out.fxs HM.out.2) (Nat.le_refl _)).mono ?_
                rintro e V4 ⟨v0, rfl, OV, hy⟩
                obtain ⟨a0, cap0, rfl, -, -, -⟩ := OV.fxs
                have NB := Lib.hid (OV.block (B := V1.heap.size) (by omega))
                replace OV := Lib.hid OV
                go_wp2_with fail
                have zy := Ext.size hy
                have hE' := hE.trans hy
                refine hK.out _ _ hE' (fun hHeld => ?_)
                clear hK K
                (try simp only [Act.put, List.setIfInBounds_toArray, List.set_cons_zero, List.set_cons_succ])
                replace PB := Box.ext PB hy
                replace hE := hE'
                clear hE' hy
                (refine Ord.takeH 5 27 (v := ?_) rfl rfl (by kernel_rfl) (by kernel_rfl) (by kernel_rfl) (fun _ _ _ h => h) (by rfl) ?_ (by assumption) ?_; rotate_left; (intro w hSw; (try dsimp only at hSw); go_simp; (first | done | with_reducible rfl)); (try simp only [Act.put, List.setIfInBounds_toArray, List.set_cons_zero, List.set_cons_succ])); (refine Ord.takeH 6 33 (v := ?_) rfl rfl (by kernel_rfl) (by kernel_rfl) (by kernel_rfl) (fun _ _ _ h => h) (by rfl) ?_ (by assumption) ?_; rotate_left; (intro w hSw; (try dsimp only at hSw); go_simp; (first | done | with_reducible rfl)); (try simp only [Act.put, List.setIfInBounds_toArray, List.set_cons_zero, List.set_cons_succ])); (refine Ord.takeH 7 34 (v := ?_) rfl rfl (by kernel_rfl) (by kernel_rfl) (by kernel_rfl) (fun _ _ _ h => h) (by rfl) ?_ (by assumption) ?_; rotate_left; (intro w hSw; (try dsimp only at hSw); go_simp; (first | done | with_reducible rfl)); (try simp only [Act.put, List.setIfInBounds_toArray, List.set_cons_zero, List.set_cons_succ]))
                refine wpAnyH_ready (rs := [9]) (by kernel_rfl) (by simp) ?_
                refine AllReadyH.cons rfl (fun K hK => ?_) AllReadyH.nil
                obtain ⟨r0, rf⟩ := PB 0 _ rfl
                go_simp
                have hE' : Ext w2 (V4.setCell ⟨V1.heap.size, 0, none⟩ (.slice a0 rs.length cap0)) := hE.setNew (by simp; omega) _
                refine hK.out _ _ hE' (fun hHeld => ?_)
                clear hK K
                (try simp only [Act.put, List.setIfInBounds_toArray, List.set_cons_zero, List.set_cons_succ])
                obtain ⟨_, _, e1, -, FF, -⟩ := (OV.out.chg ((Chg.refl V1.heap.size V4).setCell 0 (.slice a0 rs.length cap0)) NB.out).fxs
                cases e1
                have CC := World.cell?_setCell_same (V4) ⟨V1.heap.size, 0, none⟩ (.slice a0 rs.length cap0) r0
                (refine Ord.takeH 10 7 (v := ?_) rfl rfl (by kernel_rfl) (by kernel_rfl) (by kernel_rfl) (fun _ _ _ h => h) (by rfl) ?_ (by assumption) ?_; rotate_left; (intro w hSw; (try dsimp only at hSw); go_simp; (first | done | with_reducible rfl)); (try simp only [Act.put, List.setIfInBounds_toArray, List.set_cons_zero, List.set_cons_succ]))
                refine wpAnyH_done (by kernel_rfl) ?_ _
                go_wp2_with fail
                go_meet
                exact ⟨⟨_, _, _, rfl, CC, FF, by omega⟩, rfl, hE'⟩
        · go_simp
          have hE' : Ext w2 (V0.alloc (.cells #[.slice none 0 0] 39)) := hE.alloc _
          refine hK.out _ _ hE' (fun hHeld => ?_)
          clear hK K
          (try simp only [Act.put, List.setIfInBounds_toArray, List.set_cons_zero, List.set_cons_succ])
          have PB := Box.new (w := V0) (n := V0.heap.size) (vs := [.slice none 0 0]) (t := 39) rfl
          have zA := Ext.size hE
          have yA : V0.heap.size < (V0.alloc (.cells #[.slice none 0 0] 39)).heap.size := by simp
          replace hE := hE'
          clear hE'
          generalize V0.alloc (.cells #[.slice none 0 0] 39) = V1 at *
          refine wpAnyH_ready (rs := [1]) (by kernel_rfl) (by simp) ?_
          refine (AllReadyH.cons rfl (fun K hK => ?_) AllReadyH.nil)
          · go_simp
            go_at_call 25
            refine (toTrack_any _ _ _ _ (HF.out.ext (X.out.trans hE)) HL.out.1).mono ?_
            rintro e V2 ⟨B1, rfl, -, O1, hy⟩
            go_wp2_with fail
            have zy := Ext.size hy
            have hE' := hE.trans hy
            refine hK.out _ _ hE' (fun hHeld => ?_)
            clear hK K
            (try simp only [Act.put, List.setIfInBounds_toArray, List.set_cons_zero, List.set_cons_succ])
            replace O1 := Lib.hid O1
            replace PB := Box.ext PB hy
            replace hE := hE'
            clear hE' hy
            refine wpAnyH_ready (rs := [3]) (by kernel_rfl) (by simp) ?_
            refine (AllReadyH.cons rfl (fun K hK => ?_) AllReadyH.nil)
            · go_simp
              go_at_call 25
              refine (toTrack_any _ _ _ _ (HG.out.ext (X.out.trans hE)) HL.out.2).mono ?_
              rintro e V3 ⟨B2, rfl, -, O2, hy⟩
              go_wp2_with fail
              have zy := Ext.size hy
              have hE' := hE.trans hy
              refine hK.out _ _ hE' (fun hHeld => ?_)
              clear hK K
              (try simp only [Act.put, List.setIfInBounds_toArray, List.set_cons_zero, List.set_cons_succ])
              replace O2 := Lib.hid O2
              replace O1 := Lib.hid (O1.out.ext hy)
              replace PB := Box.ext PB hy
              replace hE := hE'
              clear hE' hy
              refine wpAnyH_ready (rs := [4]) (by kernel_rfl) (by simp) ?_
              refine (AllReadyH.cons rfl (fun K hK => ?_) AllReadyH.nil)
              · go_simp
                go_at_call 29
                refine (KS.out _ _ _ _ _ (O1.out.fxs HM.out.1) (O2.out.fxs HM.out.2) (Nat.le_refl _)).mono ?_
                rintro e V4 ⟨v0, rfl, OV, hy⟩
                obtain ⟨a0, cap0, rfl, -, -, -⟩ := OV.fxs
                have NB := Lib.hid (OV.block (B := V0.heap.size) (by omega))
                replace OV := Lib.hid OV
                go_wp2_with fail
                have zy := Ext.size hy
                have hE' := hE.trans hy
                refine hK.out _ _ hE' (fun hHeld => ?_)
                clear hK K
                (try simp only [Act.put, List.setIfInBounds_toArray, List.set_cons_zero, List.set_cons_succ])
                replace PB := Box.ext PB hy
                replace hE := hE'
                clear hE' hy
                (refine Ord.takeH 5 27 (v := ?_) rfl rfl (by kernel_rfl) (by kernel_rfl) (by kernel_rfl) (fun _ _ _ h => h) (by rfl) ?_ (by assumption) ?_; rotate_left; (intro w hSw; (try dsimp only at hSw); go_simp; (first | done | with_reducible rfl)); (try simp only [Act.put, List.setIfInBounds_toArray, List.set_cons_zero, List.set_cons_succ])); (refine Ord.takeH 6 33 (v := ?_) rfl rfl (by kernel_rfl) (by kernel_rfl) (by kernel_rfl) (fun _ _ _ h => h) (by rfl) ?_ (by assumption) ?_; rotate_left; (intro w hSw; (try dsimp only at hSw); go_simp; (first | done | with_reducible rfl)); (try simp only [Act.put, List.setIfInBounds_toArray, List.set_cons_zero, List.set_cons_succ])); (refine Ord.takeH 7 34 (v := ?_) rfl rfl (by kernel_rfl) (by kernel_rfl) (by kernel_rfl) (fun _ _ _ h => h) (by rfl) ?_ (by assumption) ?_; rotate_left; (intro w hSw; (try dsimp only at hSw); go_simp; (first | done | with_reducible rfl)); (try simp only [Act.put, List.setIfInBounds_toArray, List.set_cons_zero, List.set_cons_succ]))
                refine wpAnyH_ready (rs := [9]) (by kernel_rfl) (by simp) ?_
                refine AllReadyH.cons rfl (fun K hK => ?_) AllReadyH.nil
                obtain ⟨r0, rf⟩ := PB 0 _ rfl
                go_simp
                have hE' : Ext w2 (V4.setCell ⟨V0.heap.size, 0, none⟩ (.slice a0 rs.length cap0)) := hE.setNew (by simp; omega) _
                refine hK.out _ _ hE' (fun hHeld => ?_)
                clear hK K
                (try simp only [Act.put, List.setIfInBounds_toArray, List.set_cons_zero, List.set_cons_succ])
                obtain ⟨_, _, e1, -, FF, -⟩ := (OV.out.chg ((Chg.refl V0.heap.size V4).setCell 0 (.slice a0 rs.length cap0)) NB.out).fxs
                cases e1
                have CC := World.cell?_setCell_same (V4) ⟨V0.heap.size, 0, none⟩ (.slice a0 rs.length cap0) r0
                (refine Ord.takeH 10 7 (v := ?_) rfl rfl (by kernel_rfl) (by kernel_rfl) (by kernel_rfl) (fun _ _ _ h => h) (by rfl) ?_ (by assumption) ?_; rotate_left; (intro w hSw; (try dsimp only at hSw); go_simp; (first | done | with_reducible rfl)); (try simp only [Act.put, List.setIfInBounds_toArray, List.set_cons_zero, List.set_cons_succ]))
                refine wpAnyH_done (by kernel_rfl) ?_ _
                go_wp2_with fail
                go_meet
                exact ⟨⟨_, _, _, rfl, CC, FF, by omega⟩, rfl, hE'⟩
    case rest =>
      clear e0 e1
      obtain ⟨⟨B0, a0, cap0, rfl, s0, F0, zB⟩, rfl, h⟩ := hcut
      obtain ⟨w3, rfl⟩ : ∃ w3, w3 = wc := ⟨_, rfl⟩
      have z0 := World.block_lt_of_cell? w3 _ s0
      simp at z0
      replace bt := h.cellOf bt
      replace bu := h.cellOf bu
      have X4 := Lib.hid (X.out.trans h)
      have EX := Lib.hid (Ext.refl w3)
      replace F0 := Lib.hid F0
      have z3 := Ext.size h
      clear h X
      go_wp2_with fail
      refine (toTrack_any _ _ _ _ (HF.out.ext (X4.out.trans EX.out)) HL.out.1).mono ?_
      rintro e w5 ⟨B5, rfl, l5, O5, h⟩
      have n5 : 0 < fs.length → B5 < w5.heap.size := fun h0 => World.block_lt_of_cell? w5 _ (O5 0 h0).1.1
      replace bt := h.cellOf bt
      replace bu := h.cellOf bu
      replace s0 := h.cellOf s0
      replace EX := Lib.hid (EX.out.trans h)
      have P5 := Lib.hid O5
      have z5 := Ext.size h
      clear h O5
      have bu1 := one_on bu
      go_wp2_with fail
      clear bu1
      refine (toTrack_any _ _ _ _ (HG.out.ext (X4.out.trans (EX.out.alloc _))) HL.out.2).mono ?_
      rintro e w6 ⟨B6, rfl, l6, O6, h⟩
      have n6 : 0 < gs.length → B6 < w6.heap.size := fun h0 => World.block_lt_of_cell? w6 _ (O6 0 h0).1.1
      have x0 : w6.cell? ⟨w5.heap.size, 0, none⟩ = some (.slice (some ⟨B5, 0, none⟩) fs.length fs.length) := h.cellOf (boxed 0 rfl rfl)
      have z6 := Ext.size h
      simp at z6 l6
      replace h := ((Ext.refl w5).alloc (.cells #[.slice (some ⟨B5, 0, none⟩) fs.length fs.length] 39)).trans h
      replace bt := h.cellOf bt
      replace bu := h.cellOf bu
      replace s0 := h.cellOf s0
      replace EX := Lib.hid (EX.out.trans h)
      replace P5 := Lib.hid (P5.out.ext h)
      have P6 := Lib.hid O6
      clear h O6
      have x01 := one_on x0
      go_wp2_with fail
      clear x01
      refine (KI.out _ _ _ _ _ ((P5.out.fxs HM.out.1).ext (by repeat (first | exact Ext.refl _ | assumption | apply Ext.alloc | apply Ext.drew | (refine Ext.trans ?_ (by assumption)) | (refine Ext.setNew ?_ (by simp <;> omega) _)))) ((P6.out.fxs HM.out.2).ext (by repeat (first | exact Ext.refl _ | assumption | apply Ext.alloc | apply Ext.drew | (refine Ext.trans ?_ (by assumption)) | (refine Ext.setNew ?_ (by simp <;> omega) _)))) (Nat.le_refl _)).mono ?_
      rintro e w7 ⟨v1, rfl, O1, h⟩
      have x1 : w7.cell? ⟨w6.heap.size, 0, none⟩ = some (.slice (some ⟨B6, 0, none⟩) gs.length gs.length) := h.cellOf (boxed 0 rfl rfl)
      have z7 := Ext.size h
      simp at O1 z7
      replace h := ((Ext.refl w6).alloc (.cells #[.slice (some ⟨B6, 0, none⟩) gs.length gs.length] 39)).trans h
      replace bt := h.cellOf bt
      replace bu := h.cellOf bu
      replace s0 := h.cellOf s0
      replace x0 := h.cellOf x0
      replace EX := Lib.hid (EX.out.trans h)
      replace P5 := Lib.hid (P5.out.ext h)
      replace P6 := Lib.hid (P6.out.ext h)
      have Q1 := Lib.hid (fun (k : Nat) (hk : k < w6.heap.size + 1 ∨ w7.heap.size ≤ k) (e : v1.ownBlock = some k) => show False by have := World.ownsRow.lt O1 k e; omega)
      obtain ⟨a1, cap1, rfl, -, F1, -⟩ := O1.fxs
      have P1 := Lib.hid O1
      have s01 := one_on s0
      clear h O1
      go_wp2_with fail
      clear s01
      refine (eqTrack_same _ _ _ _ _ _ (F1.ext (by repeat (first | exact Ext.refl _ | assumption | apply Ext.alloc | apply Ext.drew | (refine Ext.trans ?_ (by assumption)) | (refine Ext.setNew ?_ (by simp <;> omega) _)))) (F0.out.ext (EX.out.trans (by repeat (first | exact Ext.refl _ | assumption | apply Ext.alloc | apply Ext.drew | (refine Ext.trans ?_ (by assumption)) | (refine Ext.setNew ?_ (by simp <;> omega) _)))))).mono ?_
      rintro e w8 ⟨rfl, h⟩
      have g1 : w8.cell? ⟨w7.heap.size, 0, none⟩ = some (.slice a1 rs.length cap1) := h.cellOf (boxed 0 rfl rfl)
      replace h := ((Ext.refl w7).alloc (.cells #[.slice a1 rs.length cap1] 39)).trans h
      replace bt := h.cellOf bt
      replace bu := h.cellOf bu
      replace s0 := h.cellOf s0
      replace x0 := h.cellOf x0
      replace x1 := h.cellOf x1
      replace EX := Lib.hid (EX.out.trans h)
      replace P5 := Lib.hid (P5.out.ext h)
      replace P6 := Lib.hid (P6.out.ext h)
      replace P1 := Lib.hid (P1.out.ext h)
      clear h F1
      have eb : ∀ w', Ext w8 w' → w'.cell? ⟨w.heap.size, 0, none⟩ = some (.slice a fs.length cap) := fun w' h => h.cellOf bt
      have ex : ∀ w', Ext w8 w' → w'.cell? ⟨w5.heap.size, 0, none⟩ = some (.slice (some ⟨B5, 0, none⟩) fs.length fs.length) := fun w' h => h.cellOf x0
      go_wp2_with fail
      refine wp_region_held_drew (S := (fun w' => Ext w8 w')) (by kernel_rfl) (by (try dsimp only); first | go_keep | exact (Ext.refl _).drew | exact Res.new2.drew | exact Res.new4.drew | exact ResB.drew (by assumption) | exact ResC.drew (by assumption) | assumption | exact Res.drew (by assumption)) (fun hHeld => ?_)
      (refine Ord.takeH 0 54 (v := ?_) rfl rfl (by kernel_rfl) (by kernel_rfl) (by kernel_rfl) (fun _ _ _ h => h) (by rfl) ?_ (by assumption) ?_; rotate_left; (intro w hSw; (try dsimp only at hSw); go_simp; (first | done | with_reducible rfl)); (try simp only [Act.put, List.setIfInBounds_toArray, List.set_cons_zero, List.set_cons_succ]))
      (refine Ord.takeH 1 55 (v := ?_) rfl rfl (by kernel_rfl) (by kernel_rfl) (by kernel_rfl) (fun _ _ _ h => h) (by rfl) ?_ (by assumption) ?_; rotate_left; (intro w hSw; (try dsimp only at hSw); go_simp; (first | done | with_reducible rfl)); (try simp only [Act.put, List.setIfInBounds_toArray, List.set_cons_zero, List.set_cons_succ]))
      (refine wpAnyH_ready (rs := [2]) (by kernel_rfl) (by simp) ?_; refine AllReadyH.cons rfl (fun K hK => ?_) AllReadyH.nil; go_simp; (first | (go_at_call 25; refine (toTrack_any _ _ _ _ (HF.out.ext (X4.out.trans (EX.out.trans (by first | assumption | exact (Ext.refl _).drew)))) HL.out.1).mono ?_; rintro e w9 ⟨B9, rfl, -, O9, hy⟩) | (go_at_call 26; refine (eqTrack_same _ _ _ _ _ _ ((P5.out.ext (by assumption)).fxs HM.out.1) (O9.fxs HM.out.1)).mono ?_; rintro e w10 ⟨rfl, hy⟩)); go_wp2_with fail; (refine hK.out _ _ (by first | assumption | exact Ext.trans (by assumption) hy | exact Res.ext (by assumption) hy | exact ResB.ext (by assumption) hy | exact ResC.ext (by assumption) hy | (go_split_ands; (repeat' apply And.intro) <;> exact Ext.cellOf hy (by assumption))) (fun hHeld => ?_)); clear hK K; (try simp only [Act.put, List.setIfInBounds_toArray, List.set_cons_zero, List.set_cons_succ]))
      (refine wpAnyH_ready (rs := [3]) (by kernel_rfl) (by simp) ?_; refine AllReadyH.cons rfl (fun K hK => ?_) AllReadyH.nil; go_simp; (first | (go_at_call 25; refine (toTrack_any _ _ _ _ (HF.out.ext (X4.out.trans (EX.out.trans (by first | assumption | exact (Ext.refl _).drew)))) HL.out.1).mono ?_; rintro e w9 ⟨B9, rfl, -, O9, hy⟩) | (go_at_call 26; refine (eqTrack_same _ _ _ _ _ _ ((P5.out.ext (by assumption)).fxs HM.out.1) (O9.fxs HM.out.1)).mono ?_; rintro e w10 ⟨rfl, hy⟩)); go_wp2_with fail; (refine hK.out _ _ (by first | assumption | exact Ext.trans (by assumption) hy | exact Res.ext (by assumption) hy | exact ResB.ext (by assumption) hy | exact ResC.ext (by assumption) hy | (go_split_ands; (repeat' apply And.intro) <;> exact Ext.cellOf hy (by assumption))) (fun hHeld => ?_)); clear hK K; (try simp only [Act.put, List.setIfInBounds_toArray, List.set_cons_zero, List.set_cons_succ]))
      (refine Ord.takeH 4 58 (v := ?_) rfl rfl (by kernel_rfl) (by kernel_rfl) (by kernel_rfl) (fun _ _ _ h => h) (by rfl) ?_ (by assumption) ?_; rotate_left; (intro w hSw; (try dsimp only at hSw); go_simp; (first | done | with_reducible rfl)); (try simp only [Act.put, List.setIfInBounds_toArray, List.set_cons_zero, List.set_cons_succ]))
      refine wpAnyH_done (by kernel_rfl) ?_ _
      have h : Ext w8 w10 := hHeld
      clear hHeld eb ex O9 hy
      replace bt := h.cellOf bt
      replace bu := h.cellOf bu
      replace s0 := h.cellOf s0
      replace x0 := h.cellOf x0
      replace x1 := h.cellOf x1
      replace g1 := h.cellOf g1
      replace EX := Lib.hid (EX.out.trans h)
      replace P5 := Lib.hid (P5.out.ext h)
      replace P6 := Lib.hid (P6.out.ext h)
      replace P1 := Lib.hid (P1.out.ext h)
      clear h
      have eb : ∀ w', Ext w10 w' → w'.cell? ⟨w.heap.size + 1, 0, none⟩ = some (.slice b gs.length cap') := fun w' h => h.cellOf bu
      have ex : ∀ w', Ext w10 w' → w'.cell? ⟨w6.heap.size, 0, none⟩ = some (.slice (some ⟨B6, 0, none⟩) gs.length gs.length) := fun w' h => h.cellOf x1
      go_wp2_with fail
      refine wp_region_held_drew (S := (fun w' => Ext w10 w')) (by kernel_rfl) (by (try dsimp only); first | go_keep | exact (Ext.refl _).drew | exact Res.new2.drew | exact Res.new4.drew | exact ResB.drew (by assumption) | exact ResC.drew (by assumption) | assumption | exact Res.drew (by assumption)) (fun hHeld => ?_)
      (refine Ord.takeH 0 59 (v := ?_) rfl rfl (by kernel_rfl) (by kernel_rfl) (by kernel_rfl) (fun _ _ _ h => h) (by rfl) ?_ (by assumption) ?_; rotate_left; (intro w hSw; (try dsimp only at hSw); go_simp; (first | done | with_reducible rfl)); (try simp only [Act.put, List.setIfInBounds_toArray, List.set_cons_zero, List.set_cons_succ]))
      (refine Ord.takeH 1 60 (v := ?_) rfl rfl (by kernel_rfl) (by kernel_rfl) (by kernel_rfl) (fun _ _ _ h => h) (by rfl) ?_ (by assumption) ?_; rotate_left; (intro w hSw; (try dsimp only at hSw); go_simp; (first | done | with_reducible rfl)); (try simp only [Act.put, List.setIfInBounds_toArray, List.set_cons_zero, List.set_cons_succ]))
      (refine wpAnyH_ready (rs := [2]) (by kernel_rfl) (by simp) ?_; refine AllReadyH.cons rfl (fun K hK => ?_) AllReadyH.nil; go_simp; (first | (go_at_call 25; refine (toTrack_any _ _ _ _ (HG.out.ext (X4.out.trans (EX.out.trans (by first | assumption | exact (Ext.refl _).drew)))) HL.out.2).mono ?_; rintro e w11 ⟨B9, rfl, -, O9, hy⟩) | (go_at_call 26; refine (eqTrack_same _ _ _ _ _ _ ((P6.out.ext (by assumption)).fxs HM.out.2) (O9.fxs HM.out.2)).mono ?_; rintro e w12 ⟨rfl, hy⟩)); go_wp2_with fail; (refine hK.out _ _ (by first | assumption | exact Ext.trans (by assumption) hy | exact Res.ext (by assumption) hy | exact ResB.ext (by assumption) hy | exact ResC.ext (by assumption) hy | (go_split_ands; (repeat' apply And.intro) <;> exact Ext.cellOf hy (by assumption))) (fun hHeld => ?_)); clear hK K; (try simp only [Act.put, List.setIfInBounds_toArray, List.set_cons_zero, List.set_cons_succ]))
      (refine wpAnyH_ready (rs := [3]) (by kernel_rfl) (by simp) ?_; refine AllReadyH.cons rfl (fun K hK => ?_) AllReadyH.nil; go_simp; (first | (go_at_call 25; refine (toTrack_any _ _ _ _ (HG.out.ext (X4.out.trans (EX.out.trans (by first | assumption | exact (Ext.refl _).drew)))) HL.out.2).mono ?_; rintro e w11 ⟨B9, rfl, -, O9, hy⟩) | (go_at_call 26; refine (eqTrack_same _ _ _ _ _ _ ((P6.out.ext (by assumption)).fxs HM.out.2) (O9.fxs HM.out.2)).mono ?_; rintro e w12 ⟨rfl, hy⟩)); go_wp2_with fail; (refine hK.out _ _ (by first | assumption | exact Ext.trans (by assumption) hy | exact Res.ext (by assumption) hy | exact ResB.ext (by assumption) hy | exact ResC.ext (by assumption) hy | (go_split_ands; (repeat' apply And.intro) <;> exact Ext.cellOf hy (by assumption))) (fun hHeld => ?_)); clear hK K; (try simp only [Act.put, List.setIfInBounds_toArray, List.set_cons_zero, List.set_cons_succ]))
      (refine Ord.takeH 4 63 (v := ?_) rfl rfl (by kernel_rfl) (by kernel_rfl) (by kernel_rfl) (fun _ _ _ h => h) (by rfl) ?_ (by assumption) ?_; rotate_left; (intro w hSw; (try dsimp only at hSw); go_simp; (first | done | with_reducible rfl)); (try simp only [Act.put, List.setIfInBounds_toArray, List.set_cons_zero, List.set_cons_succ]))
      refine wpAnyH_done (by kernel_rfl) ?_ _
      have h : Ext w10 w12 := hHeld
      clear hHeld eb ex O9 hy
      replace bt := h.cellOf bt
      replace bu := h.cellOf bu
      replace s0 := h.cellOf s0
      replace x0 := h.cellOf x0
      replace x1 := h.cellOf x1
      replace g1 := h.cellOf g1
      replace EX := Lib.hid (EX.out.trans h)
      replace P5 := Lib.hid (P5.out.ext h)
      replace P6 := Lib.hid (P6.out.ext h)
      replace P1 := Lib.hid (P1.out.ext h)
      clear h
      have zn : decide ((1 : Int) + 3 * (fs.length : Int) + 3 * (gs.length : Int) < 0) = false := decide_eq_false (by omega)
      have HL2 := Lib.hid (show (0 : Int) ≤ 1 + 3 * (fs.length : Int) ∧ 1 + 3 * (fs.length : Int) ≤ 10000000 by have := HL.out; omega)
      go_wp2_with fail
      refine (markNew_any B5 _ w5.heap.size _ _ _ P5.out HL.out.1 (by decide) (by decide)).mono ?_
      rintro e w13 ⟨rfl, C1, hC, h⟩
      have c1C1 : w3.heap.size ≤ C1 := by rcases hC with ⟨_, rfl⟩ | rfl <;> omega
      have c2C1 : C1 ≤ w5.heap.size := by
        rcases hC with ⟨h0, rfl⟩ | rfl
        · have := n5 h0; omega
        · omega
      clear hC
      replace bt := h.cellOf (by simp; omega) bt
      replace bu := h.cellOf (by simp; omega) bu
      replace s0 := h.cellOf (by simp; omega) s0
      replace g1 := h.cellOf (by simp; omega) g1
      replace x1 := h.cellOf (by simp; omega) x1
      replace EX := Lib.hid (h.ext EX.out (by omega))
      replace P1 := Lib.hid (P1.out.chg h (P1.out.block (by omega)))
      replace P6 := Lib.hid (P6.out.away h (by omega))
      clear h P5 x0
      go_wp2_with fail
      refine (markNew_any B6 _ w6.heap.size _ _ _ P6.out HL.out.2 HL2.out.1 HL2.out.2).mono ?_
      rintro e w14 ⟨rfl, C2, hC, h⟩
      have c1C2 : w5.heap.size + 1 ≤ C2 := by rcases hC with ⟨_, rfl⟩ | rfl <;> omega
      have c2C2 : C2 ≤ w6.heap.size := by
        rcases hC with ⟨h0, rfl⟩ | rfl
        · have := n6 h0; omega
        · omega
      clear hC
      replace bt := h.cellOf (by simp; omega) bt
      replace bu := h.cellOf (by simp; omega) bu
      replace s0 := h.cellOf (by simp; omega) s0
      replace g1 := h.cellOf (by simp; omega) g1
      replace EX := Lib.hid (h.ext EX.out (by omega))
      replace P1 := Lib.hid (P1.out.chg h (P1.out.block (by omega)))
      clear h P6 x1
      obtain ⟨_, _, e1, -, F1, -⟩ := P1.out.fxs
      cases e1
      go_wp2_with fail
      refine (eqTrack_same _ _ _ _ _ _ F1 (F0.out.ext EX.out)).mono ?_
      rintro e w15 ⟨rfl, h⟩
      replace bt := h.cellOf bt
      replace bu := h.cellOf bu
      replace s0 := h.cellOf s0
      replace g1 := h.cellOf g1
      replace EX := Lib.hid (EX.out.trans h)
      replace P1 := Lib.hid (P1.out.ext h)
      clear h F1
      go_wp2_with fail
      refine (markOwn_any _ _ _ _ _ P1.out (by have := HR.out; omega) (by decide) (by decide)).mono ?_
      rintro e w17 ⟨rfl, HH, h⟩
      replace bt := h.cellOf (fun e => Q1.out _ (.inl (by simp; omega)) e) bt
      replace bu := h.cellOf (fun e => Q1.out _ (.inl (by simp; omega)) e) bu
      replace s0 := h.cellOf (fun e => Q1.out _ (.inl (by simp; omega)) e) s0
      replace g1 := h.cellOf (fun e => Q1.out _ (.inr (by simp)) e) g1
      replace EX := Lib.hid (h.ext EX.out (by omega))
      replace HH := Lib.hid HH
      clear h P1
      have zg : decide ((1 : Int) + 3 * (rs.length : Int) < 0) = false := decide_eq_false (by omega)
      have HR2 := Lib.hid (show rs.length ≤ 1048576 by have := HR.out; omega)
      go_wp2_with fail
      refine (heldOwn_any _ _ _ _ HH.out HR2.out (by decide) (by decide)).mono ?_
      rintro e w19 ⟨rfl, h⟩
      replace bt := h.cellOf bt
      replace bu := h.cellOf bu
      replace s0 := h.cellOf s0
      replace g1 := h.cellOf g1
      replace EX := Lib.hid (EX.out.trans h)
      replace HH := Lib.hid (HH.out.ext h)
      clear h
      have e0 : ∀ w', Ext w19 w' → w'.cell? ⟨w.heap.size, 0, none⟩ = some (.slice a fs.length cap) := fun w' h => h.cellOf bt
      have e1 : ∀ w', Ext w19 w' → w'.cell? ⟨w.heap.size + 1, 0, none⟩ = some (.slice b gs.length cap') := fun w' h => h.cellOf bu
      go_upto_region 31 with fail
      go_cut [15, 16] (fun s t wx => (∃ (B : Nat) (a0 : Option Addr) (cap0 : Nat), s = .pointer (some ⟨B, 0, none⟩) ∧ wx.cell? ⟨B, 0, none⟩ = some (.slice a0 rs.length cap0) ∧ Fxs wx a0 rs) ∧ t = .int .i64 ck ∧ Ext w19 wx)
      case first =>
        refine wp_region_held_drew (S := fun w' => Ext w19 w') (by kernel_rfl) (by (try dsimp only); exact (Ext.refl _).drew) (fun hHeld => ?_)
        (refine Ord.takeH 0 95 (v := ?_) rfl rfl (by kernel_rfl) (by kernel_rfl) (by kernel_rfl) (fun _ _ _ h => h) (by rfl) ?_ (by assumption) ?_; rotate_left; (intro w hSw; (try dsimp only at hSw); go_simp; (first | done | with_reducible rfl)); (try simp only [Act.put, List.setIfInBounds_toArray, List.set_cons_zero, List.set_cons_succ])); (refine Ord.takeH 2 97 (v := ?_) rfl rfl (by kernel_rfl) (by kernel_rfl) (by kernel_rfl) (fun _ _ _ h => h) (by rfl) ?_ (by assumption) ?_; rotate_left; (intro w hSw; (try dsimp only at hSw); go_simp; (first | done | with_reducible rfl)); (try simp only [Act.put, List.setIfInBounds_toArray, List.set_cons_zero, List.set_cons_succ]))
        have hE : Ext w19 w19.drew := (Ext.refl w19).drew
        obtain ⟨V0, hV0⟩ : ∃ V0, V0 = w19.drew := ⟨_, rfl⟩
        rw [← hV0] at hE hHeld ⊢
        clear hV0 e0 e1
        refine wpAnyH_ready (rs := [1, 8]) (by kernel_rfl) (by simp) ?_
        refine (AllReadyH.cons rfl (fun K hK => ?_) (AllReadyH.cons rfl (fun K hK => ?_) AllReadyH.nil))
        · go_simp
          go_at_call 25
          refine (toTrack_any _ _ _ _ (HF.out.ext (X4.out.trans (EX.out.trans hE))) HL.out.1).mono ?_
          rintro e V1 ⟨B1, rfl, -, O1, hy⟩
          go_wp2_with fail
          have zy := Ext.size hy
          have hE' := hE.trans hy
          refine hK.out _ _ hE' (fun hHeld => ?_)
          clear hK K
          (try simp only [Act.put, List.setIfInBounds_toArray, List.set_cons_zero, List.set_cons_succ])
          replace O1 := Lib.hid O1
          replace hE := hE'
          clear hE' hy
          refine wpAnyH_ready (rs := [3, 8]) (by kernel_rfl) (by simp) ?_
          refine (AllReadyH.cons rfl (fun K hK => ?_) (AllReadyH.cons rfl (fun K hK => ?_) AllReadyH.nil))
          · go_simp
            go_at_call 25
            refine (toTrack_any _ _ _ _ (HG.out.ext (X4.out.trans (EX.out.trans hE))) HL.out.2).mono ?_
            rintro e V2 ⟨B2, rfl, -, O2, hy⟩
            go_wp2_with fail
            have zy := Ext.size hy
            have hE' := hE.trans hy
            refine hK.out _ _ hE' (fun hHeld => ?_)
            clear hK K
            (try simp only [Act.put, List.setIfInBounds_toArray, List.set_cons_zero, List.set_cons_succ])
            replace O2 := Lib.hid O2
            replace O1 := Lib.hid (O1.out.ext hy)
            replace hE := hE'
            clear hE' hy
            refine wpAnyH_ready (rs := [4, 8]) (by kernel_rfl) (by simp) ?_
            refine (AllReadyH.cons rfl (fun K hK => ?_) (AllReadyH.cons rfl (fun K hK => ?_) AllReadyH.nil))
            · go_simp
              go_at_call 20
              refine (KI.out _ _ _ _ _ (O1.out.fxs HM.out.1) (O2.out.fxs HM.out.2) (Nat.le_refl _)).mono ?_
              rintro e V3 ⟨v0, rfl, OV, hy⟩
              obtain ⟨a0, cap0, rfl, -, -, -⟩ := OV.fxs
              replace OV := Lib.hid OV
              go_wp2_with fail
              have zy := Ext.size hy
              have hE' := hE.trans hy
              refine hK.out _ _ hE' (fun hHeld => ?_)
              clear hK K
              (try simp only [Act.put, List.setIfInBounds_toArray, List.set_cons_zero, List.set_cons_succ])
              replace hE := hE'
              clear hE' hy
              (refine Ord.takeH 5 94 (v := ?_) rfl rfl (by kernel_rfl) (by kernel_rfl) (by kernel_rfl) (fun _ _ _ h => h) (by rfl) ?_ (by assumption) ?_; rotate_left; (intro w hSw; (try dsimp only at hSw); go_simp; (first | done | with_reducible rfl)); (try simp only [Act.put, List.setIfInBounds_toArray, List.set_cons_zero, List.set_cons_succ])); (refine Ord.takeH 6 100 (v := ?_) rfl rfl (by kernel_rfl) (by kernel_rfl) (by kernel_rfl) (fun _ _ _ h => h) (by rfl) ?_ (by assumption) ?_; rotate_left; (intro w hSw; (try dsimp only at hSw); go_simp; (first | done | with_reducible rfl)); (try simp only [Act.put, List.setIfInBounds_toArray, List.set_cons_zero, List.set_cons_succ])); (refine Ord.takeH 7 101 (v := ?_) rfl rfl (by kernel_rfl) (by kernel_rfl) (by kernel_rfl) (fun _ _ _ h => h) (by rfl) ?_ (by assumption) ?_; rotate_left; (intro w hSw; (try dsimp only at hSw); go_simp; (first | done | with_reducible rfl)); (try simp only [Act.put, List.setIfInBounds_toArray, List.set_cons_zero, List.set_cons_succ]))
              refine wpAnyH_ready (rs := [8]) (by kernel_rfl) (by simp) ?_
              refine (AllReadyH.cons rfl (fun K hK => ?_) AllReadyH.nil)
              · go_simp
                have hE' : Ext w19 (V3.alloc (.cells #[.slice none 0 0] 39)) := hE.alloc _
                refine hK.out _ _ hE' (fun hHeld => ?_)
                clear hK K
                (try simp only [Act.put, List.setIfInBounds_toArray, List.set_cons_zero, List.set_cons_succ])
                have PB := Box.new (w := V3) (n := V3.heap.size) (vs := [.slice none 0 0]) (t := 39) rfl
                have zA := Ext.size hE
                have yA : V3.heap.size < (V3.alloc (.cells #[.slice none 0 0] 39)).heap.size := by simp
                have NB := Lib.hid (fun (e : (Value.slice a0 rs.length cap0).ownBlock = some V3.heap.size) => show False by have := (World.ownsRow.lt OV.out _ e).2; omega)
                replace OV := Lib.hid (OV.out.ext ((Ext.refl V3).alloc (.cells #[.slice none 0 0] 39)))
                replace hE := hE'
                clear hE'
                generalize V3.alloc (.cells #[.slice none 0 0] 39) = V4 at *
                refine wpAnyH_ready (rs := [9]) (by kernel_rfl) (by simp) ?_
                refine AllReadyH.cons rfl (fun K hK => ?_) AllReadyH.nil
                obtain ⟨r0, rf⟩ := PB 0 _ rfl
                go_simp
                have hE' : Ext w19 (V4.setCell ⟨V3.heap.size, 0, none⟩ (.slice a0 rs.length cap0)) := hE.setNew (by simp; omega) _
                refine hK.out _ _ hE' (fun hHeld => ?_)
                clear hK K
                (try simp only [Act.put, List.setIfInBounds_toArray, List.set_cons_zero, List.set_cons_succ])
                obtain ⟨_, _, e1, -, FF, -⟩ := (OV.out.chg ((Chg.refl V3.heap.size V4).setCell 0 (.slice a0 rs.length cap0)) NB.out).fxs
                cases e1
                have CC := World.cell?_setCell_same (V4) ⟨V3.heap.size, 0, none⟩ (.slice a0 rs.length cap0) r0
                (refine Ord.takeH 10 16 (v := ?_) rfl rfl (by kernel_rfl) (by kernel_rfl) (by kernel_rfl) (fun _ _ _ h => h) (by rfl) ?_ (by assumption) ?_; rotate_left; (intro w hSw; (try dsimp only at hSw); go_simp; (first | done | with_reducible rfl)); (try simp only [Act.put, List.setIfInBounds_toArray, List.set_cons_zero, List.set_cons_succ]))
                refine wpAnyH_done (by kernel_rfl) ?_ _
                go_wp2_with fail
                go_meet
                exact ⟨⟨_, _, _, rfl, CC, FF⟩, rfl, hE'⟩
            · go_simp
              have hE' : Ext w19 (V2.alloc (.cells #[.slice none 0 0] 39)) := hE.alloc _
              refine hK.out _ _ hE' (fun hHeld => ?_)
              clear hK K
              (try simp only [Act.put, List.setIfInBounds_toArray, List.set_cons_zero, List.set_cons_succ])
              have PB := Box.new (w := V2) (n := V2.heap.size) (vs := [.slice none 0 0]) (t := 39) rfl
              have zA := Ext.size hE
              have yA : V2.heap.size < (V2.alloc (.cells #[.slice none 0 0] 39)).heap.size := by simp
              replace O1 := Lib.hid (O1.out.ext ((Ext.refl V2).alloc (.cells #[.slice none 0 0] 39)))
              replace O2 := Lib.hid (O2.out.ext ((Ext.refl V2).alloc (.cells #[.slice none 0 0] 39)))
              replace hE := hE'
              clear hE'
              generalize V2.alloc (.cells #[.slice none 0 0] 39) = V3 at *
              refine wpAnyH_ready (rs := [4]) (by kernel_rfl) (by simp) ?_
              refine (AllReadyH.cons rfl (fun K hK => ?_) AllReadyH.nil)
              · go_simp
                go_at_call 20
                refine (KI.out _ _ _ _ _ (O1.out.fxs HM.out.1) (O2.out.fxs HM.out.2) (Nat.le_refl _)).mono ?_
                rintro e V4 ⟨v0, rfl, OV, hy⟩
                obtain ⟨a0, cap0, rfl, -, -, -⟩ := OV.fxs
                have NB := Lib.hid (OV.block (B := V2.heap.size) (by omega))
                replace OV := Lib.hid OV
                go_wp2_with fail
                have zy := Ext.size hy
                have hE' := hE.trans hy
                refine hK.out _ _ hE' (fun hHeld => ?_)
                clear hK K
                (try simp only [Act.put, List.setIfInBounds_toArray, List.set_cons_zero, List.set_cons_succ])
                replace PB := Box.ext PB hy
                replace hE := hE'
                clear hE' hy
                (refine Ord.takeH 5 94 (v := ?_) rfl rfl (by kernel_rfl) (by kernel_rfl) (by kernel_rfl) (fun _ _ _ h => h) (by rfl) ?_ (by assumption) ?_; rotate_left; (intro w hSw; (try dsimp only at hSw); go_simp; (first | done | with_reducible rfl)); (try simp only [Act.put, List.setIfInBounds_toArray, List.set_cons_zero, List.set_cons_succ])); (refine Ord.takeH 6 100 (v := ?_) rfl rfl (by kernel_rfl) (by kernel_rfl) (by kernel_rfl) (fun _ _ _ h => h) (by rfl) ?_ (by assumption) ?_; rotate_left; (intro w hSw; (try dsimp only at hSw); go_simp; (first | done | with_reducible rfl)); (try simp only [Act.put, List.setIfInBounds_toArray, List.set_cons_zero, List.set_cons_succ])); (refine Ord.takeH 7 101 (v := ?_) rfl rfl (by kernel_rfl) (by kernel_rfl) (by kernel_rfl) (fun _ _ _ h => h) (by rfl) ?_ (by assumption) ?_; rotate_left; (intro w hSw; (try dsimp only at hSw); go_simp; (first | done | with_reducible rfl)); (try simp only [Act.put, List.setIfInBounds_toArray, List.set_cons_zero, List.set_cons_succ]))
                refine wpAnyH_ready (rs := [9]) (by kernel_rfl) (by simp) ?_
                refine AllReadyH.cons rfl (fun K hK => ?_) AllReadyH.nil
                obtain ⟨r0, rf⟩ := PB 0 _ rfl
                go_simp
                have hE' : Ext w19 (V4.setCell ⟨V2.heap.size, 0, none⟩ (.slice a0 rs.length cap0)) := hE.setNew (by simp; omega) _
                refine hK.out _ _ hE' (fun hHeld => ?_)
                clear hK K
                (try simp only [Act.put, List.setIfInBounds_toArray, List.set_cons_zero, List.set_cons_succ])
                obtain ⟨_, _, e1, -, FF, -⟩ := (OV.out.chg ((Chg.refl V2.heap.size V4).setCell 0 (.slice a0 rs.length cap0)) NB.out).fxs
                cases e1
                have CC := World.cell?_setCell_same (V4) ⟨V2.heap.size, 0, none⟩ (.slice a0 rs.length cap0) r0
                (refine Ord.takeH 10 16 (v := ?_) rfl rfl (by kernel_rfl) (by kernel_rfl) (by kernel_rfl) (fun _ _ _ h => h) (by rfl) ?_ (by assumption) ?_; rotate_left; (intro w hSw; (try dsimp only at hSw); go_simp; (first | done | with_reducible rfl)); (try simp only [Act.put, List.setIfInBounds_toArray, List.set_cons_zero, List.set_cons_succ]))
                refine wpAnyH_done (by kernel_rfl) ?_ _
                go_wp2_with fail
                go_meet
                exact ⟨⟨_, _, _, rfl, CC, FF⟩, rfl, hE'⟩
          · go_simp
            have hE' : Ext w19 (V1.alloc (.cells #[.slice none 0 0] 39)) := hE.alloc _
            refine hK.out _ _ hE' (fun hHeld => ?_)
            clear hK K
            (try simp only [Act.put, List.setIfInBounds_toArray, List.set_cons_zero, List.set_cons_succ])
            have PB := Box.new (w := V1) (n := V1.heap.size) (vs := [.slice none 0 0]) (t := 39) rfl
            have zA := Ext.size hE
            have yA : V1.heap.size < (V1.alloc (.cells #[.slice none 0 0] 39)).heap.size := by simp
            replace O1 := Lib.hid (O1.out.ext ((Ext.refl V1).alloc (.cells #[.slice none 0 0] 39)))
            replace hE := hE'
            clear hE'
            generalize V1.alloc (.cells #[.slice none 0 0] 39) = V2 at *
            refine wpAnyH_ready (rs := [3]) (by kernel_rfl) (by simp) ?_
            refine (AllReadyH.cons rfl (fun K hK => ?_) AllReadyH.nil)
            · go_simp
              go_at_call 25
              refine (toTrack_any _ _ _ _ (HG.out.ext (X4.out.trans (EX.out.trans hE))) HL.out.2).mono ?_
              rintro e V3 ⟨B2, rfl, -, O2, hy⟩
              go_wp2_with fail
              have zy := Ext.size hy
              have hE' := hE.trans hy
              refine hK.out _ _ hE' (fun hHeld => ?_)
              clear hK K
              (try simp only [Act.put, List.setIfInBounds_toArray, List.set_cons_zero, List.set_cons_succ])
              replace O2 := Lib.hid O2
              replace O1 := Lib.hid (O1.out.ext hy)
              replace PB := Box.ext PB hy
              replace hE := hE'
              clear hE' hy
              refine wpAnyH_ready (rs := [4]) (by kernel_rfl) (by simp) ?_
              refine (AllReadyH.cons rfl (fun K hK => ?_) AllReadyH.nil)
              · go_simp
                go_at_call 20
                refine (KI.out _ _ _ _ _ (O1.out.fxs HM.out.1) (O2.out.fxs HM.out.2) (Nat.le_refl _)).mono ?_
                rintro e V4 ⟨v0, rfl, OV, hy⟩
                obtain ⟨a0, cap0, rfl, -, -, -⟩ := OV.fxs
                have NB := Lib.hid (OV.block (B := V1.heap.size) (by omega))
                replace OV := Lib.hid OV
                go_wp2_with fail
                have zy := Ext.size hy
                have hE' := hE.trans hy
                refine hK.out _ _ hE' (fun hHeld => ?_)
                clear hK K
                (try simp only [Act.put, List.setIfInBounds_toArray, List.set_cons_zero, List.set_cons_succ])
                replace PB := Box.ext PB hy
                replace hE := hE'
                clear hE' hy
                (refine Ord.takeH 5 94 (v := ?_) rfl rfl (by kernel_rfl) (by kernel_rfl) (by kernel_rfl) (fun _ _ _ h => h) (by rfl) ?_ (by assumption) ?_; rotate_left; (intro w hSw; (try dsimp only at hSw); go_simp; (first | done | with_reducible rfl)); (try simp only [Act.put, List.setIfInBounds_toArray, List.set_cons_zero, List.set_cons_succ])); (refine Ord.takeH 6 100 (v := ?_) rfl rfl (by kernel_rfl) (by kernel_rfl) (by kernel_rfl) (fun _ _ _ h => h) (by rfl) ?_ (by assumption) ?_; rotate_left; (intro w hSw; (try dsimp only at hSw); go_simp; (first | done | with_reducible rfl)); (try simp only [Act.put, List.setIfInBounds_toArray, List.set_cons_zero, List.set_cons_succ])); (refine Ord.takeH 7 101 (v := ?_) rfl rfl (by kernel_rfl) (by kernel_rfl) (by kernel_rfl) (fun _ _ _ h => h) (by rfl) ?_ (by assumption) ?_; rotate_left; (intro w hSw; (try dsimp only at hSw); go_simp; (first | done | with_reducible rfl)); (try simp only [Act.put, List.setIfInBounds_toArray, List.set_cons_zero, List.set_cons_succ]))
                refine wpAnyH_ready (rs := [9]) (by kernel_rfl) (by simp) ?_
                refine AllReadyH.cons rfl (fun K hK => ?_) AllReadyH.nil
                obtain ⟨r0, rf⟩ := PB 0 _ rfl
                go_simp
                have hE' : Ext w19 (V4.setCell ⟨V1.heap.size, 0, none⟩ (.slice a0 rs.length cap0)) := hE.setNew (by simp; omega) _
                refine hK.out _ _ hE' (fun hHeld => ?_)
                clear hK K
                (try simp only [Act.put, List.setIfInBounds_toArray, List.set_cons_zero, List.set_cons_succ])
                obtain ⟨_, _, e1, -, FF, -⟩ := (OV.out.chg ((Chg.refl V1.heap.size V4).setCell 0 (.slice a0 rs.length cap0)) NB.out).fxs
                cases e1
                have CC := World.cell?_setCell_same (V4) ⟨V1.heap.size, 0, none⟩ (.slice a0 rs.length cap0) r0
                (refine Ord.takeH 10 16 (v := ?_) rfl rfl (by kernel_rfl) (by kernel_rfl) (by kernel_rfl) (fun _ _ _ h => h) (by rfl) ?_ (by assumption) ?_; rotate_left; (intro w hSw; (try dsimp only at hSw); go_simp; (first | done | with_reducible rfl)); (try simp only [Act.put, List.setIfInBounds_toArray, List.set_cons_zero, List.set_cons_succ]))
                refine wpAnyH_done (by kernel_rfl) ?_ _
                go_wp2_with fail
                go_meet
                exact ⟨⟨_, _, _, rfl, CC, FF⟩, rfl, hE'⟩
        · go_simp
          have hE' : Ext w19 (V0.alloc (.cells #[.slice none 0 0] 39)) := hE.alloc _
          refine hK.out _ _ hE' (fun hHeld => ?_)
          clear hK K
          (try simp only [Act.put, List.setIfInBounds_toArray, List.set_cons_zero, List.set_cons_succ])
          have PB := Box.new (w := V0) (n := V0.heap.size) (vs := [.slice none 0 0]) (t := 39) rfl
          have zA := Ext.size hE
          have yA : V0.heap.size < (V0.alloc (.cells #[.slice none 0 0] 39)).heap.size := by simp
          replace hE := hE'
          clear hE'
          generalize V0.alloc (.cells #[.slice none 0 0] 39) = V1 at *
          refine wpAnyH_ready (rs := [1]) (by kernel_rfl) (by simp) ?_
          refine (AllReadyH.cons rfl (fun K hK => ?_) AllReadyH.nil)
          · go_simp
            go_at_call 25
            refine (toTrack_any _ _ _ _ (HF.out.ext (X4.out.trans (EX.out.trans hE))) HL.out.1).mono ?_
            rintro e V2 ⟨B1, rfl, -, O1, hy⟩
            go_wp2_with fail
            have zy := Ext.size hy
            have hE' := hE.trans hy
            refine hK.out _ _ hE' (fun hHeld => ?_)
            clear hK K
            (try simp only [Act.put, List.setIfInBounds_toArray, List.set_cons_zero, List.set_cons_succ])
            replace O1 := Lib.hid O1
            replace PB := Box.ext PB hy
            replace hE := hE'
            clear hE' hy
            refine wpAnyH_ready (rs := [3]) (by kernel_rfl) (by simp) ?_
            refine (AllReadyH.cons rfl (fun K hK => ?_) AllReadyH.nil)
            · go_simp
              go_at_call 25
              refine (toTrack_any _ _ _ _ (HG.out.ext (X4.out.trans (EX.out.trans hE))) HL.out.2).mono ?_
              rintro e V3 ⟨B2, rfl, -, O2, hy⟩
              go_wp2_with fail
              have zy := Ext.size hy
              have hE' := hE.trans hy
              refine hK.out _ _ hE' (fun hHeld => ?_)
              clear hK K
              (try simp only [Act.put, List.setIfInBounds_toArray, List.set_cons_zero, List.set_cons_succ])
              replace O2 := Lib.hid O2
              replace O1 := Lib.hid (O1.out.ext hy)
              replace PB := Box.ext PB hy
              replace hE := hE'
              clear hE' hy
              refine wpAnyH_ready (rs := [4]) (by kernel_rfl) (by simp) ?_
              refine (AllReadyH.cons rfl (fun K hK => ?_) AllReadyH.nil)
              · go_simp
                go_at_call 20
                refine (KI.out _ _ _ _ _ (O1.out.fxs HM.out.1) (O2.out.fxs HM.out.2) (Nat.le_refl _)).mono ?_
                rintro e V4 ⟨v0, rfl, OV, hy⟩
                obtain ⟨a0, cap0, rfl, -, -, -⟩ := OV.fxs
                have NB := Lib.hid (OV.block (B := V0.heap.size) (by omega))
                replace OV := Lib.hid OV
                go_wp2_with fail
                have zy := Ext.size hy
                have hE' := hE.trans hy
                refine hK.out _ _ hE' (fun hHeld => ?_)
                clear hK K
                (try simp only [Act.put, List.setIfInBounds_toArray, List.set_cons_zero, List.set_cons_succ])
                replace PB := Box.ext PB hy
                replace hE := hE'
                clear hE' hy
                (refine Ord.takeH 5 94 (v := ?_) rfl rfl (by kernel_rfl) (by kernel_rfl) (by kernel_rfl) (fun _ _ _ h => h) (by rfl) ?_ (by assumption) ?_; rotate_left; (intro w hSw; (try dsimp only at hSw); go_simp; (first | done | with_reducible rfl)); (try simp only [Act.put, List.setIfInBounds_toArray, List.set_cons_zero, List.set_cons_succ])); (refine Ord.takeH 6 100 (v := ?_) rfl rfl (by kernel_rfl) (by kernel_rfl) (by kernel_rfl) (fun _ _ _ h => h) (by rfl) ?_ (by assumption) ?_; rotate_left; (intro w hSw; (try dsimp only at hSw); go_simp; (first | done | with_reducible rfl)); (try simp only [Act.put, List.setIfInBounds_toArray, List.set_cons_zero, List.set_cons_succ])); (refine Ord.takeH 7 101 (v := ?_) rfl rfl (by kernel_rfl) (by kernel_rfl) (by kernel_rfl) (fun _ _ _ h => h) (by rfl) ?_ (by assumption) ?_; rotate_left; (intro w hSw; (try dsimp only at hSw); go_simp; (first | done | with_reducible rfl)); (try simp only [Act.put, List.setIfInBounds_toArray, List.set_cons_zero, List.set_cons_succ]))
                refine wpAnyH_ready (rs := [9]) (by kernel_rfl) (by simp) ?_
                refine AllReadyH.cons rfl (fun K hK => ?_) AllReadyH.nil
                obtain ⟨r0, rf⟩ := PB 0 _ rfl
                go_simp
                have hE' : Ext w19 (V4.setCell ⟨V0.heap.size, 0, none⟩ (.slice a0 rs.length cap0)) := hE.setNew (by simp; omega) _
                refine hK.out _ _ hE' (fun hHeld => ?_)
                clear hK K
                (try simp only [Act.put, List.setIfInBounds_toArray, List.set_cons_zero, List.set_cons_succ])
                obtain ⟨_, _, e1, -, FF, -⟩ := (OV.out.chg ((Chg.refl V0.heap.size V4).setCell 0 (.slice a0 rs.length cap0)) NB.out).fxs
                cases e1
                have CC := World.cell?_setCell_same (V4) ⟨V0.heap.size, 0, none⟩ (.slice a0 rs.length cap0) r0
                (refine Ord.takeH 10 16 (v := ?_) rfl rfl (by kernel_rfl) (by kernel_rfl) (by kernel_rfl) (fun _ _ _ h => h) (by rfl) ?_ (by assumption) ?_; rotate_left; (intro w hSw; (try dsimp only at hSw); go_simp; (first | done | with_reducible rfl)); (try simp only [Act.put, List.setIfInBounds_toArray, List.set_cons_zero, List.set_cons_succ]))
                refine wpAnyH_done (by kernel_rfl) ?_ _
                go_wp2_with fail
                go_meet
                exact ⟨⟨_, _, _, rfl, CC, FF⟩, rfl, hE'⟩
      case rest =>
        clear e0 e1
        obtain ⟨⟨B2, a2, cap2, rfl, s2, F2⟩, rfl, h⟩ := hcut
        obtain ⟨w24, rfl⟩ : ∃ w24, w24 = wc := ⟨_, rfl⟩
        replace s0 := h.cellOf s0
        replace g1 := h.cellOf g1
        replace EX := Lib.hid (EX.out.trans h)
        replace HH := Lib.hid (HH.out.ext h)
        clear h bt bu
        go_wp2_with fail
        refine (eqTrack_same _ _ _ _ _ _ F2 (F0.out.ext EX.out)).mono ?_
        rintro e w25 ⟨rfl, h⟩
        replace g1 := h.cellOf g1
        replace EX := Lib.hid (EX.out.trans h)
        replace HH := Lib.hid (HH.out.ext h)
        clear h s0 F2 s2
        go_wp2_with fail
        refine (heldOwn_any _ _ _ _ HH.out HR2.out (by decide) (by decide)).mono ?_
        rintro e w28 ⟨rfl, h⟩
        go_wp2
        go_ret
        exact ⟨rfl, X4.out.trans (EX.out.trans h)⟩


theorem own : ownKnob Try.prog.godebug = none := by kernel_rfl
theorem laidOut : laidOutB Try.prog = true := by kernel_rfl

set_option maxRecDepth 100000 in
theorem lifted (os : Os) (started : os.Started) (H : Type) (enc : TypeId × Value → H) :
    ReturnsInHanded {} Try.checked os 7 .any (Rows.fnExactJoinTracksSpec.pre6 enc Try.prog Try.f7 Rows.fnExactJoinTracksRow.domain false) (Rows.fnExactJoinTracksSpec.post enc Try.prog Try.f7 false true false false) := by
  refine returnsInHanded_of_change (C := Try.checked) own started (by kernel_rfl) Try.func7
    (ChangeSpec.witness6 (enc := enc) (C := Try.checked) false ⟨#[], #[.agg #[.slice none 0 0], .agg #[.slice none 0 0]], []⟩ 8 (by kernel_rfl) (by kernel_rfl) (by kernel_rfl) (by kernel_rfl)) ?_
  intro W base args ds gs before hval0 hW hcnd _
  have hval : ∀ (j : Nat) t v, Try.f7.params[j]? = some t → args[j]? = some v → Value.okWide Try.prog W .any base t v := hval0
  have hW' := hW
  obtain ⟨p, q, hA0, hV, rfl, hfz, hnd⟩ := hW
  have hA : DataW.TrodAll enc Try.prog W 0 (fun _ => true) true Try.f7.params.toList args.toList ds p := hA0
  rw [Try.params7] at hA hval
  obtain ⟨v0, vs0, d0, ds0, p0, q0, hargs, rfl, rfl, h0, r0⟩ := trodAll_cons hA
  obtain ⟨v1, vs1, d1, ds1, p1, q1, rfl, rfl, rfl, h1, r1⟩ := trodAll_cons r0
  obtain ⟨rfl, rfl, rfl⟩ := trodAll_nil r1
  obtain rfl : args = #[v0, v1] := by cases args; simp_all
  obtain ⟨rfl, rfl⟩ := trodVars_none hV
  have k0 := h0
  have lt0 : ∀ x ∈ p0, x.block < W.heap.size := by obtain ⟨m, hm⟩ := k0; exact DataW.trod_lt m _ _ _ hm
  obtain ⟨a0, cap0, fs0, rfl, w0⟩ := Trk.open_track Try.underlying60 (by kernel_rfl) (by kernel_rfl) Try.underlying58 Try.underlying108 (by kernel_rfl) (by kernel_rfl) Try.underlying2 Try.underlying2 Try.underlying2 (hval 0 60 v0 rfl rfl) h0
  have k1 := h1
  have lt1 : ∀ x ∈ p1, x.block < W.heap.size := by obtain ⟨m, hm⟩ := k1; exact DataW.trod_lt m _ _ _ hm
  obtain ⟨a1, cap1, fs1, rfl, w1⟩ := Trk.open_track Try.underlying60 (by kernel_rfl) (by kernel_rfl) Try.underlying58 Try.underlying108 (by kernel_rfl) (by kernel_rfl) Try.underlying2 Try.underlying2 Try.underlying2 (hval 1 60 v1 rfl rfl) h1
  clear hA0 hval0
  refine (walk a0 cap0 fs0 a1 cap1 fs1 W w0 w1).mono fun e W' ⟨he, hx⟩ => ?_
  have bel := hx.below
  subst he
  exact ⟨_, rfl, _, _, _, [], _, [], hW', trodAll_mk1 (shut_bool Try.underlying4 _), (trodAll_cons_mk (Below.trod laidOut (by kernel_rfl) (of_decide_eq_true (by kernel_rfl)) k0 bel lt0) (trodAll_cons_mk (Below.trod laidOut (by kernel_rfl) (of_decide_eq_true (by kernel_rfl)) k1 bel lt1) trodAll_mk0)), rfl, bel.frame _, fun h => by cases h⟩

theorem proved : Rows.FnExactJoinTracksSaid :=
  OpenClaim.holds_of_wide 7 Try.f7 rfl rfl rfl rfl rfl rfl rfl ⟨rfl, rfl, rfl, rfl, rfl⟩ rfl rfl rfl rfl rfl (by kernel_rfl) Try.func7 (by kernel_rfl)
    (of_decide_eq_true (by kernel_rfl)) (by unfold Func.isWrapper; first | (rw [if_pos (by decide +kernel)]; kernel_rfl) | (rw [if_neg (by decide +kernel)]; exact ⟨rfl, rfl⟩))
    (fun os started H enc _ => lifted os started H enc)

end Go.Proofs.Ytnjfhhjhdammeaa.fnExactJoinTracks
