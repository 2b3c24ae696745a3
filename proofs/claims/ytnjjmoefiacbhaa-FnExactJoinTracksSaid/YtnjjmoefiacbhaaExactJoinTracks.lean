import Derived.Test.YtnjjmoefiacbhaaJoin2
import Derived.Test.YtnjjmoefiacbhaaMMark
import Derived.Test.YtnjjmoefiacbhaaOpnT
import Derived.Deep.DeepCutAuto
import Derived.ChangeOld
import Derived.Below
import Derived.Lib.SmallJoins
namespace Go.Proofs.Ytnjjmoefiacbhaa.fnExactJoinTracks
open Go.ChangeShapes Go.WideShapes Go.ChangeAt Go.RowKit
open Go.Proofs.Ytnjjmoefiacbhaa.Kit Go.Proofs.Ytnjjmoefiacbhaa.Pts Go.Proofs.Ytnjjmoefiacbhaa.Seg Go.Proofs.Ytnjjmoefiacbhaa.Trk
set_option linter.unusedVariables false
set_option linter.unusedSimpArgs false
set_option maxRecDepth 100000 in
set_option maxHeartbeats 8000000 in
theorem walk (a : Option Addr) (cap : Nat) (fs : List F3) (b : Option Addr) (cap' : Nat) (gs : List F3) (w : World) (hf : Fxs w a fs) (hg : Fxs w b gs) : Calls Try.prog 3 #[Tr (.slice a fs.length cap), Tr (.slice b gs.length cap')] w fun e w' => e = .returned (.bool true) ∧ Ext w w' := by
  have HF := Lib.hid hf
  have HG := Lib.hid hg
  have HM := Lib.hid (And.intro hf.1 hg.1)
  clear hf hg
  by_cases hl : (1048576 : Int) - fs.length < 0
  · have H := Lib.hid (szL_neg hl)
    go_enter Try.func3, Try.ntmps3
    go_wp2_with (go_at_call 5; refine (szTrack_any _ _ _ _ _ HM.out.1 (by decide) (by decide)).mono ?_; rw [H.out]; rintro e w1 ⟨rfl, h1⟩)
    go_ret
    exact ⟨rfl, (by repeat (first | exact Ext.refl _ | assumption | apply Ext.alloc | apply Ext.drew | (refine Ext.trans ?_ (by assumption)) | (refine Ext.setNew ?_ (by simp <;> omega) _)))⟩
  have H1 := Lib.hid (szL_pos hl)
  have hl1 : decide ((1048576 : Int) - fs.length < 0) = false := decide_eq_false hl
  by_cases hk : (1048576 : Int) - fs.length - gs.length < 0
  · have H := Lib.hid (szL_neg hk)
    go_enter Try.func3, Try.ntmps3
    go_wp2_with fail
    refine (szTrack_any _ _ _ _ _ HM.out.1 (by decide) (by decide)).mono ?_
    rw [H1.out]
    rintro e w1 ⟨rfl, h1⟩
    have bu : w1.cell? ⟨w.heap.size + 1, 0, none⟩ = some (.slice b gs.length cap') := h1.cellOf (boxed 0 rfl (by simp))
    go_wp2_with fail
    refine (szTrack_any _ _ _ _ _ HM.out.2 (by omega) (by omega)).mono ?_
    rw [H.out]
    rintro e w2 ⟨rfl, h2⟩
    go_wp2
    go_ret
    exact ⟨rfl, ((((Ext.refl w).alloc _).alloc _).trans h1).trans h2⟩
  · have H := Lib.hid (szL_pos hk)
    have hl2 : decide ((1048576 : Int) - fs.length - gs.length < 0) = false := decide_eq_false hk
    have HL := Lib.hid (show fs.length ≤ 1048576 ∧ gs.length ≤ 1048576 by omega)
    obtain ⟨rs, hrs⟩ : ∃ rs, rs = joF fs gs := ⟨_, rfl⟩
    obtain ⟨ck, hck⟩ : ∃ ck, ck = joC fs gs := ⟨_, rfl⟩
    have HR := Lib.hid (show rs.length ≤ 42 by rw [hrs]; exact Nat.le_trans (joF_len _ _) (by omega))
    have KS := Lib.hid (fun (a b : Option Addr) (cap cap' : Nat) (w : World) (hf : Fxs w a fs) (hg : Fxs w b gs) (hc : gs.length ≤ cap') => join_spec a b cap cap' fs gs w hf hg hc)
    have KI := Lib.hid (fun (a b : Option Addr) (cap cap' : Nat) (w : World) (hf : Fxs w a fs) (hg : Fxs w b gs) (hc : gs.length ≤ cap') => join_impl a b cap cap' fs gs w hf hg hc)
    rw [← hrs, ← hck] at KS KI
    clear hrs hck
    go_enter Try.func3, Try.ntmps3
    go_wp2_with fail
    refine (szTrack_any _ _ _ _ _ HM.out.1 (by decide) (by decide)).mono ?_
    rw [H1.out]
    rintro e w1 ⟨rfl, h1⟩
    have bt : w1.cell? ⟨w.heap.size, 0, none⟩ = some (.slice a fs.length cap) := h1.cellOf (((Ext.refl _).alloc _).cellOf (boxed 0 rfl rfl))
    have bu : w1.cell? ⟨w.heap.size + 1, 0, none⟩ = some (.slice b gs.length cap') := h1.cellOf (boxed 0 rfl (by simp))
    replace h1 := (((Ext.refl w).alloc _).alloc _).trans h1
    go_wp2_with fail
    refine (szTrack_any _ _ _ _ _ HM.out.2 (by omega) (by omega)).mono ?_
    rw [H.out]
    rintro e w2 ⟨rfl, h2⟩
    replace bt := h2.cellOf bt
    replace bu := h2.cellOf bu
    have X := Lib.hid (h1.trans h2)
    have zw := World.block_lt_of_cell? w2 _ bt
    have zu := World.block_lt_of_cell? w2 _ bu
    simp at zw zu
    clear h1 h2
    have e0 : ∀ w', Ext w2 w' → w'.cell? ⟨w.heap.size, 0, none⟩ = some (.slice a fs.length cap) := fun w' h => h.cellOf bt
    have e1 : ∀ w', Ext w2 w' → w'.cell? ⟨w.heap.size + 1, 0, none⟩ = some (.slice b gs.length cap') := fun w' h => h.cellOf bu
    go_upto_region 8 with fail
    go_cut [6, 7] (fun s t wx => (∃ (B : Nat) (a0 : Option Addr) (cap0 : Nat), s = .pointer (some ⟨B, 0, none⟩) ∧ wx.cell? ⟨B, 0, none⟩ = some (.slice a0 rs.length cap0) ∧ Fxs wx a0 rs ∧ w2.heap.size ≤ B) ∧ t = .int .i64 ck ∧ Ext w2 wx)
    case first =>
        refine wp_region_held_drew (S := fun w' => Ext w2 w') (by kernel_rfl) (by (try dsimp only); exact (Ext.refl _).drew) (fun hHeld => ?_)
        (refine Ord.k 0 28 (v := ?_) ?_ ?_; rotate_left; (intro w h; (try dsimp only at h); go_simp; (try with_reducible rfl)); (try simp only [Act.put, Ord.a, Ord.b, Ord.c])); (refine Ord.k 2 30 (v := ?_) ?_ ?_; rotate_left; (intro w h; (try dsimp only at h); go_simp; (try with_reducible rfl)); (try simp only [Act.put, Ord.a, Ord.b, Ord.c]))
        have hE : Ext w2 w2.drew := (Ext.refl w2).drew
        obtain ⟨V0, hV0⟩ : ∃ V0, V0 = w2.drew := ⟨_, rfl⟩
        rw [← hV0] at hE hHeld ⊢
        clear hV0 e0 e1
        refine wpAnyH_ready (rs := [1, 8]) (by kernel_rfl) (by simp) ?_
        refine (AllReadyH.cons rfl (fun K hK => ?_) (AllReadyH.cons rfl (fun K hK => ?_) AllReadyH.nil))
        · go_simp
          go_at_call 7
          refine (toTrack_any _ _ _ _ (HF.out.ext (X.out.trans hE)) HL.out.1).mono ?_
          rintro e V1 ⟨B1, rfl, -, O1, hy⟩
          go_wp2_with fail
          have zy := Ext.size hy
          have hE' := hE.trans hy
          refine hK.out _ _ hE' (fun hHeld => ?_)
          clear hK K
          (try simp only [Act.put, Ord.a, Ord.b, Ord.c])
          replace O1 := Lib.hid O1
          replace hE := hE'
          clear hE' hy
          refine wpAnyH_ready (rs := [3, 8]) (by kernel_rfl) (by simp) ?_
          refine (AllReadyH.cons rfl (fun K hK => ?_) (AllReadyH.cons rfl (fun K hK => ?_) AllReadyH.nil))
          · go_simp
            go_at_call 7
            refine (toTrack_any _ _ _ _ (HG.out.ext (X.out.trans hE)) HL.out.2).mono ?_
            rintro e V2 ⟨B2, rfl, -, O2, hy⟩
            go_wp2_with fail
            have zy := Ext.size hy
            have hE' := hE.trans hy
            refine hK.out _ _ hE' (fun hHeld => ?_)
            clear hK K
            (try simp only [Act.put, Ord.a, Ord.b, Ord.c])
            replace O2 := Lib.hid O2
            replace O1 := Lib.hid (O1.out.ext hy)
            replace hE := hE'
            clear hE' hy
            refine wpAnyH_ready (rs := [4, 8]) (by kernel_rfl) (by simp) ?_
            refine (AllReadyH.cons rfl (fun K hK => ?_) (AllReadyH.cons rfl (fun K hK => ?_) AllReadyH.nil))
            · go_simp
              go_at_call 6
              refine (KS.out _ _ _ _ _ (O1.out.fxs HM.out.1) (O2.out.fxs HM.out.2) (Nat.le_refl _)).mono ?_
              rintro e V3 ⟨v0, rfl, OV, hy⟩
              obtain ⟨a0, cap0, rfl, -, -, -⟩ := OV.fxs
              replace OV := Lib.hid OV
              go_wp2_with fail
              have zy := Ext.size hy
              have hE' := hE.trans hy
              refine hK.out _ _ hE' (fun hHeld => ?_)
              clear hK K
              (try simp only [Act.put, Ord.a, Ord.b, Ord.c])
              replace hE := hE'
              clear hE' hy
              (refine Ord.k 5 27 (v := ?_) ?_ ?_; rotate_left; (intro w h; (try dsimp only at h); go_simp; (try with_reducible rfl)); (try simp only [Act.put, Ord.a, Ord.b, Ord.c])); (refine Ord.k 6 33 (v := ?_) ?_ ?_; rotate_left; (intro w h; (try dsimp only at h); go_simp; (try with_reducible rfl)); (try simp only [Act.put, Ord.a, Ord.b, Ord.c])); (refine Ord.k 7 34 (v := ?_) ?_ ?_; rotate_left; (intro w h; (try dsimp only at h); go_simp; (try with_reducible rfl)); (try simp only [Act.put, Ord.a, Ord.b, Ord.c]))
              refine wpAnyH_ready (rs := [8]) (by kernel_rfl) (by simp) ?_
              refine (AllReadyH.cons rfl (fun K hK => ?_) AllReadyH.nil)
              · go_simp
                have hE' : Ext w2 (V3.alloc (.cells #[.slice none 0 0] 28)) := hE.alloc _
                refine hK.out _ _ hE' (fun hHeld => ?_)
                clear hK K
                (try simp only [Act.put, Ord.a, Ord.b, Ord.c])
                have PB := Box.new (w := V3) (n := V3.heap.size) (vs := [.slice none 0 0]) (t := 28) rfl
                have zA := Ext.size hE
                have yA : V3.heap.size < (V3.alloc (.cells #[.slice none 0 0] 28)).heap.size := by simp
                have NB := Lib.hid (fun (e : (Value.slice a0 rs.length cap0).ownBlock = some V3.heap.size) => show False by have := (World.ownsRow.lt OV.out _ e).2; omega)
                replace OV := Lib.hid (OV.out.ext ((Ext.refl V3).alloc (.cells #[.slice none 0 0] 28)))
                replace hE := hE'
                clear hE'
                generalize V3.alloc (.cells #[.slice none 0 0] 28) = V4 at *
                refine wpAnyH_ready (rs := [9]) (by kernel_rfl) (by simp) ?_
                refine AllReadyH.cons rfl (fun K hK => ?_) AllReadyH.nil
                obtain ⟨r0, rf⟩ := PB 0 _ rfl
                go_simp
                have hE' : Ext w2 (V4.setCell ⟨V3.heap.size, 0, none⟩ (.slice a0 rs.length cap0)) := hE.setNew (by simp; omega) _
                refine hK.out _ _ hE' (fun hHeld => ?_)
                clear hK K
                (try simp only [Act.put, Ord.a, Ord.b, Ord.c])
                obtain ⟨_, _, e1, -, FF, -⟩ := (OV.out.chg ((Chg.refl V3.heap.size V4).setCell 0 (.slice a0 rs.length cap0)) NB.out).fxs
                cases e1
                have CC := World.cell?_setCell_same (V4) ⟨V3.heap.size, 0, none⟩ (.slice a0 rs.length cap0) r0
                (refine Ord.k 10 7 (v := ?_) ?_ ?_; rotate_left; (intro w h; (try dsimp only at h); go_simp; (try with_reducible rfl)); (try simp only [Act.put, Ord.a, Ord.b, Ord.c]))
                refine wpAnyH_done (by kernel_rfl) ?_ _
                go_wp2_with fail
                go_meet
                exact ⟨⟨_, _, _, rfl, CC, FF, by omega⟩, rfl, hE'⟩
            · go_simp
              have hE' : Ext w2 (V2.alloc (.cells #[.slice none 0 0] 28)) := hE.alloc _
              refine hK.out _ _ hE' (fun hHeld => ?_)
              clear hK K
              (try simp only [Act.put, Ord.a, Ord.b, Ord.c])
              have PB := Box.new (w := V2) (n := V2.heap.size) (vs := [.slice none 0 0]) (t := 28) rfl
              have zA := Ext.size hE
              have yA : V2.heap.size < (V2.alloc (.cells #[.slice none 0 0] 28)).heap.size := by simp
              replace O1 := Lib.hid (O1.out.ext ((Ext.refl V2).alloc (.cells #[.slice none 0 0] 28)))
              replace O2 := Lib.hid (O2.out.ext ((Ext.refl V2).alloc (.cells #[.slice none 0 0] 28)))
              replace hE := hE'
              clear hE'
              generalize V2.alloc (.cells #[.slice none 0 0] 28) = V3 at *
              refine wpAnyH_ready (rs := [4]) (by kernel_rfl) (by simp) ?_
              refine (AllReadyH.cons rfl (fun K hK => ?_) AllReadyH.nil)
              · go_simp
                go_at_call 6
                refine (KS.out _ _ _ _ _ (O1.out.fxs HM.out.1) (O2.out.fxs HM.out.2) (Nat.le_refl _)).mono ?_
                rintro e V4 ⟨v0, rfl, OV, hy⟩
                obtain ⟨a0, cap0, rfl, -, -, -⟩ := OV.fxs
                have NB := Lib.hid (OV.block (B := V2.heap.size) (by omega))
                replace OV := Lib.hid OV
                go_wp2_with fail
                have zy := Ext.size hy
                have hE' := hE.trans hy
                refine hK.out _ _ hE' (fun hHeld => ?_)
                clear hK K
                (try simp only [Act.put, Ord.a, Ord.b, Ord.c])
                replace PB := Box.ext PB hy
                replace hE := hE'
                clear hE' hy
                (refine Ord.k 5 27 (v := ?_) ?_ ?_; rotate_left; (intro w h; (try dsimp only at h); go_simp; (try with_reducible rfl)); (try simp only [Act.put, Ord.a, Ord.b, Ord.c])); (refine Ord.k 6 33 (v := ?_) ?_ ?_; rotate_left; (intro w h; (try dsimp only at h); go_simp; (try with_reducible rfl)); (try simp only [Act.put, Ord.a, Ord.b, Ord.c])); (refine Ord.k 7 34 (v := ?_) ?_ ?_; rotate_left; (intro w h; (try dsimp only at h); go_simp; (try with_reducible rfl)); (try simp only [Act.put, Ord.a, Ord.b, Ord.c]))
                refine wpAnyH_ready (rs := [9]) (by kernel_rfl) (by simp) ?_
                refine AllReadyH.cons rfl (fun K hK => ?_) AllReadyH.nil
                obtain ⟨r0, rf⟩ := PB 0 _ rfl
                go_simp
                have hE' : Ext w2 (V4.setCell ⟨V2.heap.size, 0, none⟩ (.slice a0 rs.length cap0)) := hE.setNew (by simp; omega) _
                refine hK.out _ _ hE' (fun hHeld => ?_)
                clear hK K
                (try simp only [Act.put, Ord.a, Ord.b, Ord.c])
                obtain ⟨_, _, e1, -, FF, -⟩ := (OV.out.chg ((Chg.refl V2.heap.size V4).setCell 0 (.slice a0 rs.length cap0)) NB.out).fxs
                cases e1
                have CC := World.cell?_setCell_same (V4) ⟨V2.heap.size, 0, none⟩ (.slice a0 rs.length cap0) r0
                (refine Ord.k 10 7 (v := ?_) ?_ ?_; rotate_left; (intro w h; (try dsimp only at h); go_simp; (try with_reducible rfl)); (try simp only [Act.put, Ord.a, Ord.b, Ord.c]))
                refine wpAnyH_done (by kernel_rfl) ?_ _
                go_wp2_with fail
                go_meet
                exact ⟨⟨_, _, _, rfl, CC, FF, by omega⟩, rfl, hE'⟩
          · go_simp
            have hE' : Ext w2 (V1.alloc (.cells #[.slice none 0 0] 28)) := hE.alloc _
            refine hK.out _ _ hE' (fun hHeld => ?_)
            clear hK K
            (try simp only [Act.put, Ord.a, Ord.b, Ord.c])
            have PB := Box.new (w := V1) (n := V1.heap.size) (vs := [.slice none 0 0]) (t := 28) rfl
            have zA := Ext.size hE
            have yA : V1.heap.size < (V1.alloc (.cells #[.slice none 0 0] 28)).heap.size := by simp
            replace O1 := Lib.hid (O1.out.ext ((Ext.refl V1).alloc (.cells #[.slice none 0 0] 28)))
            replace hE := hE'
            clear hE'
            generalize V1.alloc (.cells #[.slice none 0 0] 28) = V2 at *
            refine wpAnyH_ready (rs := [3]) (by kernel_rfl) (by simp) ?_
            refine (AllReadyH.cons rfl (fun K hK => ?_) AllReadyH.nil)
            · go_simp
              go_at_call 7
              refine (toTrack_any _ _ _ _ (HG.out.ext (X.out.trans hE)) HL.out.2).mono ?_
              rintro e V3 ⟨B2, rfl, -, O2, hy⟩
              go_wp2_with fail
              have zy := Ext.size hy
              have hE' := hE.trans hy
              refine hK.out _ _ hE' (fun hHeld => ?_)
              clear hK K
              (try simp only [Act.put, Ord.a, Ord.b, Ord.c])
              replace O2 := Lib.hid O2
              replace O1 := Lib.hid (O1.out.ext hy)
              replace PB := Box.ext PB hy
              replace hE := hE'
              clear hE' hy
              refine wpAnyH_ready (rs := [4]) (by kernel_rfl) (by simp) ?_
              refine (AllReadyH.cons rfl (fun K hK => ?_) AllReadyH.nil)
              · go_simp
                go_at_call 6
                refine (KS.out _ _ _ _ _ (O1.out.fxs HM.out.1) (O2.out.fxs HM.out.2) (Nat.le_refl _)).mono ?_
                rintro e V4 ⟨v0, rfl, OV, hy⟩
                obtain ⟨a0, cap0, rfl, -, -, -⟩ := OV.fxs
                have NB := Lib.hid (OV.block (B := V1.heap.size) (by omega))
                replace OV := Lib.hid OV
                go_wp2_with fail
                have zy := Ext.size hy
                have hE' := hE.trans hy
                refine hK.out _ _ hE' (fun hHeld => ?_)
                clear hK K
                (try simp only [Act.put, Ord.a, Ord.b, Ord.c])
                replace PB := Box.ext PB hy
                replace hE := hE'
                clear hE' hy
                (refine Ord.k 5 27 (v := ?_) ?_ ?_; rotate_left; (intro w h; (try dsimp only at h); go_simp; (try with_reducible rfl)); (try simp only [Act.put, Ord.a, Ord.b, Ord.c])); (refine Ord.k 6 33 (v := ?_) ?_ ?_; rotate_left; (intro w h; (try dsimp only at h); go_simp; (try with_reducible rfl)); (try simp only [Act.put, Ord.a, Ord.b, Ord.c])); (refine Ord.k 7 34 (v := ?_) ?_ ?_; rotate_left; (intro w h; (try dsimp only at h); go_simp; (try with_reducible rfl)); (try simp only [Act.put, Ord.a, Ord.b, Ord.c]))
                refine wpAnyH_ready (rs := [9]) (by kernel_rfl) (by simp) ?_
                refine AllReadyH.cons rfl (fun K hK => ?_) AllReadyH.nil
                obtain ⟨r0, rf⟩ := PB 0 _ rfl
                go_simp
                have hE' : Ext w2 (V4.setCell ⟨V1.heap.size, 0, none⟩ (.slice a0 rs.length cap0)) := hE.setNew (by simp; omega) _
                refine hK.out _ _ hE' (fun hHeld => ?_)
                clear hK K
                (try simp only [Act.put, Ord.a, Ord.b, Ord.c])
                obtain ⟨_, _, e1, -, FF, -⟩ := (OV.out.chg ((Chg.refl V1.heap.size V4).setCell 0 (.slice a0 rs.length cap0)) NB.out).fxs
                cases e1
                have CC := World.cell?_setCell_same (V4) ⟨V1.heap.size, 0, none⟩ (.slice a0 rs.length cap0) r0
                (refine Ord.k 10 7 (v := ?_) ?_ ?_; rotate_left; (intro w h; (try dsimp only at h); go_simp; (try with_reducible rfl)); (try simp only [Act.put, Ord.a, Ord.b, Ord.c]))
                refine wpAnyH_done (by kernel_rfl) ?_ _
                go_wp2_with fail
                go_meet
                exact ⟨⟨_, _, _, rfl, CC, FF, by omega⟩, rfl, hE'⟩
        · go_simp
          have hE' : Ext w2 (V0.alloc (.cells #[.slice none 0 0] 28)) := hE.alloc _
          refine hK.out _ _ hE' (fun hHeld => ?_)
          clear hK K
          (try simp only [Act.put, Ord.a, Ord.b, Ord.c])
          have PB := Box.new (w := V0) (n := V0.heap.size) (vs := [.slice none 0 0]) (t := 28) rfl
          have zA := Ext.size hE
          have yA : V0.heap.size < (V0.alloc (.cells #[.slice none 0 0] 28)).heap.size := by simp
          replace hE := hE'
          clear hE'
          generalize V0.alloc (.cells #[.slice none 0 0] 28) = V1 at *
          refine wpAnyH_ready (rs := [1]) (by kernel_rfl) (by simp) ?_
          refine (AllReadyH.cons rfl (fun K hK => ?_) AllReadyH.nil)
          · go_simp
            go_at_call 7
            refine (toTrack_any _ _ _ _ (HF.out.ext (X.out.trans hE)) HL.out.1).mono ?_
            rintro e V2 ⟨B1, rfl, -, O1, hy⟩
            go_wp2_with fail
            have zy := Ext.size hy
            have hE' := hE.trans hy
            refine hK.out _ _ hE' (fun hHeld => ?_)
            clear hK K
            (try simp only [Act.put, Ord.a, Ord.b, Ord.c])
            replace O1 := Lib.hid O1
            replace PB := Box.ext PB hy
            replace hE := hE'
            clear hE' hy
            refine wpAnyH_ready (rs := [3]) (by kernel_rfl) (by simp) ?_
            refine (AllReadyH.cons rfl (fun K hK => ?_) AllReadyH.nil)
            · go_simp
              go_at_call 7
              refine (toTrack_any _ _ _ _ (HG.out.ext (X.out.trans hE)) HL.out.2).mono ?_
              rintro e V3 ⟨B2, rfl, -, O2, hy⟩
              go_wp2_with fail
              have zy := Ext.size hy
              have hE' := hE.trans hy
              refine hK.out _ _ hE' (fun hHeld => ?_)
              clear hK K
              (try simp only [Act.put, Ord.a, Ord.b, Ord.c])
              replace O2 := Lib.hid O2
              replace O1 := Lib.hid (O1.out.ext hy)
              replace PB := Box.ext PB hy
              replace hE := hE'
              clear hE' hy
              refine wpAnyH_ready (rs := [4]) (by kernel_rfl) (by simp) ?_
              refine (AllReadyH.cons rfl (fun K hK => ?_) AllReadyH.nil)
              · go_simp
                go_at_call 6
                refine (KS.out _ _ _ _ _ (O1.out.fxs HM.out.1) (O2.out.fxs HM.out.2) (Nat.le_refl _)).mono ?_
                rintro e V4 ⟨v0, rfl, OV, hy⟩
                obtain ⟨a0, cap0, rfl, -, -, -⟩ := OV.fxs
                have NB := Lib.hid (OV.block (B := V0.heap.size) (by omega))
                replace OV := Lib.hid OV
                go_wp2_with fail
                have zy := Ext.size hy
                have hE' := hE.trans hy
                refine hK.out _ _ hE' (fun hHeld => ?_)
                clear hK K
                (try simp only [Act.put, Ord.a, Ord.b, Ord.c])
                replace PB := Box.ext PB hy
                replace hE := hE'
                clear hE' hy
                (refine Ord.k 5 27 (v := ?_) ?_ ?_; rotate_left; (intro w h; (try dsimp only at h); go_simp; (try with_reducible rfl)); (try simp only [Act.put, Ord.a, Ord.b, Ord.c])); (refine Ord.k 6 33 (v := ?_) ?_ ?_; rotate_left; (intro w h; (try dsimp only at h); go_simp; (try with_reducible rfl)); (try simp only [Act.put, Ord.a, Ord.b, Ord.c])); (refine Ord.k 7 34 (v := ?_) ?_ ?_; rotate_left; (intro w h; (try dsimp only at h); go_simp; (try with_reducible rfl)); (try simp only [Act.put, Ord.a, Ord.b, Ord.c]))
                refine wpAnyH_ready (rs := [9]) (by kernel_rfl) (by simp) ?_
                refine AllReadyH.cons rfl (fun K hK => ?_) AllReadyH.nil
                obtain ⟨r0, rf⟩ := PB 0 _ rfl
                go_simp
                have hE' : Ext w2 (V4.setCell ⟨V0.heap.size, 0, none⟩ (.slice a0 rs.length cap0)) := hE.setNew (by simp; omega) _
                refine hK.out _ _ hE' (fun hHeld => ?_)
                clear hK K
                (try simp only [Act.put, Ord.a, Ord.b, Ord.c])
                obtain ⟨_, _, e1, -, FF, -⟩ := (OV.out.chg ((Chg.refl V0.heap.size V4).setCell 0 (.slice a0 rs.length cap0)) NB.out).fxs
                cases e1
                have CC := World.cell?_setCell_same (V4) ⟨V0.heap.size, 0, none⟩ (.slice a0 rs.length cap0) r0
                (refine Ord.k 10 7 (v := ?_) ?_ ?_; rotate_left; (intro w h; (try dsimp only at h); go_simp; (try with_reducible rfl)); (try simp only [Act.put, Ord.a, Ord.b, Ord.c]))
                refine wpAnyH_done (by kernel_rfl) ?_ _
                go_wp2_with fail
                go_meet
                exact ⟨⟨_, _, _, rfl, CC, FF, by omega⟩, rfl, hE'⟩
    case rest =>
      clear e0 e1
      obtain ⟨⟨B0, a0, cap0, rfl, s0, F0, zB⟩, rfl, h⟩ := hcut
      obtain ⟨w3, rfl⟩ : ∃ w3, w3 = wc := ⟨_, rfl⟩
      have z0 := World.block_lt_of_cell? w3 _ s0
      simp at z0
      replace bt := h.cellOf bt
      replace bu := h.cellOf bu
      have X4 := Lib.hid (X.out.trans h)
      have EX := Lib.hid (Ext.refl w3)
      replace F0 := Lib.hid F0
      have z3 := Ext.size h
      clear h X
      go_wp2_with fail
      refine (toTrack_any _ _ _ _ (HF.out.ext (X4.out.trans EX.out)) HL.out.1).mono ?_
      rintro e w5 ⟨B5, rfl, l5, O5, h⟩
      have n5 : 0 < fs.length → B5 < w5.heap.size := fun h0 => World.block_lt_of_cell? w5 _ (O5 0 h0).1.1
      replace bt := h.cellOf bt
      replace bu := h.cellOf bu
      replace s0 := h.cellOf s0
      replace EX := Lib.hid (EX.out.trans h)
      have P5 := Lib.hid O5
      have z5 := Ext.size h
      clear h O5
      have bu1 := one_on bu
      go_wp2_with fail
      clear bu1
      refine (toTrack_any _ _ _ _ (HG.out.ext (X4.out.trans (EX.out.alloc _))) HL.out.2).mono ?_
      rintro e w6 ⟨B6, rfl, l6, O6, h⟩
      have n6 : 0 < gs.length → B6 < w6.heap.size := fun h0 => World.block_lt_of_cell? w6 _ (O6 0 h0).1.1
      have x0 : w6.cell? ⟨w5.heap.size, 0, none⟩ = some (.slice (some ⟨B5, 0, none⟩) fs.length fs.length) := h.cellOf (boxed 0 rfl rfl)
      have z6 := Ext.size h
      simp at z6 l6
      replace h := ((Ext.refl w5).alloc (.cells #[.slice (some ⟨B5, 0, none⟩) fs.length fs.length] 28)).trans h
      replace bt := h.cellOf bt
      replace bu := h.cellOf bu
      replace s0 := h.cellOf s0
      replace EX := Lib.hid (EX.out.trans h)
      replace P5 := Lib.hid (P5.out.ext h)
      have P6 := Lib.hid O6
      clear h O6
      have x01 := one_on x0
      go_wp2_with fail
      clear x01
      refine (KI.out _ _ _ _ _ ((P5.out.fxs HM.out.1).ext (by repeat (first | exact Ext.refl _ | assumption | apply Ext.alloc | apply Ext.drew | (refine Ext.trans ?_ (by assumption)) | (refine Ext.setNew ?_ (by simp <;> omega) _)))) ((P6.out.fxs HM.out.2).ext (by repeat (first | exact Ext.refl _ | assumption | apply Ext.alloc | apply Ext.drew | (refine Ext.trans ?_ (by assumption)) | (refine Ext.setNew ?_ (by simp <;> omega) _)))) (Nat.le_refl _)).mono ?_
      rintro e w7 ⟨v1, rfl, O1, h⟩
      have x1 : w7.cell? ⟨w6.heap.size, 0, none⟩ = some (.slice (some ⟨B6, 0, none⟩) gs.length gs.length) := h.cellOf (boxed 0 rfl rfl)
      have z7 := Ext.size h
      simp at O1 z7
      replace h := ((Ext.refl w6).alloc (.cells #[.slice (some ⟨B6, 0, none⟩) gs.length gs.length] 28)).trans h
      replace bt := h.cellOf bt
      replace bu := h.cellOf bu
      replace s0 := h.cellOf s0
      replace x0 := h.cellOf x0
      replace EX := Lib.hid (EX.out.trans h)
      replace P5 := Lib.hid (P5.out.ext h)
      replace P6 := Lib.hid (P6.out.ext h)
      have Q1 := Lib.hid (fun (k : Nat) (hk : k < w6.heap.size + 1 ∨ w7.heap.size ≤ k) (e : v1.ownBlock = some k) => show False by have := World.ownsRow.lt O1 k e; omega)
      obtain ⟨a1, cap1, rfl, -, F1, -⟩ := O1.fxs
      have P1 := Lib.hid O1
      have s01 := one_on s0
      clear h O1
      go_wp2_with fail
      clear s01
      refine (eqTrack_same _ _ _ _ _ _ (F1.ext (by repeat (first | exact Ext.refl _ | assumption | apply Ext.alloc | apply Ext.drew | (refine Ext.trans ?_ (by assumption)) | (refine Ext.setNew ?_ (by simp <;> omega) _)))) (F0.out.ext (EX.out.trans (by repeat (first | exact Ext.refl _ | assumption | apply Ext.alloc | apply Ext.drew | (refine Ext.trans ?_ (by assumption)) | (refine Ext.setNew ?_ (by simp <;> omega) _)))))).mono ?_
      rintro e w8 ⟨rfl, h⟩
      have g1 : w8.cell? ⟨w7.heap.size, 0, none⟩ = some (.slice a1 rs.length cap1) := h.cellOf (boxed 0 rfl rfl)
      replace h := ((Ext.refl w7).alloc (.cells #[.slice a1 rs.length cap1] 28)).trans h
      replace bt := h.cellOf bt
      replace bu := h.cellOf bu
      replace s0 := h.cellOf s0
      replace x0 := h.cellOf x0
      replace x1 := h.cellOf x1
      replace EX := Lib.hid (EX.out.trans h)
      replace P5 := Lib.hid (P5.out.ext h)
      replace P6 := Lib.hid (P6.out.ext h)
      replace P1 := Lib.hid (P1.out.ext h)
      clear h F1
      have eb : ∀ w', Ext w8 w' → w'.cell? ⟨w.heap.size, 0, none⟩ = some (.slice a fs.length cap) := fun w' h => h.cellOf bt
      have ex : ∀ w', Ext w8 w' → w'.cell? ⟨w5.heap.size, 0, none⟩ = some (.slice (some ⟨B5, 0, none⟩) fs.length fs.length) := fun w' h => h.cellOf x0
      go_wp2_with fail
      refine wp_region_held_drew (S := (fun w' => Ext w8 w')) (by kernel_rfl) (by (try dsimp only); first | go_keep | exact (Ext.refl _).drew | exact Res.new2.drew | exact Res.new4.drew | exact ResB.drew (by assumption) | exact ResC.drew (by assumption) | assumption | exact Ext.drew (by assumption) | exact Res.drew (by assumption)) (fun hHeld => ?_)
      (refine Ord.k 0 54 (v := ?_) ?_ ?_; rotate_left; (intro w h; (try dsimp only at h); go_simp; (try with_reducible rfl)); (try simp only [Act.put, Ord.a, Ord.b, Ord.c]))
      (refine Ord.k 1 55 (v := ?_) ?_ ?_; rotate_left; (intro w h; (try dsimp only at h); go_simp; (try with_reducible rfl)); (try simp only [Act.put, Ord.a, Ord.b, Ord.c]))
      (refine wpAnyH_ready (rs := [2]) (by kernel_rfl) (by simp) ?_; refine AllReadyH.cons rfl (fun K hK => ?_) AllReadyH.nil; go_simp; (first | (go_at_call 7; refine (toTrack_any _ _ _ _ (HF.out.ext (X4.out.trans (EX.out.trans (by first | assumption | exact (Ext.refl _).drew)))) HL.out.1).mono ?_; rintro e w9 ⟨B9, rfl, -, O9, hy⟩) | (go_at_call 9; refine (eqTrack_same _ _ _ _ _ _ ((P5.out.ext (by assumption)).fxs HM.out.1) (O9.fxs HM.out.1)).mono ?_; rintro e w10 ⟨rfl, hy⟩)); go_wp2_with fail; (refine hK.out _ _ (by first | assumption | exact Ext.trans (by assumption) hy | exact Res.ext (by assumption) hy | exact ResB.ext (by assumption) hy | exact ResC.ext (by assumption) hy | (go_split_ands; (repeat' apply And.intro) <;> exact Ext.cellOf hy (by assumption))) (fun hHeld => ?_)); clear hK K; (try simp only [Act.put, Ord.a, Ord.b, Ord.c]))
      (refine wpAnyH_ready (rs := [3]) (by kernel_rfl) (by simp) ?_; refine AllReadyH.cons rfl (fun K hK => ?_) AllReadyH.nil; go_simp; (first | (go_at_call 7; refine (toTrack_any _ _ _ _ (HF.out.ext (X4.out.trans (EX.out.trans (by first | assumption | exact (Ext.refl _).drew)))) HL.out.1).mono ?_; rintro e w9 ⟨B9, rfl, -, O9, hy⟩) | (go_at_call 9; refine (eqTrack_same _ _ _ _ _ _ ((P5.out.ext (by assumption)).fxs HM.out.1) (O9.fxs HM.out.1)).mono ?_; rintro e w10 ⟨rfl, hy⟩)); go_wp2_with fail; (refine hK.out _ _ (by first | assumption | exact Ext.trans (by assumption) hy | exact Res.ext (by assumption) hy | exact ResB.ext (by assumption) hy | exact ResC.ext (by assumption) hy | (go_split_ands; (repeat' apply And.intro) <;> exact Ext.cellOf hy (by assumption))) (fun hHeld => ?_)); clear hK K; (try simp only [Act.put, Ord.a, Ord.b, Ord.c]))
      (refine Ord.k 4 58 (v := ?_) ?_ ?_; rotate_left; (intro w h; (try dsimp only at h); go_simp; (try with_reducible rfl)); (try simp only [Act.put, Ord.a, Ord.b, Ord.c]))
      refine wpAnyH_done (by kernel_rfl) ?_ _
      have h : Ext w8 w10 := hHeld
      clear hHeld eb ex O9 hy
      replace bt := h.cellOf bt
      replace bu := h.cellOf bu
      replace s0 := h.cellOf s0
      replace x0 := h.cellOf x0
      replace x1 := h.cellOf x1
      replace g1 := h.cellOf g1
      replace EX := Lib.hid (EX.out.trans h)
      replace P5 := Lib.hid (P5.out.ext h)
      replace P6 := Lib.hid (P6.out.ext h)
      replace P1 := Lib.hid (P1.out.ext h)
      clear h
      have eb : ∀ w', Ext w10 w' → w'.cell? ⟨w.heap.size + 1, 0, none⟩ = some (.slice b gs.length cap') := fun w' h => h.cellOf bu
      have ex : ∀ w', Ext w10 w' → w'.cell? ⟨w6.heap.size, 0, none⟩ = some (.slice (some ⟨B6, 0, none⟩) gs.length gs.length) := fun w' h => h.cellOf x1
      go_wp2_with fail
      refine wp_region_held_drew (S := (fun w' => Ext w10 w')) (by kernel_rfl) (by (try dsimp only); first | go_keep | exact (Ext.refl _).drew | exact Res.new2.drew | exact Res.new4.drew | exact ResB.drew (by assumption) | exact ResC.drew (by assumption) | assumption | exact Ext.drew (by assumption) | exact Res.drew (by assumption)) (fun hHeld => ?_)
      (refine Ord.k 0 59 (v := ?_) ?_ ?_; rotate_left; (intro w h; (try dsimp only at h); go_simp; (try with_reducible rfl)); (try simp only [Act.put, Ord.a, Ord.b, Ord.c]))
      (refine Ord.k 1 60 (v := ?_) ?_ ?_; rotate_left; (intro w h; (try dsimp only at h); go_simp; (try with_reducible rfl)); (try simp only [Act.put, Ord.a, Ord.b, Ord.c]))
      (refine wpAnyH_ready (rs := [2]) (by kernel_rfl) (by simp) ?_; refine AllReadyH.cons rfl (fun K hK => ?_) AllReadyH.nil; go_simp; (first | (go_at_call 7; refine (toTrack_any _ _ _ _ (HG.out.ext (X4.out.trans (EX.out.trans (by first | assumption | exact (Ext.refl _).drew)))) HL.out.2).mono ?_; rintro e w11 ⟨B9, rfl, -, O9, hy⟩) | (go_at_call 9; refine (eqTrack_same _ _ _ _ _ _ ((P6.out.ext (by assumption)).fxs HM.out.2) (O9.fxs HM.out.2)).mono ?_; rintro e w12 ⟨rfl, hy⟩)); go_wp2_with fail; (refine hK.out _ _ (by first | assumption | exact Ext.trans (by assumption) hy | exact Res.ext (by assumption) hy | exact ResB.ext (by assumption) hy | exact ResC.ext (by assumption) hy | (go_split_ands; (repeat' apply And.intro) <;> exact Ext.cellOf hy (by assumption))) (fun hHeld => ?_)); clear hK K; (try simp only [Act.put, Ord.a, Ord.b, Ord.c]))
      (refine wpAnyH_ready (rs := [3]) (by kernel_rfl) (by simp) ?_; refine AllReadyH.cons rfl (fun K hK => ?_) AllReadyH.nil; go_simp; (first | (go_at_call 7; refine (toTrack_any _ _ _ _ (HG.out.ext (X4.out.trans (EX.out.trans (by first | assumption | exact (Ext.refl _).drew)))) HL.out.2).mono ?_; rintro e w11 ⟨B9, rfl, -, O9, hy⟩) | (go_at_call 9; refine (eqTrack_same _ _ _ _ _ _ ((P6.out.ext (by assumption)).fxs HM.out.2) (O9.fxs HM.out.2)).mono ?_; rintro e w12 ⟨rfl, hy⟩)); go_wp2_with fail; (refine hK.out _ _ (by first | assumption | exact Ext.trans (by assumption) hy | exact Res.ext (by assumption) hy | exact ResB.ext (by assumption) hy | exact ResC.ext (by assumption) hy | (go_split_ands; (repeat' apply And.intro) <;> exact Ext.cellOf hy (by assumption))) (fun hHeld => ?_)); clear hK K; (try simp only [Act.put, Ord.a, Ord.b, Ord.c]))
      (refine Ord.k 4 63 (v := ?_) ?_ ?_; rotate_left; (intro w h; (try dsimp only at h); go_simp; (try with_reducible rfl)); (try simp only [Act.put, Ord.a, Ord.b, Ord.c]))
      refine wpAnyH_done (by kernel_rfl) ?_ _
      have h : Ext w10 w12 := hHeld
      clear hHeld eb ex O9 hy
      replace bt := h.cellOf bt
      replace bu := h.cellOf bu
      replace s0 := h.cellOf s0
      replace x0 := h.cellOf x0
      replace x1 := h.cellOf x1
      replace g1 := h.cellOf g1
      replace EX := Lib.hid (EX.out.trans h)
      replace P5 := Lib.hid (P5.out.ext h)
      replace P6 := Lib.hid (P6.out.ext h)
      replace P1 := Lib.hid (P1.out.ext h)
      clear h
      have zn : decide ((1 : Int) + 3 * (fs.length : Int) + 3 * (gs.length : Int) < 0) = false := decide_eq_false (by omega)
      have HL2 := Lib.hid (show (0 : Int) ≤ 1 + 3 * (fs.length : Int) ∧ 1 + 3 * (fs.length : Int) ≤ 10000000 by have := HL.out; omega)
      go_wp2_with fail
      refine (markNew_any B5 _ w5.heap.size _ _ _ P5.out HL.out.1 (by decide) (by decide)).mono ?_
      rintro e w13 ⟨rfl, C1, hC, h⟩
      have c1C1 : w3.heap.size ≤ C1 := by rcases hC with ⟨_, rfl⟩ | rfl <;> omega
      have c2C1 : C1 ≤ w5.heap.size := by
        rcases hC with ⟨h0, rfl⟩ | rfl
        · have := n5 h0; omega
        · omega
      clear hC
      replace bt := h.cellOf (by simp; omega) bt
      replace bu := h.cellOf (by simp; omega) bu
      replace s0 := h.cellOf (by simp; omega) s0
      replace g1 := h.cellOf (by simp; omega) g1
      replace x1 := h.cellOf (by simp; omega) x1
      replace EX := Lib.hid (h.ext EX.out (by omega))
      replace P1 := Lib.hid (P1.out.chg h (P1.out.block (by omega)))
      replace P6 := Lib.hid (P6.out.away h (by omega))
      clear h P5 x0
      go_wp2_with fail
      refine (markNew_any B6 _ w6.heap.size _ _ _ P6.out HL.out.2 HL2.out.1 HL2.out.2).mono ?_
      rintro e w14 ⟨rfl, C2, hC, h⟩
      have c1C2 : w5.heap.size + 1 ≤ C2 := by rcases hC with ⟨_, rfl⟩ | rfl <;> omega
      have c2C2 : C2 ≤ w6.heap.size := by
        rcases hC with ⟨h0, rfl⟩ | rfl
        · have := n6 h0; omega
        · omega
      clear hC
      replace bt := h.cellOf (by simp; omega) bt
      replace bu := h.cellOf (by simp; omega) bu
      replace s0 := h.cellOf (by simp; omega) s0
      replace g1 := h.cellOf (by simp; omega) g1
      replace EX := Lib.hid (h.ext EX.out (by omega))
      replace P1 := Lib.hid (P1.out.chg h (P1.out.block (by omega)))
      clear h P6 x1
      obtain ⟨_, _, e1, -, F1, -⟩ := P1.out.fxs
      cases e1
      go_wp2_with fail
      refine (eqTrack_same _ _ _ _ _ _ F1 (F0.out.ext EX.out)).mono ?_
      rintro e w15 ⟨rfl, h⟩
      replace bt := h.cellOf bt
      replace bu := h.cellOf bu
      replace s0 := h.cellOf s0
      replace g1 := h.cellOf g1
      replace EX := Lib.hid (EX.out.trans h)
      replace P1 := Lib.hid (P1.out.ext h)
      clear h F1
      go_wp2_with fail
      refine (markOwn_any _ _ _ _ _ P1.out (by have := HR.out; omega) (by decide) (by decide)).mono ?_
      rintro e w17 ⟨rfl, HH, h⟩
      replace bt := h.cellOf (fun e => Q1.out _ (.inl (by simp; omega)) e) bt
      replace bu := h.cellOf (fun e => Q1.out _ (.inl (by simp; omega)) e) bu
      replace s0 := h.cellOf (fun e => Q1.out _ (.inl (by simp; omega)) e) s0
      replace g1 := h.cellOf (fun e => Q1.out _ (.inr (by simp)) e) g1
      replace EX := Lib.hid (h.ext EX.out (by omega))
      replace HH := Lib.hid HH
      clear h P1
      have zg : decide ((1 : Int) + 3 * (rs.length : Int) < 0) = false := decide_eq_false (by omega)
      have HR2 := Lib.hid (show rs.length ≤ 1048576 by have := HR.out; omega)
      go_wp2_with fail
      refine (heldOwn_any _ _ _ _ HH.out HR2.out (by decide) (by decide)).mono ?_
      rintro e w19 ⟨rfl, h⟩
      replace bt := h.cellOf bt
      replace bu := h.cellOf bu
      replace s0 := h.cellOf s0
      replace g1 := h.cellOf g1
      replace EX := Lib.hid (EX.out.trans h)
      replace HH := Lib.hid (HH.out.ext h)
      clear h
      have e0 : ∀ w', Ext w19 w' → w'.cell? ⟨w.heap.size, 0, none⟩ = some (.slice a fs.length cap) := fun w' h => h.cellOf bt
      have e1 : ∀ w', Ext w19 w' → w'.cell? ⟨w.heap.size + 1, 0, none⟩ = some (.slice b gs.length cap') := fun w' h => h.cellOf bu
      go_upto_region 31 with fail
      go_cut [15, 16] (fun s t wx => (∃ (B : Nat) (a0 : Option Addr) (cap0 : Nat), s = .pointer (some ⟨B, 0, none⟩) ∧ wx.cell? ⟨B, 0, none⟩ = some (.slice a0 rs.length cap0) ∧ Fxs wx a0 rs) ∧ t = .int .i64 ck ∧ Ext w19 wx)
      case first =>
        refine wp_region_held_drew (S := fun w' => Ext w19 w') (by kernel_rfl) (by (try dsimp only); exact (Ext.refl _).drew) (fun hHeld => ?_)
        (refine Ord.k 0 95 (v := ?_) ?_ ?_; rotate_left; (intro w h; (try dsimp only at h); go_simp; (try with_reducible rfl)); (try simp only [Act.put, Ord.a, Ord.b, Ord.c])); (refine Ord.k 2 97 (v := ?_) ?_ ?_; rotate_left; (intro w h; (try dsimp only at h); go_simp; (try with_reducible rfl)); (try simp only [Act.put, Ord.a, Ord.b, Ord.c]))
        have hE : Ext w19 w19.drew := (Ext.refl w19).drew
        obtain ⟨V0, hV0⟩ : ∃ V0, V0 = w19.drew := ⟨_, rfl⟩
        rw [← hV0] at hE hHeld ⊢
        clear hV0 e0 e1
        refine wpAnyH_ready (rs := [1, 8]) (by kernel_rfl) (by simp) ?_
        refine (AllReadyH.cons rfl (fun K hK => ?_) (AllReadyH.cons rfl (fun K hK => ?_) AllReadyH.nil))
        · go_simp
          go_at_call 7
          refine (toTrack_any _ _ _ _ (HF.out.ext (X4.out.trans (EX.out.trans hE))) HL.out.1).mono ?_
          rintro e V1 ⟨B1, rfl, -, O1, hy⟩
          go_wp2_with fail
          have zy := Ext.size hy
          have hE' := hE.trans hy
          refine hK.out _ _ hE' (fun hHeld => ?_)
          clear hK K
          (try simp only [Act.put, Ord.a, Ord.b, Ord.c])
          replace O1 := Lib.hid O1
          replace hE := hE'
          clear hE' hy
          refine wpAnyH_ready (rs := [3, 8]) (by kernel_rfl) (by simp) ?_
          refine (AllReadyH.cons rfl (fun K hK => ?_) (AllReadyH.cons rfl (fun K hK => ?_) AllReadyH.nil))
          · go_simp
            go_at_call 7
            refine (toTrack_any _ _ _ _ (HG.out.ext (X4.out.trans (EX.out.trans hE))) HL.out.2).mono ?_
            rintro e V2 ⟨B2, rfl, -, O2, hy⟩
            go_wp2_with fail
            have zy := Ext.size hy
            have hE' := hE.trans hy
            refine hK.out _ _ hE' (fun hHeld => ?_)
            clear hK K
            (try simp only [Act.put, Ord.a, Ord.b, Ord.c])
            replace O2 := Lib.hid O2
            replace O1 := Lib.hid (O1.out.ext hy)
            replace hE := hE'
            clear hE' hy
            refine wpAnyH_ready (rs := [4, 8]) (by kernel_rfl) (by simp) ?_
            refine (AllReadyH.cons rfl (fun K hK => ?_) (AllReadyH.cons rfl (fun K hK => ?_) AllReadyH.nil))
            · go_simp
              go_at_call 8
              refine (KI.out _ _ _ _ _ (O1.out.fxs HM.out.1) (O2.out.fxs HM.out.2) (Nat.le_refl _)).mono ?_
              rintro e V3 ⟨v0, rfl, OV, hy⟩
              obtain ⟨a0, cap0, rfl, -, -, -⟩ := OV.fxs
              replace OV := Lib.hid OV
              go_wp2_with fail
              have zy := Ext.size hy
              have hE' := hE.trans hy
              refine hK.out _ _ hE' (fun hHeld => ?_)
              clear hK K
              (try simp only [Act.put, Ord.a, Ord.b, Ord.c])
              replace hE := hE'
              clear hE' hy
              (refine Ord.k 5 94 (v := ?_) ?_ ?_; rotate_left; (intro w h; (try dsimp only at h); go_simp; (try with_reducible rfl)); (try simp only [Act.put, Ord.a, Ord.b, Ord.c])); (refine Ord.k 6 100 (v := ?_) ?_ ?_; rotate_left; (intro w h; (try dsimp only at h); go_simp; (try with_reducible rfl)); (try simp only [Act.put, Ord.a, Ord.b, Ord.c])); (refine Ord.k 7 101 (v := ?_) ?_ ?_; rotate_left; (intro w h; (try dsimp only at h); go_simp; (try with_reducible rfl)); (try simp only [Act.put, Ord.a, Ord.b, Ord.c]))
              refine wpAnyH_ready (rs := [8]) (by kernel_rfl) (by simp) ?_
              refine (AllReadyH.cons rfl (fun K hK => ?_) AllReadyH.nil)
              · go_simp
                have hE' : Ext w19 (V3.alloc (.cells #[.slice none 0 0] 28)) := hE.alloc _
                refine hK.out _ _ hE' (fun hHeld => ?_)
                clear hK K
                (try simp only [Act.put, Ord.a, Ord.b, Ord.c])
                have PB := Box.new (w := V3) (n := V3.heap.size) (vs := [.slice none 0 0]) (t := 28) rfl
                have zA := Ext.size hE
                have yA : V3.heap.size < (V3.alloc (.cells #[.slice none 0 0] 28)).heap.size := by simp
                have NB := Lib.hid (fun (e : (Value.slice a0 rs.length cap0).ownBlock = some V3.heap.size) => show False by have := (World.ownsRow.lt OV.out _ e).2; omega)
                replace OV := Lib.hid (OV.out.ext ((Ext.refl V3).alloc (.cells #[.slice none 0 0] 28)))
                replace hE := hE'
                clear hE'
                generalize V3.alloc (.cells #[.slice none 0 0] 28) = V4 at *
                refine wpAnyH_ready (rs := [9]) (by kernel_rfl) (by simp) ?_
                refine AllReadyH.cons rfl (fun K hK => ?_) AllReadyH.nil
                obtain ⟨r0, rf⟩ := PB 0 _ rfl
                go_simp
                have hE' : Ext w19 (V4.setCell ⟨V3.heap.size, 0, none⟩ (.slice a0 rs.length cap0)) := hE.setNew (by simp; omega) _
                refine hK.out _ _ hE' (fun hHeld => ?_)
                clear hK K
                (try simp only [Act.put, Ord.a, Ord.b, Ord.c])
                obtain ⟨_, _, e1, -, FF, -⟩ := (OV.out.chg ((Chg.refl V3.heap.size V4).setCell 0 (.slice a0 rs.length cap0)) NB.out).fxs
                cases e1
                have CC := World.cell?_setCell_same (V4) ⟨V3.heap.size, 0, none⟩ (.slice a0 rs.length cap0) r0
                (refine Ord.k 10 16 (v := ?_) ?_ ?_; rotate_left; (intro w h; (try dsimp only at h); go_simp; (try with_reducible rfl)); (try simp only [Act.put, Ord.a, Ord.b, Ord.c]))
                refine wpAnyH_done (by kernel_rfl) ?_ _
                go_wp2_with fail
                go_meet
                exact ⟨⟨_, _, _, rfl, CC, FF⟩, rfl, hE'⟩
            · go_simp
              have hE' : Ext w19 (V2.alloc (.cells #[.slice none 0 0] 28)) := hE.alloc _
              refine hK.out _ _ hE' (fun hHeld => ?_)
              clear hK K
              (try simp only [Act.put, Ord.a, Ord.b, Ord.c])
              have PB := Box.new (w := V2) (n := V2.heap.size) (vs := [.slice none 0 0]) (t := 28) rfl
              have zA := Ext.size hE
              have yA : V2.heap.size < (V2.alloc (.cells #[.slice none 0 0] 28)).heap.size := by simp
              replace O1 := Lib.hid (O1.out.ext ((Ext.refl V2).alloc (.cells #[.slice none 0 0] 28)))
              replace O2 := Lib.hid (O2.out.ext ((Ext.refl V2).alloc (.cells #[.slice none 0 0] 28)))
              replace hE := hE'
              clear hE'
              generalize V2.alloc (.cells #[.slice none 0 0] 28) = V3 at *
              refine wpAnyH_ready (rs := [4]) (by kernel_rfl) (by simp) ?_
              refine (AllReadyH.cons rfl (fun K hK => ?_) AllReadyH.nil)
              · go_simp
                go_at_call 8
                refine (KI.out _ _ _ _ _ (O1.out.fxs HM.out.1) (O2.out.fxs HM.out.2) (Nat.le_refl _)).mono ?_
                rintro e V4 ⟨v0, rfl, OV, hy⟩
                obtain ⟨a0, cap0, rfl, -, -, -⟩ := OV.fxs
                have NB := Lib.hid (OV.block (B := V2.heap.size) (by omega))
                replace OV := Lib.hid OV
                go_wp2_with fail
                have zy := Ext.size hy
                have hE' := hE.trans hy
                refine hK.out _ _ hE' (fun hHeld => ?_)
                clear hK K
                (try simp only [Act.put, Ord.a, Ord.b, Ord.c])
                replace PB := Box.ext PB hy
                replace hE := hE'
                clear hE' hy
                (refine Ord.k 5 94 (v := ?_) ?_ ?_; rotate_left; (intro w h; (try dsimp only at h); go_simp; (try with_reducible rfl)); (try simp only [Act.put, Ord.a, Ord.b, Ord.c])); (refine Ord.k 6 100 (v := ?_) ?_ ?_; rotate_left; (intro w h; (try dsimp only at h); go_simp; (try with_reducible rfl)); (try simp only [Act.put, Ord.a, Ord.b, Ord.c])); (refine Ord.k 7 101 (v := ?_) ?_ ?_; rotate_left; (intro w h; (try dsimp only at h); go_simp; (try with_reducible rfl)); (try simp only [Act.put, Ord.a, Ord.b, Ord.c]))
                refine wpAnyH_ready (rs := [9]) (by kernel_rfl) (by simp) ?_
                refine AllReadyH.cons rfl (fun K hK => ?_) AllReadyH.nil
                obtain ⟨r0, rf⟩ := PB 0 _ rfl
                go_simp
                have hE' : Ext w19 (V4.setCell ⟨V2.heap.size, 0, none⟩ (.slice a0 rs.length cap0)) := hE.setNew (by simp; omega) _
                refine hK.out _ _ hE' (fun hHeld => ?_)
                clear hK K
                (try simp only [Act.put, Ord.a, Ord.b, Ord.c])
                obtain ⟨_, _, e1, -, FF, -⟩ := (OV.out.chg ((Chg.refl V2.heap.size V4).setCell 0 (.slice a0 rs.length cap0)) NB.out).fxs
                cases e1
                have CC := World.cell?_setCell_same (V4) ⟨V2.heap.size, 0, none⟩ (.slice a0 rs.length cap0) r0
                (refine Ord.k 10 16 (v := ?_) ?_ ?_; rotate_left; (intro w h; (try dsimp only at h); go_simp; (try with_reducible rfl)); (try simp only [Act.put, Ord.a, Ord.b, Ord.c]))
                refine wpAnyH_done (by kernel_rfl) ?_ _
                go_wp2_with fail
                go_meet
                exact ⟨⟨_, _, _, rfl, CC, FF⟩, rfl, hE'⟩
          · go_simp
            have hE' : Ext w19 (V1.alloc (.cells #[.slice none 0 0] 28)) := hE.alloc _
            refine hK.out _ _ hE' (fun hHeld => ?_)
            clear hK K
            (try simp only [Act.put, Ord.a, Ord.b, Ord.c])
            have PB := Box.new (w := V1) (n := V1.heap.size) (vs := [.slice none 0 0]) (t := 28) rfl
            have zA := Ext.size hE
            have yA : V1.heap.size < (V1.alloc (.cells #[.slice none 0 0] 28)).heap.size := by simp
            replace O1 := Lib.hid (O1.out.ext ((Ext.refl V1).alloc (.cells #[.slice none 0 0] 28)))
            replace hE := hE'
            clear hE'
            generalize V1.alloc (.cells #[.slice none 0 0] 28) = V2 at *
            refine wpAnyH_ready (rs := [3]) (by kernel_rfl) (by simp) ?_
            refine (AllReadyH.cons rfl (fun K hK => ?_) AllReadyH.nil)
            · go_simp
              go_at_call 7
              refine (toTrack_any _ _ _ _ (HG.out.ext (X4.out.trans (EX.out.trans hE))) HL.out.2).mono ?_
              rintro e V3 ⟨B2, rfl, -, O2, hy⟩
              go_wp2_with fail
              have zy := Ext.size hy
              have hE' := hE.trans hy
              refine hK.out _ _ hE' (fun hHeld => ?_)
              clear hK K
              (try simp only [Act.put, Ord.a, Ord.b, Ord.c])
              replace O2 := Lib.hid O2
              replace O1 := Lib.hid (O1.out.ext hy)
              replace PB := Box.ext PB hy
              replace hE := hE'
              clear hE' hy
              refine wpAnyH_ready (rs := [4]) (by kernel_rfl) (by simp) ?_
              refine (AllReadyH.cons rfl (fun K hK => ?_) AllReadyH.nil)
              · go_simp
                go_at_call 8
                refine (KI.out _ _ _ _ _ (O1.out.fxs HM.out.1) (O2.out.fxs HM.out.2) (Nat.le_refl _)).mono ?_
                rintro e V4 ⟨v0, rfl, OV, hy⟩
                obtain ⟨a0, cap0, rfl, -, -, -⟩ := OV.fxs
                have NB := Lib.hid (OV.block (B := V1.heap.size) (by omega))
                replace OV := Lib.hid OV
                go_wp2_with fail
                have zy := Ext.size hy
                have hE' := hE.trans hy
                refine hK.out _ _ hE' (fun hHeld => ?_)
                clear hK K
                (try simp only [Act.put, Ord.a, Ord.b, Ord.c])
                replace PB := Box.ext PB hy
                replace hE := hE'
                clear hE' hy
                (refine Ord.k 5 94 (v := ?_) ?_ ?_; rotate_left; (intro w h; (try dsimp only at h); go_simp; (try with_reducible rfl)); (try simp only [Act.put, Ord.a, Ord.b, Ord.c])); (refine Ord.k 6 100 (v := ?_) ?_ ?_; rotate_left; (intro w h; (try dsimp only at h); go_simp; (try with_reducible rfl)); (try simp only [Act.put, Ord.a, Ord.b, Ord.c])); (refine Ord.k 7 101 (v := ?_) ?_ ?_; rotate_left; (intro w h; (try dsimp only at h); go_simp; (try with_reducible rfl)); (try simp only [Act.put, Ord.a, Ord.b, Ord.c]))
                refine wpAnyH_ready (rs := [9]) (by kernel_rfl) (by simp) ?_
                refine AllReadyH.cons rfl (fun K hK => ?_) AllReadyH.nil
                obtain ⟨r0, rf⟩ := PB 0 _ rfl
                go_simp
                have hE' : Ext w19 (V4.setCell ⟨V1.heap.size, 0, none⟩ (.slice a0 rs.length cap0)) := hE.setNew (by simp; omega) _
                refine hK.out _ _ hE' (fun hHeld => ?_)
                clear hK K
                (try simp only [Act.put, Ord.a, Ord.b, Ord.c])
                obtain ⟨_, _, e1, -, FF, -⟩ := (OV.out.chg ((Chg.refl V1.heap.size V4).setCell 0 (.slice a0 rs.length cap0)) NB.out).fxs
                cases e1
                have CC := World.cell?_setCell_same (V4) ⟨V1.heap.size, 0, none⟩ (.slice a0 rs.length cap0) r0
                (refine Ord.k 10 16 (v := ?_) ?_ ?_; rotate_left; (intro w h; (try dsimp only at h); go_simp; (try with_reducible rfl)); (try simp only [Act.put, Ord.a, Ord.b, Ord.c]))
                refine wpAnyH_done (by kernel_rfl) ?_ _
                go_wp2_with fail
                go_meet
                exact ⟨⟨_, _, _, rfl, CC, FF⟩, rfl, hE'⟩
        · go_simp
          have hE' : Ext w19 (V0.alloc (.cells #[.slice none 0 0] 28)) := hE.alloc _
          refine hK.out _ _ hE' (fun hHeld => ?_)
          clear hK K
          (try simp only [Act.put, Ord.a, Ord.b, Ord.c])
          have PB := Box.new (w := V0) (n := V0.heap.size) (vs := [.slice none 0 0]) (t := 28) rfl
          have zA := Ext.size hE
          have yA : V0.heap.size < (V0.alloc (.cells #[.slice none 0 0] 28)).heap.size := by simp
          replace hE := hE'
          clear hE'
          generalize V0.alloc (.cells #[.slice none 0 0] 28) = V1 at *
          refine wpAnyH_ready (rs := [1]) (by kernel_rfl) (by simp) ?_
          refine (AllReadyH.cons rfl (fun K hK => ?_) AllReadyH.nil)
          · go_simp
            go_at_call 7
            refine (toTrack_any _ _ _ _ (HF.out.ext (X4.out.trans (EX.out.trans hE))) HL.out.1).mono ?_
            rintro e V2 ⟨B1, rfl, -, O1, hy⟩
            go_wp2_with fail
            have zy := Ext.size hy
            have hE' := hE.trans hy
            refine hK.out _ _ hE' (fun hHeld => ?_)
            clear hK K
            (try simp only [Act.put, Ord.a, Ord.b, Ord.c])
            replace O1 := Lib.hid O1
            replace PB := Box.ext PB hy
            replace hE := hE'
            clear hE' hy
            refine wpAnyH_ready (rs := [3]) (by kernel_rfl) (by simp) ?_
            refine (AllReadyH.cons rfl (fun K hK => ?_) AllReadyH.nil)
            · go_simp
              go_at_call 7
              refine (toTrack_any _ _ _ _ (HG.out.ext (X4.out.trans (EX.out.trans hE))) HL.out.2).mono ?_
              rintro e V3 ⟨B2, rfl, -, O2, hy⟩
              go_wp2_with fail
              have zy := Ext.size hy
              have hE' := hE.trans hy
              refine hK.out _ _ hE' (fun hHeld => ?_)
              clear hK K
              (try simp only [Act.put, Ord.a, Ord.b, Ord.c])
              replace O2 := Lib.hid O2
              replace O1 := Lib.hid (O1.out.ext hy)
              replace PB := Box.ext PB hy
              replace hE := hE'
              clear hE' hy
              refine wpAnyH_ready (rs := [4]) (by kernel_rfl) (by simp) ?_
              refine (AllReadyH.cons rfl (fun K hK => ?_) AllReadyH.nil)
              · go_simp
                go_at_call 8
                refine (KI.out _ _ _ _ _ (O1.out.fxs HM.out.1) (O2.out.fxs HM.out.2) (Nat.le_refl _)).mono ?_
                rintro e V4 ⟨v0, rfl, OV, hy⟩
                obtain ⟨a0, cap0, rfl, -, -, -⟩ := OV.fxs
                have NB := Lib.hid (OV.block (B := V0.heap.size) (by omega))
                replace OV := Lib.hid OV
                go_wp2_with fail
                have zy := Ext.size hy
                have hE' := hE.trans hy
                refine hK.out _ _ hE' (fun hHeld => ?_)
                clear hK K
                (try simp only [Act.put, Ord.a, Ord.b, Ord.c])
                replace PB := Box.ext PB hy
                replace hE := hE'
                clear hE' hy
                (refine Ord.k 5 94 (v := ?_) ?_ ?_; rotate_left; (intro w h; (try dsimp only at h); go_simp; (try with_reducible rfl)); (try simp only [Act.put, Ord.a, Ord.b, Ord.c])); (refine Ord.k 6 100 (v := ?_) ?_ ?_; rotate_left; (intro w h; (try dsimp only at h); go_simp; (try with_reducible rfl)); (try simp only [Act.put, Ord.a, Ord.b, Ord.c])); (refine Ord.k 7 101 (v := ?_) ?_ ?_; rotate_left; (intro w h; (try dsimp only at h); go_simp; (try with_reducible rfl)); (try simp only [Act.put, Ord.a, Ord.b, Ord.c]))
                refine wpAnyH_ready (rs := [9]) (by kernel_rfl) (by simp) ?_
                refine AllReadyH.cons rfl (fun K hK => ?_) AllReadyH.nil
                obtain ⟨r0, rf⟩ := PB 0 _ rfl
                go_simp
                have hE' : Ext w19 (V4.setCell ⟨V0.heap.size, 0, none⟩ (.slice a0 rs.length cap0)) := hE.setNew (by simp; omega) _
                refine hK.out _ _ hE' (fun hHeld => ?_)
                clear hK K
                (try simp only [Act.put, Ord.a, Ord.b, Ord.c])
                obtain ⟨_, _, e1, -, FF, -⟩ := (OV.out.chg ((Chg.refl V0.heap.size V4).setCell 0 (.slice a0 rs.length cap0)) NB.out).fxs
                cases e1
                have CC := World.cell?_setCell_same (V4) ⟨V0.heap.size, 0, none⟩ (.slice a0 rs.length cap0) r0
                (refine Ord.k 10 16 (v := ?_) ?_ ?_; rotate_left; (intro w h; (try dsimp only at h); go_simp; (try with_reducible rfl)); (try simp only [Act.put, Ord.a, Ord.b, Ord.c]))
                refine wpAnyH_done (by kernel_rfl) ?_ _
                go_wp2_with fail
                go_meet
                exact ⟨⟨_, _, _, rfl, CC, FF⟩, rfl, hE'⟩
      case rest =>
        clear e0 e1
        obtain ⟨⟨B2, a2, cap2, rfl, s2, F2⟩, rfl, h⟩ := hcut
        obtain ⟨w24, rfl⟩ : ∃ w24, w24 = wc := ⟨_, rfl⟩
        replace s0 := h.cellOf s0
        replace g1 := h.cellOf g1
        replace EX := Lib.hid (EX.out.trans h)
        replace HH := Lib.hid (HH.out.ext h)
        clear h bt bu
        go_wp2_with fail
        refine (eqTrack_same _ _ _ _ _ _ F2 (F0.out.ext EX.out)).mono ?_
        rintro e w25 ⟨rfl, h⟩
        replace g1 := h.cellOf g1
        replace EX := Lib.hid (EX.out.trans h)
        replace HH := Lib.hid (HH.out.ext h)
        clear h s0 F2 s2
        go_wp2_with fail
        refine (heldOwn_any _ _ _ _ HH.out HR2.out (by decide) (by decide)).mono ?_
        rintro e w28 ⟨rfl, h⟩
        go_wp2
        go_ret
        exact ⟨rfl, X4.out.trans (EX.out.trans h)⟩
end Go.Proofs.Ytnjjmoefiacbhaa.fnExactJoinTracks
