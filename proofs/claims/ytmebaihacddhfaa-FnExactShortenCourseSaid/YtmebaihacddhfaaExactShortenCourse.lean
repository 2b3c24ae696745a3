/- FnExactShortenCourse: for all arguments, impl.ShortenCourse and spec.ShortenCourse answer the same, the course is as it was, and the answer has a row of its own. No condition. -/
import Derived.Test.YtmebaihacddhfaaSho4
import Derived.Test.YtmebaihacddhfaaOpnC
import Derived.Deep.DeepCutAuto
import Derived.ChangeOld
import Derived.Below
import Derived.Lib.SmallJoins
namespace Go.Proofs.Ytmebaihacddhfaa.fnExactShortenCourse
open Go.ChangeShapes Go.WideShapes Go.ChangeAt Go.RowKit
open Go.Proofs.Ytmebaihacddhfaa.Kit Go.Proofs.Ytmebaihacddhfaa.Pts Go.Proofs.Ytmebaihacddhfaa.Seg Go.Proofs.Ytmebaihacddhfaa.Crs
set_option linter.unusedVariables false
set_option linter.unusedSimpArgs false

theorem shM_fit {l k f : L4} {ms : List M5} {q : Int} {w : World} {a : Option Addr} (h : Mks w a ms) : (shM l k f ms q).length ≤ maxLen ∧ Fit (shM l k f ms q) := by
  unfold shM
  split
  · exact (h.take _).1
  · exact ⟨by simp, fun i hi => absurd hi (by simp)⟩
theorem shM_len (l k f : L4) (ms : List M5) (q : Int) : (shM l k f ms q).length ≤ ms.length := by
  unfold shM
  split
  · simp; omega
  · simp

set_option maxRecDepth 100000 in
set_option maxHeartbeats 8000000 in
theorem walkL (l k f : L4) (a : Option Addr) (cap : Nat) (ms : List M5) (q : Int) (w : World) (hf : Mks w a ms) : Calls Try.prog 11 #[CV l k (.slice a ms.length cap), .int .i64 q, LV f] w fun e w' => e = .returned (.bool true) ∧ Ext w w' := by
  have HM := Lib.hid hf.1
  obtain ⟨W0, hW0⟩ : ∃ W0, W0 = (w.alloc (.cells (cellsC l k (.slice a ms.length cap)).toArray 57)).alloc (.cells #[.int .i64 f.a, .int .i64 f.b, .int .i64 f.c, .int .i64 f.d] 51) := ⟨_, rfl⟩
  have HW := Lib.hid (show Ext w W0 from hW0 ▸ ((Ext.refl w).alloc _).alloc _)
  have BB := Lib.hid (show Box W0 w.heap.size (cellsC l k (.slice a ms.length cap)) from hW0 ▸ (Box.new rfl).alloc _)
  have BL := Lib.hid (show Box W0 (w.heap.size + 1) [.int .i64 f.a, .int .i64 f.b, .int .i64 f.c, .int .i64 f.d] from hW0 ▸ Box.new4 (by simp))
  have HF := Lib.hid (hf.ext HW.out)
  have HR := Lib.hid (shM_fit (l := l) (k := k) (f := f) (q := q) hf)
  clear hf
  have PS := Lib.hid (fun w (h : Mks w a ms) => szCourse_any l k a cap ms 1048576 w h (by decide) (by decide))
  by_cases hl : szR 1048576 ms < 0
  · rw [if_pos hl] at PS
    go_enter Try.func11, Try.ntmps11
    go_wp2_with fail
    rw [← hW0]
    clear hW0
    refine (PS.out _ HF.out).mono ?_
    rintro e w1 ⟨rfl, h1⟩
    go_wp2
    go_ret
    exact ⟨rfl, HW.out.trans h1⟩
  · rw [if_neg hl] at PS
    have HL := Lib.hid (szR_yes hl (by decide) (by decide)).1
    obtain ⟨S, hS⟩ : ∃ S, S = szR 1048576 ms := ⟨_, rfl⟩
    rw [← hS] at PS hl
    clear hS
    have hl2 : decide (S < 0) = false := decide_eq_false hl
    have KS := Lib.hid (fun (a : Option Addr) (cap : Nat) (w : World) (hf : Mks w a ms) (hc : ms.length ≤ cap) (hs : cap ≤ maxLen) => show Calls Try.prog 21 #[CV l k (.slice a ms.length cap), .int .i64 q, LV f] w (fun e w' => ∃ v, e = .returned (.tuple #[CV (shL l k f ms q) (shF l k f ms q) v, .int .i64 (shC l k f ms q)]) ∧ OwnM w' w.heap.size v (shM l k f ms q) ∧ Ext w w') from shorten_spec l k f a cap ms q w hf hc hs)
    have KI := Lib.hid (fun (a : Option Addr) (cap : Nat) (w : World) (hf : Mks w a ms) (hc : ms.length ≤ cap) (hs : cap ≤ maxLen) => show Calls Try.prog 20 #[CV l k (.slice a ms.length cap), .int .i64 q, LV f] w (fun e w' => ∃ v, e = .returned (.tuple #[CV (shL l k f ms q) (shF l k f ms q) v, .int .i64 (shC l k f ms q)]) ∧ OwnM w' w.heap.size v (shM l k f ms q) ∧ Ext w w') from shorten_impl l k f a cap ms q w hf hc hs)
    have HP := Lib.hid (shM_len l k f ms q)
    obtain ⟨ck, hck⟩ : ∃ ck, ck = shC l k f ms q := ⟨_, rfl⟩
    obtain ⟨rl, hrl⟩ : ∃ rl, rl = shL l k f ms q := ⟨_, rfl⟩
    obtain ⟨rf, hrf⟩ : ∃ rf, rf = shF l k f ms q := ⟨_, rfl⟩
    obtain ⟨rs, hrs⟩ : ∃ rs, rs = shM l k f ms q := ⟨_, rfl⟩
    rw [← hck, ← hrl, ← hrf, ← hrs] at KS KI
    rw [← hrs] at HP HR
    clear hck hrl hrf hrs
    have HP2 := Lib.hid (show rs.length ≤ 1048576 from Nat.le_trans HP.out HL.out)
    go_enter Try.func11, Try.ntmps11
    go_wp2_with fail
    rw [← hW0]
    clear hW0
    refine (PS.out _ HF.out).mono ?_
    rintro e w1 ⟨rfl, h⟩
    have X := Lib.hid h
    have z1 := World.block_lt_of_cell? w1 _ ((BL.out.ext h) 0 _ rfl).1
    simp at z1
    clear h
    have e0 : Ext w1 w1 := Ext.refl w1
    have c10 : ∀ w', Ext w1 w' → w'.cell? ⟨w.heap.size, 0, none⟩ = some (.int .i64 l.a) := fun w' h => ((BB.out.ext (X.out.trans h)) 0 _ rfl).1
    have c11 : ∀ w', Ext w1 w' → w'.cell? ⟨w.heap.size, 1, none⟩ = some (.int .i64 l.b) := fun w' h => ((BB.out.ext (X.out.trans h)) 1 _ rfl).1
    have c12 : ∀ w', Ext w1 w' → w'.cell? ⟨w.heap.size, 2, none⟩ = some (.int .i64 l.c) := fun w' h => ((BB.out.ext (X.out.trans h)) 2 _ rfl).1
    have c13 : ∀ w', Ext w1 w' → w'.cell? ⟨w.heap.size, 3, none⟩ = some (.int .i64 l.d) := fun w' h => ((BB.out.ext (X.out.trans h)) 3 _ rfl).1
    have c14 : ∀ w', Ext w1 w' → w'.cell? ⟨w.heap.size, 4, none⟩ = some (.int .i64 k.a) := fun w' h => ((BB.out.ext (X.out.trans h)) 4 _ rfl).1
    have c15 : ∀ w', Ext w1 w' → w'.cell? ⟨w.heap.size, 5, none⟩ = some (.int .i64 k.b) := fun w' h => ((BB.out.ext (X.out.trans h)) 5 _ rfl).1
    have c16 : ∀ w', Ext w1 w' → w'.cell? ⟨w.heap.size, 6, none⟩ = some (.int .i64 k.c) := fun w' h => ((BB.out.ext (X.out.trans h)) 6 _ rfl).1
    have c17 : ∀ w', Ext w1 w' → w'.cell? ⟨w.heap.size, 7, none⟩ = some (.int .i64 k.d) := fun w' h => ((BB.out.ext (X.out.trans h)) 7 _ rfl).1
    have c18 : ∀ w', Ext w1 w' → w'.cell? ⟨w.heap.size, 8, none⟩ = some (.slice a ms.length cap) := fun w' h => ((BB.out.ext (X.out.trans h)) 8 _ rfl).1
    have d10 : ∀ w', Ext w1 w' → w'.cell? ⟨w.heap.size + 1, 0, none⟩ = some (.int .i64 f.a) := fun w' h => ((BL.out.ext (X.out.trans h)) 0 _ rfl).1
    have d11 : ∀ w', Ext w1 w' → w'.cell? ⟨w.heap.size + 1, 1, none⟩ = some (.int .i64 f.b) := fun w' h => ((BL.out.ext (X.out.trans h)) 1 _ rfl).1
    have d12 : ∀ w', Ext w1 w' → w'.cell? ⟨w.heap.size + 1, 2, none⟩ = some (.int .i64 f.c) := fun w' h => ((BL.out.ext (X.out.trans h)) 2 _ rfl).1
    have d13 : ∀ w', Ext w1 w' → w'.cell? ⟨w.heap.size + 1, 3, none⟩ = some (.int .i64 f.d) := fun w' h => ((BL.out.ext (X.out.trans h)) 3 _ rfl).1
    go_upto_region 5 with fail
    go_cut [8, 9] (fun s t wx => (∃ (B : Nat) (a0 : Option Addr) (cap0 : Nat), s = .pointer (some ⟨B, 0, none⟩) ∧ Box wx B (cellsC rl rf (.slice a0 rs.length cap0)) ∧ Mks wx a0 rs ∧ w1.heap.size ≤ B) ∧ t = .int .i64 ck ∧ Ext w1 wx)
    case first =>
      refine wp_region_held_drew (S := fun w' => Ext w1 w') (by kernel_rfl) (by (try dsimp only); exact (Ext.refl _).drew) (fun hHeld => ?_)
      (refine Ord.takeH 0 24 (v := ?_) rfl rfl (by kernel_rfl) (by kernel_rfl) (by kernel_rfl) (fun _ _ _ h => h) (by rfl) ?_ (by assumption) ?_; rotate_left; (intro w hSw; (try dsimp only at hSw); go_simp; (first | done | with_reducible rfl)); (try simp only [Act.put, List.setIfInBounds_toArray, List.set_cons_zero, List.set_cons_succ])); (refine Ord.takeH 2 26 (v := ?_) rfl rfl (by kernel_rfl) (by kernel_rfl) (by kernel_rfl) (fun _ _ _ h => h) (by rfl) ?_ (by assumption) ?_; rotate_left; (intro w hSw; (try dsimp only at hSw); go_simp; (first | done | with_reducible rfl)); (try simp only [Act.put, List.setIfInBounds_toArray, List.set_cons_zero, List.set_cons_succ])); (refine Ord.takeH 3 27 (v := ?_) rfl rfl (by kernel_rfl) (by kernel_rfl) (by kernel_rfl) (fun _ _ _ h => h) (by rfl) ?_ (by assumption) ?_; rotate_left; (intro w hSw; (try dsimp only at hSw); go_simp; (first | done | with_reducible rfl)); (try simp only [Act.put, List.setIfInBounds_toArray, List.set_cons_zero, List.set_cons_succ]))
      have hE : Ext w1 w1.drew := (Ext.refl w1).drew
      obtain ⟨V0, hV0⟩ : ∃ V0, V0 = w1.drew := ⟨_, rfl⟩
      rw [← hV0] at hE hHeld ⊢
      clear hV0 c10 c11 c12 c13 c14 c15 c16 c17 c18 d10 d11 d12 d13
      have z00 := Ext.size hE
      refine wpAnyH_ready (rs := [1, 9]) (by kernel_rfl) (by simp) ?_
      refine (AllReadyH.cons rfl (fun K hK => ?_) (AllReadyH.cons rfl (fun K hK => ?_) AllReadyH.nil))
      · go_simp
        go_at_call 29
        refine (toCourse_any _ _ _ _ _ _ (HF.out.ext (X.out.trans hE)) HL.out).mono ?_
        rintro e V1 ⟨B1, rfl, -, O1, hy⟩
        go_wp2_with fail
        have zy := Ext.size hy
        have hE' := hE.trans hy
        refine hK.out _ _ hE' (fun hHeld => ?_)
        clear hK K
        (try simp only [Act.put, List.setIfInBounds_toArray, List.set_cons_zero, List.set_cons_succ])
        replace O1 := Lib.hid O1
        replace hE := hE'
        clear hE' hy
        refine wpAnyH_ready (rs := [4, 9]) (by kernel_rfl) (by simp) ?_
        refine (AllReadyH.cons rfl (fun K hK => ?_) (AllReadyH.cons rfl (fun K hK => ?_) AllReadyH.nil))
        · go_simp
          go_at_call 25
          refine (toLine_any f.a f.b f.c f.d _).mono ?_
          rintro e V2 ⟨rfl, hy⟩
          go_wp2_with fail
          have zy := Ext.size hy
          have hE' := hE.trans hy
          refine hK.out _ _ hE' (fun hHeld => ?_)
          clear hK K
          (try simp only [Act.put, List.setIfInBounds_toArray, List.set_cons_zero, List.set_cons_succ])
          replace O1 := Lib.hid (O1.out.ext hy)
          replace hE := hE'
          clear hE' hy
          refine wpAnyH_ready (rs := [5, 9]) (by kernel_rfl) (by simp) ?_
          refine (AllReadyH.cons rfl (fun K hK => ?_) (AllReadyH.cons rfl (fun K hK => ?_) AllReadyH.nil))
          · go_simp
            go_at_call 21
            refine (KS.out _ _ _ (O1.out.mks HM.out) (Nat.le_refl _) HM.out.1).mono ?_
            rintro e V3 ⟨v0, rfl, OV, hy⟩
            have zV := Ext.size hE
            obtain ⟨a0, cap0, rfl, -⟩ := OV.mks HR.out
            replace OV := Lib.hid (show OwnM V3 w1.heap.size (.slice a0 rs.length cap0) rs from row_mono OV (by omega))
            go_wp2_with fail
            have zy := Ext.size hy
            have hE' := hE.trans hy
            refine hK.out _ _ hE' (fun hHeld => ?_)
            clear hK K
            (try simp only [Act.put, List.setIfInBounds_toArray, List.set_cons_zero, List.set_cons_succ])
            replace hE := hE'
            clear hE' hy
            (refine Ord.takeH 6 23 (v := ?_) rfl rfl (by kernel_rfl) (by kernel_rfl) (by kernel_rfl) (fun _ _ _ h => h) (by rfl) ?_ (by assumption) ?_; rotate_left; (intro w hSw; (try dsimp only at hSw); go_simp; (first | done | with_reducible rfl)); (try simp only [Act.put, List.setIfInBounds_toArray, List.set_cons_zero, List.set_cons_succ])); (refine Ord.takeH 7 30 (v := ?_) rfl rfl (by kernel_rfl) (by kernel_rfl) (by kernel_rfl) (fun _ _ _ h => h) (by rfl) ?_ (by assumption) ?_; rotate_left; (intro w hSw; (try dsimp only at hSw); go_simp; (first | done | with_reducible rfl)); (try simp only [Act.put, List.setIfInBounds_toArray, List.set_cons_zero, List.set_cons_succ])); (refine Ord.takeH 8 31 (v := ?_) rfl rfl (by kernel_rfl) (by kernel_rfl) (by kernel_rfl) (fun _ _ _ h => h) (by rfl) ?_ (by assumption) ?_; rotate_left; (intro w hSw; (try dsimp only at hSw); go_simp; (first | done | with_reducible rfl)); (try simp only [Act.put, List.setIfInBounds_toArray, List.set_cons_zero, List.set_cons_succ]))
            refine wpAnyH_ready (rs := [9]) (by kernel_rfl) (by simp) ?_
            refine (AllReadyH.cons rfl (fun K hK => ?_) AllReadyH.nil)
            · go_simp
              have hE' : Ext w1 (V3.alloc (.cells (cellsC zeroL zeroL (.slice none 0 0)).toArray 30)) := hE.alloc _
              refine hK.out _ _ hE' (fun hHeld => ?_)
              clear hK K
              (try simp only [Act.put, List.setIfInBounds_toArray, List.set_cons_zero, List.set_cons_succ])
              have PB := Box.new (w := V3) (n := V3.heap.size) (vs := cellsC zeroL zeroL (.slice none 0 0)) (t := 30) rfl
              have zA := Ext.size hE
              have yA : V3.heap.size < (V3.alloc (.cells (cellsC zeroL zeroL (.slice none 0 0)).toArray 30)).heap.size := by simp
              have NB := Lib.hid (fun (e : (Value.slice a0 rs.length cap0).ownBlock = some V3.heap.size) => show False by have := (World.ownsRow.lt OV.out _ e).2; omega)
              replace OV := Lib.hid (OV.out.ext ((Ext.refl V3).alloc (.cells (cellsC zeroL zeroL (.slice none 0 0)).toArray 30)))
              replace hE := hE'
              clear hE'
              generalize V3.alloc (.cells (cellsC zeroL zeroL (.slice none 0 0)).toArray 30) = V4 at *
              refine wpAnyH_ready (rs := [10]) (by kernel_rfl) (by simp) ?_
              refine AllReadyH.cons rfl (fun K hK => ?_) AllReadyH.nil
              obtain ⟨⟨u0, u1, u2, u3, u4, u5, u6, u7, u8⟩, g0, g1, g2, g3, g4, g5, g6, g7, g8⟩ := Box.nine PB
              go_simp
              have hE' : Ext w1 (Crs.put9 V4 V3.heap.size (.int .i64 rl.a) (.int .i64 rl.b) (.int .i64 rl.c) (.int .i64 rl.d) (.int .i64 rf.a) (.int .i64 rf.b) (.int .i64 rf.c) (.int .i64 rf.d) (.slice a0 rs.length cap0)) := Ext.put9 hE (by omega) (.int .i64 rl.a) (.int .i64 rl.b) (.int .i64 rl.c) (.int .i64 rl.d) (.int .i64 rf.a) (.int .i64 rf.b) (.int .i64 rf.c) (.int .i64 rf.d) (.slice a0 rs.length cap0)
              refine hK.out _ _ hE' (fun hHeld => ?_)
              clear hK K
              (try simp only [Act.put, List.setIfInBounds_toArray, List.set_cons_zero, List.set_cons_succ])
              have QB := Box.put9 PB (.int .i64 rl.a) (.int .i64 rl.b) (.int .i64 rl.c) (.int .i64 rl.d) (.int .i64 rf.a) (.int .i64 rf.b) (.int .i64 rf.c) (.int .i64 rf.d) (.slice a0 rs.length cap0)
              have QO := OV.out.chg (Chg.put9 (n := V3.heap.size) (.int .i64 rl.a) (.int .i64 rl.b) (.int .i64 rl.c) (.int .i64 rl.d) (.int .i64 rf.a) (.int .i64 rf.b) (.int .i64 rf.c) (.int .i64 rf.d) (.slice a0 rs.length cap0)) NB.out
              obtain ⟨_, _, e1, FF⟩ := QO.mks HR.out
              cases e1
              (refine Ord.takeH 11 9 (v := ?_) rfl rfl (by kernel_rfl) (by kernel_rfl) (by kernel_rfl) (fun _ _ _ h => h) (by rfl) ?_ (by assumption) ?_; rotate_left; (intro w hSw; (try dsimp only at hSw); go_simp; (first | done | with_reducible rfl)); (try simp only [Act.put, List.setIfInBounds_toArray, List.set_cons_zero, List.set_cons_succ]))
              refine wpAnyH_done (by kernel_rfl) ?_ _
              go_wp2_with fail
              go_meet
              exact ⟨⟨_, _, _, rfl, QB, FF, by omega⟩, rfl, hE'⟩
          · go_simp
            have hE' : Ext w1 (V2.alloc (.cells (cellsC zeroL zeroL (.slice none 0 0)).toArray 30)) := hE.alloc _
            refine hK.out _ _ hE' (fun hHeld => ?_)
            clear hK K
            (try simp only [Act.put, List.setIfInBounds_toArray, List.set_cons_zero, List.set_cons_succ])
            have PB := Box.new (w := V2) (n := V2.heap.size) (vs := cellsC zeroL zeroL (.slice none 0 0)) (t := 30) rfl
            have zA := Ext.size hE
            have yA : V2.heap.size < (V2.alloc (.cells (cellsC zeroL zeroL (.slice none 0 0)).toArray 30)).heap.size := by simp
            replace O1 := Lib.hid (O1.out.ext ((Ext.refl V2).alloc (.cells (cellsC zeroL zeroL (.slice none 0 0)).toArray 30)))
            replace hE := hE'
            clear hE'
            generalize V2.alloc (.cells (cellsC zeroL zeroL (.slice none 0 0)).toArray 30) = V3 at *
            refine wpAnyH_ready (rs := [5]) (by kernel_rfl) (by simp) ?_
            refine (AllReadyH.cons rfl (fun K hK => ?_) AllReadyH.nil)
            · go_simp
              go_at_call 21
              refine (KS.out _ _ _ (O1.out.mks HM.out) (Nat.le_refl _) HM.out.1).mono ?_
              rintro e V4 ⟨v0, rfl, OV, hy⟩
              have zV := Ext.size hE
              obtain ⟨a0, cap0, rfl, -⟩ := OV.mks HR.out
              have NB := Lib.hid (OV.block (B := V2.heap.size) (by omega))
              replace OV := Lib.hid (show OwnM V4 w1.heap.size (.slice a0 rs.length cap0) rs from row_mono OV (by omega))
              go_wp2_with fail
              have zy := Ext.size hy
              have hE' := hE.trans hy
              refine hK.out _ _ hE' (fun hHeld => ?_)
              clear hK K
              (try simp only [Act.put, List.setIfInBounds_toArray, List.set_cons_zero, List.set_cons_succ])
              replace PB := Box.ext PB hy
              replace hE := hE'
              clear hE' hy
              (refine Ord.takeH 6 23 (v := ?_) rfl rfl (by kernel_rfl) (by kernel_rfl) (by kernel_rfl) (fun _ _ _ h => h) (by rfl) ?_ (by assumption) ?_; rotate_left; (intro w hSw; (try dsimp only at hSw); go_simp; (first | done | with_reducible rfl)); (try simp only [Act.put, List.setIfInBounds_toArray, List.set_cons_zero, List.set_cons_succ])); (refine Ord.takeH 7 30 (v := ?_) rfl rfl (by kernel_rfl) (by kernel_rfl) (by kernel_rfl) (fun _ _ _ h => h) (by rfl) ?_ (by assumption) ?_; rotate_left; (intro w hSw; (try dsimp only at hSw); go_simp; (first | done | with_reducible rfl)); (try simp only [Act.put, List.setIfInBounds_toArray, List.set_cons_zero, List.set_cons_succ])); (refine Ord.takeH 8 31 (v := ?_) rfl rfl (by kernel_rfl) (by kernel_rfl) (by kernel_rfl) (fun _ _ _ h => h) (by rfl) ?_ (by assumption) ?_; rotate_left; (intro w hSw; (try dsimp only at hSw); go_simp; (first | done | with_reducible rfl)); (try simp only [Act.put, List.setIfInBounds_toArray, List.set_cons_zero, List.set_cons_succ]))
              refine wpAnyH_ready (rs := [10]) (by kernel_rfl) (by simp) ?_
              refine AllReadyH.cons rfl (fun K hK => ?_) AllReadyH.nil
              obtain ⟨⟨u0, u1, u2, u3, u4, u5, u6, u7, u8⟩, g0, g1, g2, g3, g4, g5, g6, g7, g8⟩ := Box.nine PB
              go_simp
              have hE' : Ext w1 (Crs.put9 V4 V2.heap.size (.int .i64 rl.a) (.int .i64 rl.b) (.int .i64 rl.c) (.int .i64 rl.d) (.int .i64 rf.a) (.int .i64 rf.b) (.int .i64 rf.c) (.int .i64 rf.d) (.slice a0 rs.length cap0)) := Ext.put9 hE (by omega) (.int .i64 rl.a) (.int .i64 rl.b) (.int .i64 rl.c) (.int .i64 rl.d) (.int .i64 rf.a) (.int .i64 rf.b) (.int .i64 rf.c) (.int .i64 rf.d) (.slice a0 rs.length cap0)
              refine hK.out _ _ hE' (fun hHeld => ?_)
              clear hK K
              (try simp only [Act.put, List.setIfInBounds_toArray, List.set_cons_zero, List.set_cons_succ])
              have QB := Box.put9 PB (.int .i64 rl.a) (.int .i64 rl.b) (.int .i64 rl.c) (.int .i64 rl.d) (.int .i64 rf.a) (.int .i64 rf.b) (.int .i64 rf.c) (.int .i64 rf.d) (.slice a0 rs.length cap0)
              have QO := OV.out.chg (Chg.put9 (n := V2.heap.size) (.int .i64 rl.a) (.int .i64 rl.b) (.int .i64 rl.c) (.int .i64 rl.d) (.int .i64 rf.a) (.int .i64 rf.b) (.int .i64 rf.c) (.int .i64 rf.d) (.slice a0 rs.length cap0)) NB.out
              obtain ⟨_, _, e1, FF⟩ := QO.mks HR.out
              cases e1
              (refine Ord.takeH 11 9 (v := ?_) rfl rfl (by kernel_rfl) (by kernel_rfl) (by kernel_rfl) (fun _ _ _ h => h) (by rfl) ?_ (by assumption) ?_; rotate_left; (intro w hSw; (try dsimp only at hSw); go_simp; (first | done | with_reducible rfl)); (try simp only [Act.put, List.setIfInBounds_toArray, List.set_cons_zero, List.set_cons_succ]))
              refine wpAnyH_done (by kernel_rfl) ?_ _
              go_wp2_with fail
              go_meet
              exact ⟨⟨_, _, _, rfl, QB, FF, by omega⟩, rfl, hE'⟩
        · go_simp
          have hE' : Ext w1 (V1.alloc (.cells (cellsC zeroL zeroL (.slice none 0 0)).toArray 30)) := hE.alloc _
          refine hK.out _ _ hE' (fun hHeld => ?_)
          clear hK K
          (try simp only [Act.put, List.setIfInBounds_toArray, List.set_cons_zero, List.set_cons_succ])
          have PB := Box.new (w := V1) (n := V1.heap.size) (vs := cellsC zeroL zeroL (.slice none 0 0)) (t := 30) rfl
          have zA := Ext.size hE
          have yA : V1.heap.size < (V1.alloc (.cells (cellsC zeroL zeroL (.slice none 0 0)).toArray 30)).heap.size := by simp
          replace O1 := Lib.hid (O1.out.ext ((Ext.refl V1).alloc (.cells (cellsC zeroL zeroL (.slice none 0 0)).toArray 30)))
          replace hE := hE'
          clear hE'
          generalize V1.alloc (.cells (cellsC zeroL zeroL (.slice none 0 0)).toArray 30) = V2 at *
          refine wpAnyH_ready (rs := [4]) (by kernel_rfl) (by simp) ?_
          refine (AllReadyH.cons rfl (fun K hK => ?_) AllReadyH.nil)
          · go_simp
            go_at_call 25
            refine (toLine_any f.a f.b f.c f.d _).mono ?_
            rintro e V3 ⟨rfl, hy⟩
            go_wp2_with fail
            have zy := Ext.size hy
            have hE' := hE.trans hy
            refine hK.out _ _ hE' (fun hHeld => ?_)
            clear hK K
            (try simp only [Act.put, List.setIfInBounds_toArray, List.set_cons_zero, List.set_cons_succ])
            replace O1 := Lib.hid (O1.out.ext hy)
            replace PB := Box.ext PB hy
            replace hE := hE'
            clear hE' hy
            refine wpAnyH_ready (rs := [5]) (by kernel_rfl) (by simp) ?_
            refine (AllReadyH.cons rfl (fun K hK => ?_) AllReadyH.nil)
            · go_simp
              go_at_call 21
              refine (KS.out _ _ _ (O1.out.mks HM.out) (Nat.le_refl _) HM.out.1).mono ?_
              rintro e V4 ⟨v0, rfl, OV, hy⟩
              have zV := Ext.size hE
              obtain ⟨a0, cap0, rfl, -⟩ := OV.mks HR.out
              have NB := Lib.hid (OV.block (B := V1.heap.size) (by omega))
              replace OV := Lib.hid (show OwnM V4 w1.heap.size (.slice a0 rs.length cap0) rs from row_mono OV (by omega))
              go_wp2_with fail
              have zy := Ext.size hy
              have hE' := hE.trans hy
              refine hK.out _ _ hE' (fun hHeld => ?_)
              clear hK K
              (try simp only [Act.put, List.setIfInBounds_toArray, List.set_cons_zero, List.set_cons_succ])
              replace PB := Box.ext PB hy
              replace hE := hE'
              clear hE' hy
              (refine Ord.takeH 6 23 (v := ?_) rfl rfl (by kernel_rfl) (by kernel_rfl) (by kernel_rfl) (fun _ _ _ h => h) (by rfl) ?_ (by assumption) ?_; rotate_left; (intro w hSw; (try dsimp only at hSw); go_simp; (first | done | with_reducible rfl)); (try simp only [Act.put, List.setIfInBounds_toArray, List.set_cons_zero, List.set_cons_succ])); (refine Ord.takeH 7 30 (v := ?_) rfl rfl (by kernel_rfl) (by kernel_rfl) (by kernel_rfl) (fun _ _ _ h => h) (by rfl) ?_ (by assumption) ?_; rotate_left; (intro w hSw; (try dsimp only at hSw); go_simp; (first | done | with_reducible rfl)); (try simp only [Act.put, List.setIfInBounds_toArray, List.set_cons_zero, List.set_cons_succ])); (refine Ord.takeH 8 31 (v := ?_) rfl rfl (by kernel_rfl) (by kernel_rfl) (by kernel_rfl) (fun _ _ _ h => h) (by rfl) ?_ (by assumption) ?_; rotate_left; (intro w hSw; (try dsimp only at hSw); go_simp; (first | done | with_reducible rfl)); (try simp only [Act.put, List.setIfInBounds_toArray, List.set_cons_zero, List.set_cons_succ]))
              refine wpAnyH_ready (rs := [10]) (by kernel_rfl) (by simp) ?_
              refine AllReadyH.cons rfl (fun K hK => ?_) AllReadyH.nil
              obtain ⟨⟨u0, u1, u2, u3, u4, u5, u6, u7, u8⟩, g0, g1, g2, g3, g4, g5, g6, g7, g8⟩ := Box.nine PB
              go_simp
              have hE' : Ext w1 (Crs.put9 V4 V1.heap.size (.int .i64 rl.a) (.int .i64 rl.b) (.int .i64 rl.c) (.int .i64 rl.d) (.int .i64 rf.a) (.int .i64 rf.b) (.int .i64 rf.c) (.int .i64 rf.d) (.slice a0 rs.length cap0)) := Ext.put9 hE (by omega) (.int .i64 rl.a) (.int .i64 rl.b) (.int .i64 rl.c) (.int .i64 rl.d) (.int .i64 rf.a) (.int .i64 rf.b) (.int .i64 rf.c) (.int .i64 rf.d) (.slice a0 rs.length cap0)
              refine hK.out _ _ hE' (fun hHeld => ?_)
              clear hK K
              (try simp only [Act.put, List.setIfInBounds_toArray, List.set_cons_zero, List.set_cons_succ])
              have QB := Box.put9 PB (.int .i64 rl.a) (.int .i64 rl.b) (.int .i64 rl.c) (.int .i64 rl.d) (.int .i64 rf.a) (.int .i64 rf.b) (.int .i64 rf.c) (.int .i64 rf.d) (.slice a0 rs.length cap0)
              have QO := OV.out.chg (Chg.put9 (n := V1.heap.size) (.int .i64 rl.a) (.int .i64 rl.b) (.int .i64 rl.c) (.int .i64 rl.d) (.int .i64 rf.a) (.int .i64 rf.b) (.int .i64 rf.c) (.int .i64 rf.d) (.slice a0 rs.length cap0)) NB.out
              obtain ⟨_, _, e1, FF⟩ := QO.mks HR.out
              cases e1
              (refine Ord.takeH 11 9 (v := ?_) rfl rfl (by kernel_rfl) (by kernel_rfl) (by kernel_rfl) (fun _ _ _ h => h) (by rfl) ?_ (by assumption) ?_; rotate_left; (intro w hSw; (try dsimp only at hSw); go_simp; (first | done | with_reducible rfl)); (try simp only [Act.put, List.setIfInBounds_toArray, List.set_cons_zero, List.set_cons_succ]))
              refine wpAnyH_done (by kernel_rfl) ?_ _
              go_wp2_with fail
              go_meet
              exact ⟨⟨_, _, _, rfl, QB, FF, by omega⟩, rfl, hE'⟩
      · go_simp
        have hE' : Ext w1 (V0.alloc (.cells (cellsC zeroL zeroL (.slice none 0 0)).toArray 30)) := hE.alloc _
        refine hK.out _ _ hE' (fun hHeld => ?_)
        clear hK K
        (try simp only [Act.put, List.setIfInBounds_toArray, List.set_cons_zero, List.set_cons_succ])
        have PB := Box.new (w := V0) (n := V0.heap.size) (vs := cellsC zeroL zeroL (.slice none 0 0)) (t := 30) rfl
        have zA := Ext.size hE
        have yA : V0.heap.size < (V0.alloc (.cells (cellsC zeroL zeroL (.slice none 0 0)).toArray 30)).heap.size := by simp
        replace hE := hE'
        clear hE'
        generalize V0.alloc (.cells (cellsC zeroL zeroL (.slice none 0 0)).toArray 30) = V1 at *
        refine wpAnyH_ready (rs := [1]) (by kernel_rfl) (by simp) ?_
        refine (AllReadyH.cons rfl (fun K hK => ?_) AllReadyH.nil)
        · go_simp
          go_at_call 29
          refine (toCourse_any _ _ _ _ _ _ (HF.out.ext (X.out.trans hE)) HL.out).mono ?_
          rintro e V2 ⟨B1, rfl, -, O1, hy⟩
          go_wp2_with fail
          have zy := Ext.size hy
          have hE' := hE.trans hy
          refine hK.out _ _ hE' (fun hHeld => ?_)
          clear hK K
          (try simp only [Act.put, List.setIfInBounds_toArray, List.set_cons_zero, List.set_cons_succ])
          replace O1 := Lib.hid O1
          replace PB := Box.ext PB hy
          replace hE := hE'
          clear hE' hy
          refine wpAnyH_ready (rs := [4]) (by kernel_rfl) (by simp) ?_
          refine (AllReadyH.cons rfl (fun K hK => ?_) AllReadyH.nil)
          · go_simp
            go_at_call 25
            refine (toLine_any f.a f.b f.c f.d _).mono ?_
            rintro e V3 ⟨rfl, hy⟩
            go_wp2_with fail
            have zy := Ext.size hy
            have hE' := hE.trans hy
            refine hK.out _ _ hE' (fun hHeld => ?_)
            clear hK K
            (try simp only [Act.put, List.setIfInBounds_toArray, List.set_cons_zero, List.set_cons_succ])
            replace O1 := Lib.hid (O1.out.ext hy)
            replace PB := Box.ext PB hy
            replace hE := hE'
            clear hE' hy
            refine wpAnyH_ready (rs := [5]) (by kernel_rfl) (by simp) ?_
            refine (AllReadyH.cons rfl (fun K hK => ?_) AllReadyH.nil)
            · go_simp
              go_at_call 21
              refine (KS.out _ _ _ (O1.out.mks HM.out) (Nat.le_refl _) HM.out.1).mono ?_
              rintro e V4 ⟨v0, rfl, OV, hy⟩
              have zV := Ext.size hE
              obtain ⟨a0, cap0, rfl, -⟩ := OV.mks HR.out
              have NB := Lib.hid (OV.block (B := V0.heap.size) (by omega))
              replace OV := Lib.hid (show OwnM V4 w1.heap.size (.slice a0 rs.length cap0) rs from row_mono OV (by omega))
              go_wp2_with fail
              have zy := Ext.size hy
              have hE' := hE.trans hy
              refine hK.out _ _ hE' (fun hHeld => ?_)
              clear hK K
              (try simp only [Act.put, List.setIfInBounds_toArray, List.set_cons_zero, List.set_cons_succ])
              replace PB := Box.ext PB hy
              replace hE := hE'
              clear hE' hy
              (refine Ord.takeH 6 23 (v := ?_) rfl rfl (by kernel_rfl) (by kernel_rfl) (by kernel_rfl) (fun _ _ _ h => h) (by rfl) ?_ (by assumption) ?_; rotate_left; (intro w hSw; (try dsimp only at hSw); go_simp; (first | done | with_reducible rfl)); (try simp only [Act.put, List.setIfInBounds_toArray, List.set_cons_zero, List.set_cons_succ])); (refine Ord.takeH 7 30 (v := ?_) rfl rfl (by kernel_rfl) (by kernel_rfl) (by kernel_rfl) (fun _ _ _ h => h) (by rfl) ?_ (by assumption) ?_; rotate_left; (intro w hSw; (try dsimp only at hSw); go_simp; (first | done | with_reducible rfl)); (try simp only [Act.put, List.setIfInBounds_toArray, List.set_cons_zero, List.set_cons_succ])); (refine Ord.takeH 8 31 (v := ?_) rfl rfl (by kernel_rfl) (by kernel_rfl) (by kernel_rfl) (fun _ _ _ h => h) (by rfl) ?_ (by assumption) ?_; rotate_left; (intro w hSw; (try dsimp only at hSw); go_simp; (first | done | with_reducible rfl)); (try simp only [Act.put, List.setIfInBounds_toArray, List.set_cons_zero, List.set_cons_succ]))
              refine wpAnyH_ready (rs := [10]) (by kernel_rfl) (by simp) ?_
              refine AllReadyH.cons rfl (fun K hK => ?_) AllReadyH.nil
              obtain ⟨⟨u0, u1, u2, u3, u4, u5, u6, u7, u8⟩, g0, g1, g2, g3, g4, g5, g6, g7, g8⟩ := Box.nine PB
              go_simp
              have hE' : Ext w1 (Crs.put9 V4 V0.heap.size (.int .i64 rl.a) (.int .i64 rl.b) (.int .i64 rl.c) (.int .i64 rl.d) (.int .i64 rf.a) (.int .i64 rf.b) (.int .i64 rf.c) (.int .i64 rf.d) (.slice a0 rs.length cap0)) := Ext.put9 hE (by omega) (.int .i64 rl.a) (.int .i64 rl.b) (.int .i64 rl.c) (.int .i64 rl.d) (.int .i64 rf.a) (.int .i64 rf.b) (.int .i64 rf.c) (.int .i64 rf.d) (.slice a0 rs.length cap0)
              refine hK.out _ _ hE' (fun hHeld => ?_)
              clear hK K
              (try simp only [Act.put, List.setIfInBounds_toArray, List.set_cons_zero, List.set_cons_succ])
              have QB := Box.put9 PB (.int .i64 rl.a) (.int .i64 rl.b) (.int .i64 rl.c) (.int .i64 rl.d) (.int .i64 rf.a) (.int .i64 rf.b) (.int .i64 rf.c) (.int .i64 rf.d) (.slice a0 rs.length cap0)
              have QO := OV.out.chg (Chg.put9 (n := V0.heap.size) (.int .i64 rl.a) (.int .i64 rl.b) (.int .i64 rl.c) (.int .i64 rl.d) (.int .i64 rf.a) (.int .i64 rf.b) (.int .i64 rf.c) (.int .i64 rf.d) (.slice a0 rs.length cap0)) NB.out
              obtain ⟨_, _, e1, FF⟩ := QO.mks HR.out
              cases e1
              (refine Ord.takeH 11 9 (v := ?_) rfl rfl (by kernel_rfl) (by kernel_rfl) (by kernel_rfl) (fun _ _ _ h => h) (by rfl) ?_ (by assumption) ?_; rotate_left; (intro w hSw; (try dsimp only at hSw); go_simp; (first | done | with_reducible rfl)); (try simp only [Act.put, List.setIfInBounds_toArray, List.set_cons_zero, List.set_cons_succ]))
              refine wpAnyH_done (by kernel_rfl) ?_ _
              go_wp2_with fail
              go_meet
              exact ⟨⟨_, _, _, rfl, QB, FF, by omega⟩, rfl, hE'⟩
    case rest =>
      clear e0 c10 c11 c12 c13 c14 c15 c16 c17 c18 d10 d11 d12 d13
      obtain ⟨⟨B0, a0, cap0, rfl, S0, F0, zB⟩, rfl, h⟩ := hcut
      obtain ⟨w2, rfl⟩ : ∃ w2, w2 = wc := ⟨_, rfl⟩
      have z0 := World.block_lt_of_cell? w2 _ (S0 0 _ rfl).1
      simp at z0
      replace X := Lib.hid (X.out.trans h)
      have z2 := Ext.size h
      have EX := Lib.hid (Ext.refl w2)
      replace F0 := Lib.hid F0
      replace S0 := Lib.hid S0
      clear h
      obtain ⟨⟨p0, p1, p2, p3, p4, p5, p6, p7, p8⟩, _⟩ := Box.nine (BB.out.ext X.out)
      go_wp2_with fail
      refine (toCourse_any _ _ _ _ _ _ (HF.out.ext X.out) HL.out).mono ?_
      rintro e w3 ⟨B3, rfl, l3, O3, h⟩
      have n3 : 0 < ms.length → B3 < w3.heap.size := fun h0 => World.block_lt_of_cell? w3 _ (O3 0 h0).1.1
      have z3 := Ext.size h
      have EX := Lib.hid h
      have P3 := Lib.hid O3
      clear h O3 p0 p1 p2 p3 p4 p5 p6 p7 p8
      obtain ⟨w4, hw4⟩ : ∃ w4, w4 = w3.alloc (.cells (cellsC l k (.slice (some ⟨B3, 0, none⟩) ms.length ms.length)).toArray 30) := ⟨_, rfl⟩
      have BX := Lib.hid (show Box w4 w3.heap.size (cellsC l k (.slice (some ⟨B3, 0, none⟩) ms.length ms.length)) from hw4 ▸ Box.new rfl)
      have z4 : w3.heap.size + 1 = w4.heap.size := by rw [hw4]; simp
      have h34 : Ext w3 w4 := hw4 ▸ (Ext.refl w3).alloc _
      replace P3 := Lib.hid (P3.out.ext h34)
      replace EX := Lib.hid (EX.out.trans h34)
      clear h34
      have e0 : Ext w4 w4 := Ext.refl w4
      have c10 : ∀ w', Ext w4 w' → w'.cell? ⟨w3.heap.size, 0, none⟩ = some (.int .i64 l.a) := fun w' h => ((BX.out.ext h) 0 _ rfl).1
      have c11 : ∀ w', Ext w4 w' → w'.cell? ⟨w3.heap.size, 1, none⟩ = some (.int .i64 l.b) := fun w' h => ((BX.out.ext h) 1 _ rfl).1
      have c12 : ∀ w', Ext w4 w' → w'.cell? ⟨w3.heap.size, 2, none⟩ = some (.int .i64 l.c) := fun w' h => ((BX.out.ext h) 2 _ rfl).1
      have c13 : ∀ w', Ext w4 w' → w'.cell? ⟨w3.heap.size, 3, none⟩ = some (.int .i64 l.d) := fun w' h => ((BX.out.ext h) 3 _ rfl).1
      have c14 : ∀ w', Ext w4 w' → w'.cell? ⟨w3.heap.size, 4, none⟩ = some (.int .i64 k.a) := fun w' h => ((BX.out.ext h) 4 _ rfl).1
      have c15 : ∀ w', Ext w4 w' → w'.cell? ⟨w3.heap.size, 5, none⟩ = some (.int .i64 k.b) := fun w' h => ((BX.out.ext h) 5 _ rfl).1
      have c16 : ∀ w', Ext w4 w' → w'.cell? ⟨w3.heap.size, 6, none⟩ = some (.int .i64 k.c) := fun w' h => ((BX.out.ext h) 6 _ rfl).1
      have c17 : ∀ w', Ext w4 w' → w'.cell? ⟨w3.heap.size, 7, none⟩ = some (.int .i64 k.d) := fun w' h => ((BX.out.ext h) 7 _ rfl).1
      have c18 : ∀ w', Ext w4 w' → w'.cell? ⟨w3.heap.size, 8, none⟩ = some (.slice (some ⟨B3, 0, none⟩) ms.length ms.length) := fun w' h => ((BX.out.ext h) 8 _ rfl).1
      have d10 : ∀ w', Ext w4 w' → w'.cell? ⟨w.heap.size + 1, 0, none⟩ = some (.int .i64 f.a) := fun w' h => ((BL.out.ext (X.out.trans (EX.out.trans h))) 0 _ rfl).1
      have d11 : ∀ w', Ext w4 w' → w'.cell? ⟨w.heap.size + 1, 1, none⟩ = some (.int .i64 f.b) := fun w' h => ((BL.out.ext (X.out.trans (EX.out.trans h))) 1 _ rfl).1
      have d12 : ∀ w', Ext w4 w' → w'.cell? ⟨w.heap.size + 1, 2, none⟩ = some (.int .i64 f.c) := fun w' h => ((BL.out.ext (X.out.trans (EX.out.trans h))) 2 _ rfl).1
      have d13 : ∀ w', Ext w4 w' → w'.cell? ⟨w.heap.size + 1, 3, none⟩ = some (.int .i64 f.d) := fun w' h => ((BL.out.ext (X.out.trans (EX.out.trans h))) 3 _ rfl).1
      go_upto_region 7 with fail
      rw [← hw4]
      clear hw4
      go_cut [11, 12] (fun s t wx => (∃ (B : Nat) (a0 : Option Addr) (cap0 : Nat), s = .pointer (some ⟨B, 0, none⟩) ∧ Box wx B (cellsC rl rf (.slice a0 rs.length cap0)) ∧ OwnM wx w4.heap.size (.slice a0 rs.length cap0) rs ∧ (Value.slice a0 rs.length cap0).ownBlock ≠ some B ∧ w4.heap.size ≤ B) ∧ t = .int .i64 ck ∧ Ext w4 wx)
      case first =>
        refine wp_region_held_drew (S := fun w' => Ext w4 w') (by kernel_rfl) (by (try dsimp only); exact (Ext.refl _).drew) (fun hHeld => ?_)
        (refine Ord.takeH 0 35 (v := ?_) rfl rfl (by kernel_rfl) (by kernel_rfl) (by kernel_rfl) (fun _ _ _ h => h) (by rfl) ?_ (by assumption) ?_; rotate_left; (intro w hSw; (try dsimp only at hSw); go_simp; (first | done | with_reducible rfl)); (try simp only [Act.put, List.setIfInBounds_toArray, List.set_cons_zero, List.set_cons_succ])); (refine Ord.takeH 1 36 (v := ?_) rfl rfl (by kernel_rfl) (by kernel_rfl) (by kernel_rfl) (fun _ _ _ h => h) (by rfl) ?_ (by assumption) ?_; rotate_left; (intro w hSw; (try dsimp only at hSw); go_simp; (first | done | with_reducible rfl)); (try simp only [Act.put, List.setIfInBounds_toArray, List.set_cons_zero, List.set_cons_succ])); (refine Ord.takeH 2 37 (v := ?_) rfl rfl (by kernel_rfl) (by kernel_rfl) (by kernel_rfl) (fun _ _ _ h => h) (by rfl) ?_ (by assumption) ?_; rotate_left; (intro w hSw; (try dsimp only at hSw); go_simp; (first | done | with_reducible rfl)); (try simp only [Act.put, List.setIfInBounds_toArray, List.set_cons_zero, List.set_cons_succ]))
        have hE : Ext w4 w4.drew := (Ext.refl w4).drew
        obtain ⟨V0, hV0⟩ : ∃ V0, V0 = w4.drew := ⟨_, rfl⟩
        rw [← hV0] at hE hHeld ⊢
        clear hV0 c10 c11 c12 c13 c14 c15 c16 c17 c18 d10 d11 d12 d13
        have z00 := Ext.size hE
        refine wpAnyH_ready (rs := [3, 8]) (by kernel_rfl) (by simp) ?_
        refine (AllReadyH.cons rfl (fun K hK => ?_) (AllReadyH.cons rfl (fun K hK => ?_) AllReadyH.nil))
        · go_simp
          go_at_call 25
          refine (toLine_any f.a f.b f.c f.d _).mono ?_
          rintro e V1 ⟨rfl, hy⟩
          go_wp2_with fail
          have zy := Ext.size hy
          have hE' := hE.trans hy
          refine hK.out _ _ hE' (fun hHeld => ?_)
          clear hK K
          (try simp only [Act.put, List.setIfInBounds_toArray, List.set_cons_zero, List.set_cons_succ])
          replace hE := hE'
          clear hE' hy
          refine wpAnyH_ready (rs := [4, 8]) (by kernel_rfl) (by simp) ?_
          refine (AllReadyH.cons rfl (fun K hK => ?_) (AllReadyH.cons rfl (fun K hK => ?_) AllReadyH.nil))
          · go_simp
            go_at_call 20
            refine (KI.out _ _ _ ((P3.out.ext hE).mks HM.out) (Nat.le_refl _) HM.out.1).mono ?_
            rintro e V2 ⟨v0, rfl, OV, hy⟩
            have zV := Ext.size hE
            obtain ⟨a0, cap0, rfl, -⟩ := OV.mks HR.out
            replace OV := Lib.hid (show OwnM V2 w4.heap.size (.slice a0 rs.length cap0) rs from row_mono OV (by omega))
            go_wp2_with fail
            have zy := Ext.size hy
            have hE' := hE.trans hy
            refine hK.out _ _ hE' (fun hHeld => ?_)
            clear hK K
            (try simp only [Act.put, List.setIfInBounds_toArray, List.set_cons_zero, List.set_cons_succ])
            replace hE := hE'
            clear hE' hy
            (refine Ord.takeH 5 34 (v := ?_) rfl rfl (by kernel_rfl) (by kernel_rfl) (by kernel_rfl) (fun _ _ _ h => h) (by rfl) ?_ (by assumption) ?_; rotate_left; (intro w hSw; (try dsimp only at hSw); go_simp; (first | done | with_reducible rfl)); (try simp only [Act.put, List.setIfInBounds_toArray, List.set_cons_zero, List.set_cons_succ])); (refine Ord.takeH 6 40 (v := ?_) rfl rfl (by kernel_rfl) (by kernel_rfl) (by kernel_rfl) (fun _ _ _ h => h) (by rfl) ?_ (by assumption) ?_; rotate_left; (intro w hSw; (try dsimp only at hSw); go_simp; (first | done | with_reducible rfl)); (try simp only [Act.put, List.setIfInBounds_toArray, List.set_cons_zero, List.set_cons_succ])); (refine Ord.takeH 7 41 (v := ?_) rfl rfl (by kernel_rfl) (by kernel_rfl) (by kernel_rfl) (fun _ _ _ h => h) (by rfl) ?_ (by assumption) ?_; rotate_left; (intro w hSw; (try dsimp only at hSw); go_simp; (first | done | with_reducible rfl)); (try simp only [Act.put, List.setIfInBounds_toArray, List.set_cons_zero, List.set_cons_succ]))
            refine wpAnyH_ready (rs := [8]) (by kernel_rfl) (by simp) ?_
            refine (AllReadyH.cons rfl (fun K hK => ?_) AllReadyH.nil)
            · go_simp
              have hE' : Ext w4 (V2.alloc (.cells (cellsC zeroL zeroL (.slice none 0 0)).toArray 30)) := hE.alloc _
              refine hK.out _ _ hE' (fun hHeld => ?_)
              clear hK K
              (try simp only [Act.put, List.setIfInBounds_toArray, List.set_cons_zero, List.set_cons_succ])
              have PB := Box.new (w := V2) (n := V2.heap.size) (vs := cellsC zeroL zeroL (.slice none 0 0)) (t := 30) rfl
              have zA := Ext.size hE
              have yA : V2.heap.size < (V2.alloc (.cells (cellsC zeroL zeroL (.slice none 0 0)).toArray 30)).heap.size := by simp
              have NB := Lib.hid (fun (e : (Value.slice a0 rs.length cap0).ownBlock = some V2.heap.size) => show False by have := (World.ownsRow.lt OV.out _ e).2; omega)
              replace OV := Lib.hid (OV.out.ext ((Ext.refl V2).alloc (.cells (cellsC zeroL zeroL (.slice none 0 0)).toArray 30)))
              replace hE := hE'
              clear hE'
              generalize V2.alloc (.cells (cellsC zeroL zeroL (.slice none 0 0)).toArray 30) = V3 at *
              refine wpAnyH_ready (rs := [9]) (by kernel_rfl) (by simp) ?_
              refine AllReadyH.cons rfl (fun K hK => ?_) AllReadyH.nil
              obtain ⟨⟨u0, u1, u2, u3, u4, u5, u6, u7, u8⟩, g0, g1, g2, g3, g4, g5, g6, g7, g8⟩ := Box.nine PB
              go_simp
              have hE' : Ext w4 (Crs.put9 V3 V2.heap.size (.int .i64 rl.a) (.int .i64 rl.b) (.int .i64 rl.c) (.int .i64 rl.d) (.int .i64 rf.a) (.int .i64 rf.b) (.int .i64 rf.c) (.int .i64 rf.d) (.slice a0 rs.length cap0)) := Ext.put9 hE (by omega) (.int .i64 rl.a) (.int .i64 rl.b) (.int .i64 rl.c) (.int .i64 rl.d) (.int .i64 rf.a) (.int .i64 rf.b) (.int .i64 rf.c) (.int .i64 rf.d) (.slice a0 rs.length cap0)
              refine hK.out _ _ hE' (fun hHeld => ?_)
              clear hK K
              (try simp only [Act.put, List.setIfInBounds_toArray, List.set_cons_zero, List.set_cons_succ])
              have QB := Box.put9 PB (.int .i64 rl.a) (.int .i64 rl.b) (.int .i64 rl.c) (.int .i64 rl.d) (.int .i64 rf.a) (.int .i64 rf.b) (.int .i64 rf.c) (.int .i64 rf.d) (.slice a0 rs.length cap0)
              have QO := OV.out.chg (Chg.put9 (n := V2.heap.size) (.int .i64 rl.a) (.int .i64 rl.b) (.int .i64 rl.c) (.int .i64 rl.d) (.int .i64 rf.a) (.int .i64 rf.b) (.int .i64 rf.c) (.int .i64 rf.d) (.slice a0 rs.length cap0)) NB.out
              obtain ⟨_, _, e1, FF⟩ := QO.mks HR.out
              cases e1
              (refine Ord.takeH 10 12 (v := ?_) rfl rfl (by kernel_rfl) (by kernel_rfl) (by kernel_rfl) (fun _ _ _ h => h) (by rfl) ?_ (by assumption) ?_; rotate_left; (intro w hSw; (try dsimp only at hSw); go_simp; (first | done | with_reducible rfl)); (try simp only [Act.put, List.setIfInBounds_toArray, List.set_cons_zero, List.set_cons_succ]))
              refine wpAnyH_done (by kernel_rfl) ?_ _
              go_wp2_with fail
              go_meet
              exact ⟨⟨_, _, _, rfl, QB, QO, NB.out, by omega⟩, rfl, hE'⟩
          · go_simp
            have hE' : Ext w4 (V1.alloc (.cells (cellsC zeroL zeroL (.slice none 0 0)).toArray 30)) := hE.alloc _
            refine hK.out _ _ hE' (fun hHeld => ?_)
            clear hK K
            (try simp only [Act.put, List.setIfInBounds_toArray, List.set_cons_zero, List.set_cons_succ])
            have PB := Box.new (w := V1) (n := V1.heap.size) (vs := cellsC zeroL zeroL (.slice none 0 0)) (t := 30) rfl
            have zA := Ext.size hE
            have yA : V1.heap.size < (V1.alloc (.cells (cellsC zeroL zeroL (.slice none 0 0)).toArray 30)).heap.size := by simp
            replace hE := hE'
            clear hE'
            generalize V1.alloc (.cells (cellsC zeroL zeroL (.slice none 0 0)).toArray 30) = V2 at *
            refine wpAnyH_ready (rs := [4]) (by kernel_rfl) (by simp) ?_
            refine (AllReadyH.cons rfl (fun K hK => ?_) AllReadyH.nil)
            · go_simp
              go_at_call 20
              refine (KI.out _ _ _ ((P3.out.ext hE).mks HM.out) (Nat.le_refl _) HM.out.1).mono ?_
              rintro e V3 ⟨v0, rfl, OV, hy⟩
              have zV := Ext.size hE
              obtain ⟨a0, cap0, rfl, -⟩ := OV.mks HR.out
              have NB := Lib.hid (OV.block (B := V1.heap.size) (by omega))
              replace OV := Lib.hid (show OwnM V3 w4.heap.size (.slice a0 rs.length cap0) rs from row_mono OV (by omega))
              go_wp2_with fail
              have zy := Ext.size hy
              have hE' := hE.trans hy
              refine hK.out _ _ hE' (fun hHeld => ?_)
              clear hK K
              (try simp only [Act.put, List.setIfInBounds_toArray, List.set_cons_zero, List.set_cons_succ])
              replace PB := Box.ext PB hy
              replace hE := hE'
              clear hE' hy
              (refine Ord.takeH 5 34 (v := ?_) rfl rfl (by kernel_rfl) (by kernel_rfl) (by kernel_rfl) (fun _ _ _ h => h) (by rfl) ?_ (by assumption) ?_; rotate_left; (intro w hSw; (try dsimp only at hSw); go_simp; (first | done | with_reducible rfl)); (try simp only [Act.put, List.setIfInBounds_toArray, List.set_cons_zero, List.set_cons_succ])); (refine Ord.takeH 6 40 (v := ?_) rfl rfl (by kernel_rfl) (by kernel_rfl) (by kernel_rfl) (fun _ _ _ h => h) (by rfl) ?_ (by assumption) ?_; rotate_left; (intro w hSw; (try dsimp only at hSw); go_simp; (first | done | with_reducible rfl)); (try simp only [Act.put, List.setIfInBounds_toArray, List.set_cons_zero, List.set_cons_succ])); (refine Ord.takeH 7 41 (v := ?_) rfl rfl (by kernel_rfl) (by kernel_rfl) (by kernel_rfl) (fun _ _ _ h => h) (by rfl) ?_ (by assumption) ?_; rotate_left; (intro w hSw; (try dsimp only at hSw); go_simp; (first | done | with_reducible rfl)); (try simp only [Act.put, List.setIfInBounds_toArray, List.set_cons_zero, List.set_cons_succ]))
              refine wpAnyH_ready (rs := [9]) (by kernel_rfl) (by simp) ?_
              refine AllReadyH.cons rfl (fun K hK => ?_) AllReadyH.nil
              obtain ⟨⟨u0, u1, u2, u3, u4, u5, u6, u7, u8⟩, g0, g1, g2, g3, g4, g5, g6, g7, g8⟩ := Box.nine PB
              go_simp
              have hE' : Ext w4 (Crs.put9 V3 V1.heap.size (.int .i64 rl.a) (.int .i64 rl.b) (.int .i64 rl.c) (.int .i64 rl.d) (.int .i64 rf.a) (.int .i64 rf.b) (.int .i64 rf.c) (.int .i64 rf.d) (.slice a0 rs.length cap0)) := Ext.put9 hE (by omega) (.int .i64 rl.a) (.int .i64 rl.b) (.int .i64 rl.c) (.int .i64 rl.d) (.int .i64 rf.a) (.int .i64 rf.b) (.int .i64 rf.c) (.int .i64 rf.d) (.slice a0 rs.length cap0)
              refine hK.out _ _ hE' (fun hHeld => ?_)
              clear hK K
              (try simp only [Act.put, List.setIfInBounds_toArray, List.set_cons_zero, List.set_cons_succ])
              have QB := Box.put9 PB (.int .i64 rl.a) (.int .i64 rl.b) (.int .i64 rl.c) (.int .i64 rl.d) (.int .i64 rf.a) (.int .i64 rf.b) (.int .i64 rf.c) (.int .i64 rf.d) (.slice a0 rs.length cap0)
              have QO := OV.out.chg (Chg.put9 (n := V1.heap.size) (.int .i64 rl.a) (.int .i64 rl.b) (.int .i64 rl.c) (.int .i64 rl.d) (.int .i64 rf.a) (.int .i64 rf.b) (.int .i64 rf.c) (.int .i64 rf.d) (.slice a0 rs.length cap0)) NB.out
              obtain ⟨_, _, e1, FF⟩ := QO.mks HR.out
              cases e1
              (refine Ord.takeH 10 12 (v := ?_) rfl rfl (by kernel_rfl) (by kernel_rfl) (by kernel_rfl) (fun _ _ _ h => h) (by rfl) ?_ (by assumption) ?_; rotate_left; (intro w hSw; (try dsimp only at hSw); go_simp; (first | done | with_reducible rfl)); (try simp only [Act.put, List.setIfInBounds_toArray, List.set_cons_zero, List.set_cons_succ]))
              refine wpAnyH_done (by kernel_rfl) ?_ _
              go_wp2_with fail
              go_meet
              exact ⟨⟨_, _, _, rfl, QB, QO, NB.out, by omega⟩, rfl, hE'⟩
        · go_simp
          have hE' : Ext w4 (V0.alloc (.cells (cellsC zeroL zeroL (.slice none 0 0)).toArray 30)) := hE.alloc _
          refine hK.out _ _ hE' (fun hHeld => ?_)
          clear hK K
          (try simp only [Act.put, List.setIfInBounds_toArray, List.set_cons_zero, List.set_cons_succ])
          have PB := Box.new (w := V0) (n := V0.heap.size) (vs := cellsC zeroL zeroL (.slice none 0 0)) (t := 30) rfl
          have zA := Ext.size hE
          have yA : V0.heap.size < (V0.alloc (.cells (cellsC zeroL zeroL (.slice none 0 0)).toArray 30)).heap.size := by simp
          replace hE := hE'
          clear hE'
          generalize V0.alloc (.cells (cellsC zeroL zeroL (.slice none 0 0)).toArray 30) = V1 at *
          refine wpAnyH_ready (rs := [3]) (by kernel_rfl) (by simp) ?_
          refine (AllReadyH.cons rfl (fun K hK => ?_) AllReadyH.nil)
          · go_simp
            go_at_call 25
            refine (toLine_any f.a f.b f.c f.d _).mono ?_
            rintro e V2 ⟨rfl, hy⟩
            go_wp2_with fail
            have zy := Ext.size hy
            have hE' := hE.trans hy
            refine hK.out _ _ hE' (fun hHeld => ?_)
            clear hK K
            (try simp only [Act.put, List.setIfInBounds_toArray, List.set_cons_zero, List.set_cons_succ])
            replace PB := Box.ext PB hy
            replace hE := hE'
            clear hE' hy
            refine wpAnyH_ready (rs := [4]) (by kernel_rfl) (by simp) ?_
            refine (AllReadyH.cons rfl (fun K hK => ?_) AllReadyH.nil)
            · go_simp
              go_at_call 20
              refine (KI.out _ _ _ ((P3.out.ext hE).mks HM.out) (Nat.le_refl _) HM.out.1).mono ?_
              rintro e V3 ⟨v0, rfl, OV, hy⟩
              have zV := Ext.size hE
              obtain ⟨a0, cap0, rfl, -⟩ := OV.mks HR.out
              have NB := Lib.hid (OV.block (B := V0.heap.size) (by omega))
              replace OV := Lib.hid (show OwnM V3 w4.heap.size (.slice a0 rs.length cap0) rs from row_mono OV (by omega))
              go_wp2_with fail
              have zy := Ext.size hy
              have hE' := hE.trans hy
              refine hK.out _ _ hE' (fun hHeld => ?_)
              clear hK K
              (try simp only [Act.put, List.setIfInBounds_toArray, List.set_cons_zero, List.set_cons_succ])
              replace PB := Box.ext PB hy
              replace hE := hE'
              clear hE' hy
              (refine Ord.takeH 5 34 (v := ?_) rfl rfl (by kernel_rfl) (by kernel_rfl) (by kernel_rfl) (fun _ _ _ h => h) (by rfl) ?_ (by assumption) ?_; rotate_left; (intro w hSw; (try dsimp only at hSw); go_simp; (first | done | with_reducible rfl)); (try simp only [Act.put, List.setIfInBounds_toArray, List.set_cons_zero, List.set_cons_succ])); (refine Ord.takeH 6 40 (v := ?_) rfl rfl (by kernel_rfl) (by kernel_rfl) (by kernel_rfl) (fun _ _ _ h => h) (by rfl) ?_ (by assumption) ?_; rotate_left; (intro w hSw; (try dsimp only at hSw); go_simp; (first | done | with_reducible rfl)); (try simp only [Act.put, List.setIfInBounds_toArray, List.set_cons_zero, List.set_cons_succ])); (refine Ord.takeH 7 41 (v := ?_) rfl rfl (by kernel_rfl) (by kernel_rfl) (by kernel_rfl) (fun _ _ _ h => h) (by rfl) ?_ (by assumption) ?_; rotate_left; (intro w hSw; (try dsimp only at hSw); go_simp; (first | done | with_reducible rfl)); (try simp only [Act.put, List.setIfInBounds_toArray, List.set_cons_zero, List.set_cons_succ]))
              refine wpAnyH_ready (rs := [9]) (by kernel_rfl) (by simp) ?_
              refine AllReadyH.cons rfl (fun K hK => ?_) AllReadyH.nil
              obtain ⟨⟨u0, u1, u2, u3, u4, u5, u6, u7, u8⟩, g0, g1, g2, g3, g4, g5, g6, g7, g8⟩ := Box.nine PB
              go_simp
              have hE' : Ext w4 (Crs.put9 V3 V0.heap.size (.int .i64 rl.a) (.int .i64 rl.b) (.int .i64 rl.c) (.int .i64 rl.d) (.int .i64 rf.a) (.int .i64 rf.b) (.int .i64 rf.c) (.int .i64 rf.d) (.slice a0 rs.length cap0)) := Ext.put9 hE (by omega) (.int .i64 rl.a) (.int .i64 rl.b) (.int .i64 rl.c) (.int .i64 rl.d) (.int .i64 rf.a) (.int .i64 rf.b) (.int .i64 rf.c) (.int .i64 rf.d) (.slice a0 rs.length cap0)
              refine hK.out _ _ hE' (fun hHeld => ?_)
              clear hK K
              (try simp only [Act.put, List.setIfInBounds_toArray, List.set_cons_zero, List.set_cons_succ])
              have QB := Box.put9 PB (.int .i64 rl.a) (.int .i64 rl.b) (.int .i64 rl.c) (.int .i64 rl.d) (.int .i64 rf.a) (.int .i64 rf.b) (.int .i64 rf.c) (.int .i64 rf.d) (.slice a0 rs.length cap0)
              have QO := OV.out.chg (Chg.put9 (n := V0.heap.size) (.int .i64 rl.a) (.int .i64 rl.b) (.int .i64 rl.c) (.int .i64 rl.d) (.int .i64 rf.a) (.int .i64 rf.b) (.int .i64 rf.c) (.int .i64 rf.d) (.slice a0 rs.length cap0)) NB.out
              obtain ⟨_, _, e1, FF⟩ := QO.mks HR.out
              cases e1
              (refine Ord.takeH 10 12 (v := ?_) rfl rfl (by kernel_rfl) (by kernel_rfl) (by kernel_rfl) (fun _ _ _ h => h) (by rfl) ?_ (by assumption) ?_; rotate_left; (intro w hSw; (try dsimp only at hSw); go_simp; (first | done | with_reducible rfl)); (try simp only [Act.put, List.setIfInBounds_toArray, List.set_cons_zero, List.set_cons_succ]))
              refine wpAnyH_done (by kernel_rfl) ?_ _
              go_wp2_with fail
              go_meet
              exact ⟨⟨_, _, _, rfl, QB, QO, NB.out, by omega⟩, rfl, hE'⟩
      case rest =>
        clear e0 c10 c11 c12 c13 c14 c15 c16 c17 c18 d10 d11 d12 d13
        obtain ⟨⟨B1, a1, cap1, rfl, S1, O1, N1, zB1⟩, rfl, h⟩ := hcut
        obtain ⟨w5, rfl⟩ : ∃ w5, w5 = wc := ⟨_, rfl⟩
        have z5 := Ext.size h
        have zb1 := World.block_lt_of_cell? w5 _ (S1 0 _ rfl).1
        simp at zb1
        replace P3 := Lib.hid (P3.out.ext h)
        replace BX := Lib.hid (BX.out.ext h)
        replace EX := Lib.hid (EX.out.trans h)
        replace S1 := Lib.hid S1
        replace O1 := Lib.hid O1
        replace N1 := Lib.hid N1
        clear h
        obtain ⟨_, _, e1, F1⟩ := O1.out.mks HR.out
        cases e1
        obtain ⟨⟨s0, s1, s2, s3, s4, s5, s6, s7, s8⟩, _⟩ := Box.nine (S0.out.ext EX.out)
        obtain ⟨⟨t0, t1, t2, t3, t4, t5, t6, t7, t8⟩, _⟩ := Box.nine S1.out
        go_wp2_with fail
        refine (eqCourse_same _ _ _ _ _ _ _ _ F1 (F0.out.ext EX.out)).mono ?_
        rintro e w6 ⟨rfl, h⟩
        have zw6 := Ext.size h
        clear F1 s0 s1 s2 s3 s4 s5 s6 s7 s8 t0 t1 t2 t3 t4 t5 t6 t7 t8
        replace P3 := Lib.hid (P3.out.ext h)
        replace BX := Lib.hid (BX.out.ext h)
        replace S1 := Lib.hid (S1.out.ext h)
        replace O1 := Lib.hid (O1.out.ext h)
        replace EX := Lib.hid (EX.out.trans h)
        clear h
        have c10 : ∀ w', Ext w6 w' → w'.cell? ⟨w.heap.size, 0, none⟩ = some (.int .i64 l.a) := fun w' h => ((BB.out.ext (X.out.trans (EX.out.trans h))) 0 _ rfl).1
        have c11 : ∀ w', Ext w6 w' → w'.cell? ⟨w.heap.size, 1, none⟩ = some (.int .i64 l.b) := fun w' h => ((BB.out.ext (X.out.trans (EX.out.trans h))) 1 _ rfl).1
        have c12 : ∀ w', Ext w6 w' → w'.cell? ⟨w.heap.size, 2, none⟩ = some (.int .i64 l.c) := fun w' h => ((BB.out.ext (X.out.trans (EX.out.trans h))) 2 _ rfl).1
        have c13 : ∀ w', Ext w6 w' → w'.cell? ⟨w.heap.size, 3, none⟩ = some (.int .i64 l.d) := fun w' h => ((BB.out.ext (X.out.trans (EX.out.trans h))) 3 _ rfl).1
        have c14 : ∀ w', Ext w6 w' → w'.cell? ⟨w.heap.size, 4, none⟩ = some (.int .i64 k.a) := fun w' h => ((BB.out.ext (X.out.trans (EX.out.trans h))) 4 _ rfl).1
        have c15 : ∀ w', Ext w6 w' → w'.cell? ⟨w.heap.size, 5, none⟩ = some (.int .i64 k.b) := fun w' h => ((BB.out.ext (X.out.trans (EX.out.trans h))) 5 _ rfl).1
        have c16 : ∀ w', Ext w6 w' → w'.cell? ⟨w.heap.size, 6, none⟩ = some (.int .i64 k.c) := fun w' h => ((BB.out.ext (X.out.trans (EX.out.trans h))) 6 _ rfl).1
        have c17 : ∀ w', Ext w6 w' → w'.cell? ⟨w.heap.size, 7, none⟩ = some (.int .i64 k.d) := fun w' h => ((BB.out.ext (X.out.trans (EX.out.trans h))) 7 _ rfl).1
        have c18 : ∀ w', Ext w6 w' → w'.cell? ⟨w.heap.size, 8, none⟩ = some (.slice a ms.length cap) := fun w' h => ((BB.out.ext (X.out.trans (EX.out.trans h))) 8 _ rfl).1
        have f10 : ∀ w', Ext w6 w' → w'.cell? ⟨w3.heap.size, 0, none⟩ = some (.int .i64 l.a) := fun w' h => ((BX.out.ext h) 0 _ rfl).1
        have f11 : ∀ w', Ext w6 w' → w'.cell? ⟨w3.heap.size, 1, none⟩ = some (.int .i64 l.b) := fun w' h => ((BX.out.ext h) 1 _ rfl).1
        have f12 : ∀ w', Ext w6 w' → w'.cell? ⟨w3.heap.size, 2, none⟩ = some (.int .i64 l.c) := fun w' h => ((BX.out.ext h) 2 _ rfl).1
        have f13 : ∀ w', Ext w6 w' → w'.cell? ⟨w3.heap.size, 3, none⟩ = some (.int .i64 l.d) := fun w' h => ((BX.out.ext h) 3 _ rfl).1
        have f14 : ∀ w', Ext w6 w' → w'.cell? ⟨w3.heap.size, 4, none⟩ = some (.int .i64 k.a) := fun w' h => ((BX.out.ext h) 4 _ rfl).1
        have f15 : ∀ w', Ext w6 w' → w'.cell? ⟨w3.heap.size, 5, none⟩ = some (.int .i64 k.b) := fun w' h => ((BX.out.ext h) 5 _ rfl).1
        have f16 : ∀ w', Ext w6 w' → w'.cell? ⟨w3.heap.size, 6, none⟩ = some (.int .i64 k.c) := fun w' h => ((BX.out.ext h) 6 _ rfl).1
        have f17 : ∀ w', Ext w6 w' → w'.cell? ⟨w3.heap.size, 7, none⟩ = some (.int .i64 k.d) := fun w' h => ((BX.out.ext h) 7 _ rfl).1
        have f18 : ∀ w', Ext w6 w' → w'.cell? ⟨w3.heap.size, 8, none⟩ = some (.slice (some ⟨B3, 0, none⟩) ms.length ms.length) := fun w' h => ((BX.out.ext h) 8 _ rfl).1
        go_wp2_with fail
        refine wp_region_held_drew (S := (fun w' => Ext w6 w')) (by kernel_rfl) (by (try dsimp only); first | go_keep | exact (Ext.refl _).drew | exact Res.new2.drew | exact Res.new4.drew | exact ResB.drew (by assumption) | exact ResC.drew (by assumption) | assumption | exact Res.drew (by assumption)) (fun hHeld => ?_)
        (refine Ord.takeH 0 51 (v := ?_) rfl rfl (by kernel_rfl) (by kernel_rfl) (by kernel_rfl) (fun _ _ _ h => h) (by rfl) ?_ (by assumption) ?_; rotate_left; (intro w hSw; (try dsimp only at hSw); go_simp; (first | done | with_reducible rfl)); (try simp only [Act.put, List.setIfInBounds_toArray, List.set_cons_zero, List.set_cons_succ]))
        (refine Ord.takeH 1 52 (v := ?_) rfl rfl (by kernel_rfl) (by kernel_rfl) (by kernel_rfl) (fun _ _ _ h => h) (by rfl) ?_ (by assumption) ?_; rotate_left; (intro w hSw; (try dsimp only at hSw); go_simp; (first | done | with_reducible rfl)); (try simp only [Act.put, List.setIfInBounds_toArray, List.set_cons_zero, List.set_cons_succ]))
        (refine wpAnyH_ready (rs := [2]) (by kernel_rfl) (by simp) ?_; refine AllReadyH.cons rfl (fun K hK => ?_) AllReadyH.nil; go_simp; (first | (go_at_call 29; refine (toCourse_any _ _ _ _ _ _ (HF.out.ext (X.out.trans (EX.out.trans (by first | assumption | exact (Ext.refl _).drew)))) HL.out).mono ?_; rintro e w7 ⟨B6, rfl, -, O6, hy⟩) | (go_at_call 30; refine (eqCourse_same _ _ _ _ _ _ _ _ ((P3.out.ext (by assumption)).mks HM.out) (O6.mks HM.out)).mono ?_; rintro e w8 ⟨rfl, hy⟩)); go_wp2_with fail; (refine hK.out _ _ (by first | assumption | exact Ext.trans (by assumption) hy | exact Res.ext (by assumption) hy | exact ResB.ext (by assumption) hy | exact ResC.ext (by assumption) hy | (go_split_ands; (repeat' apply And.intro) <;> exact Ext.cellOf hy (by assumption))) (fun hHeld => ?_)); clear hK K; (try simp only [Act.put, List.setIfInBounds_toArray, List.set_cons_zero, List.set_cons_succ]))
        (refine wpAnyH_ready (rs := [3]) (by kernel_rfl) (by simp) ?_; refine AllReadyH.cons rfl (fun K hK => ?_) AllReadyH.nil; go_simp; (first | (go_at_call 29; refine (toCourse_any _ _ _ _ _ _ (HF.out.ext (X.out.trans (EX.out.trans (by first | assumption | exact (Ext.refl _).drew)))) HL.out).mono ?_; rintro e w7 ⟨B6, rfl, -, O6, hy⟩) | (go_at_call 30; refine (eqCourse_same _ _ _ _ _ _ _ _ ((P3.out.ext (by assumption)).mks HM.out) (O6.mks HM.out)).mono ?_; rintro e w8 ⟨rfl, hy⟩)); go_wp2_with fail; (refine hK.out _ _ (by first | assumption | exact Ext.trans (by assumption) hy | exact Res.ext (by assumption) hy | exact ResB.ext (by assumption) hy | exact ResC.ext (by assumption) hy | (go_split_ands; (repeat' apply And.intro) <;> exact Ext.cellOf hy (by assumption))) (fun hHeld => ?_)); clear hK K; (try simp only [Act.put, List.setIfInBounds_toArray, List.set_cons_zero, List.set_cons_succ]))
        (refine Ord.takeH 4 55 (v := ?_) rfl rfl (by kernel_rfl) (by kernel_rfl) (by kernel_rfl) (fun _ _ _ h => h) (by rfl) ?_ (by assumption) ?_; rotate_left; (intro w hSw; (try dsimp only at hSw); go_simp; (first | done | with_reducible rfl)); (try simp only [Act.put, List.setIfInBounds_toArray, List.set_cons_zero, List.set_cons_succ]))
        refine wpAnyH_done (by kernel_rfl) ?_ _
        have h : Ext w6 w8 := hHeld
        have zw8 := Ext.size h
        replace P3 := Lib.hid (P3.out.ext h)
        replace BX := Lib.hid (BX.out.ext h)
        replace S1 := Lib.hid (S1.out.ext h)
        replace O1 := Lib.hid (O1.out.ext h)
        replace EX := Lib.hid (EX.out.trans h)
        clear h hHeld hy O6 c10 c11 c12 c13 c14 c15 c16 c17 c18 f10 f11 f12 f13 f14 f15 f16 f17 f18
        obtain ⟨⟨p0, p1, p2, p3, p4, p5, p6, p7, p8⟩, _⟩ := Box.nine BX.out
        have HL5 := HL.out
        have zn : decide (((1 + 5 * ms.length : Nat) : Int) < 0) = false := decide_eq_false (by omega)
        have zn2 : ¬ (((1 + 5 * ms.length : Nat) : Int) < 0) := by omega
        go_wp2_with fail
        refine (markCourse_any l k B3 _ w3.heap.size ms 1 _ P3.out HL.out (by omega)).mono ?_
        rintro e w9 ⟨rfl, C, hC, h⟩
        have c1 : w2.heap.size ≤ C := by rcases hC with ⟨_, rfl⟩ | rfl <;> omega
        have c2 : C ≤ w3.heap.size := by
          rcases hC with ⟨h0, rfl⟩ | rfl
          · have := n3 h0; omega
          · omega
        clear hC p0 p1 p2 p3 p4 p5 p6 p7 p8
        have zw9 := h.size
        replace EX := Lib.hid (h.ext EX.out c1)
        replace O1 := Lib.hid (O1.out.chg h (O1.out.block (by omega)))
        replace S1 := Lib.hid (Box.chg S1.out h (by omega))
        clear h P3 BX
        obtain ⟨_, _, e1, F1⟩ := O1.out.mks HR.out
        cases e1
        obtain ⟨⟨s0, s1, s2, s3, s4, s5, s6, s7, s8⟩, _⟩ := Box.nine (S0.out.ext EX.out)
        obtain ⟨⟨t0, t1, t2, t3, t4, t5, t6, t7, t8⟩, _⟩ := Box.nine S1.out
        go_wp2_with fail
        refine (eqCourse_same _ _ _ _ _ _ _ _ F1 (F0.out.ext EX.out)).mono ?_
        rintro e w10 ⟨rfl, h⟩
        have zw10 := Ext.size h
        clear F1 s0 s1 s2 s3 s4 s5 s6 s7 s8 t0 t1 t2 t3 t4 t5 t6 t7 t8
        replace S1 := Lib.hid (S1.out.ext h)
        replace O1 := Lib.hid (O1.out.ext h)
        replace EX := Lib.hid (EX.out.trans h)
        clear h
        obtain ⟨⟨t0, t1, t2, t3, t4, t5, t6, t7, t8⟩, _⟩ := Box.nine S1.out
        go_wp2_with fail
        refine (markCourse_own _ _ _ _ w4.heap.size 1 _ O1.out (by omega) HP2.out (by decide)).mono ?_
        rintro e w11 ⟨rfl, HH, C2, hC2, hC3, h⟩
        have c3 : B1 ≠ C2 := by
          rcases hC3 with e | rfl
          · intro q; exact N1.out (by rw [q]; exact e)
          · omega
        clear hC3 t0 t1 t2 t3 t4 t5 t6 t7 t8
        replace EX := Lib.hid (h.ext EX.out (by omega))
        replace S1 := Lib.hid (Box.chg S1.out h c3)
        replace HH := Lib.hid HH
        clear h O1
        have HP5 := HP2.out
        have zg : decide (((1 + 5 * rs.length : Nat) : Int) < 0) = false := decide_eq_false (by omega)
        have zg2 : ¬ (((1 + 5 * rs.length : Nat) : Int) < 0) := by omega
        obtain ⟨⟨t0, t1, t2, t3, t4, t5, t6, t7, t8⟩, _⟩ := Box.nine S1.out
        go_wp2_with fail
        refine (heldCourse_own _ _ _ _ w4.heap.size 1 _ HH.out HP2.out (by decide)).mono ?_
        rintro e w12 ⟨rfl, h⟩
        clear t0 t1 t2 t3 t4 t5 t6 t7 t8
        replace S1 := Lib.hid (S1.out.ext h)
        replace HH := Lib.hid (HH.out.ext h)
        replace EX := Lib.hid (EX.out.trans h)
        clear h
        have e0 : Ext w12 w12 := Ext.refl w12
        have c10 : ∀ w', Ext w12 w' → w'.cell? ⟨w.heap.size, 0, none⟩ = some (.int .i64 l.a) := fun w' h => ((BB.out.ext (X.out.trans (EX.out.trans h))) 0 _ rfl).1
        have c11 : ∀ w', Ext w12 w' → w'.cell? ⟨w.heap.size, 1, none⟩ = some (.int .i64 l.b) := fun w' h => ((BB.out.ext (X.out.trans (EX.out.trans h))) 1 _ rfl).1
        have c12 : ∀ w', Ext w12 w' → w'.cell? ⟨w.heap.size, 2, none⟩ = some (.int .i64 l.c) := fun w' h => ((BB.out.ext (X.out.trans (EX.out.trans h))) 2 _ rfl).1
        have c13 : ∀ w', Ext w12 w' → w'.cell? ⟨w.heap.size, 3, none⟩ = some (.int .i64 l.d) := fun w' h => ((BB.out.ext (X.out.trans (EX.out.trans h))) 3 _ rfl).1
        have c14 : ∀ w', Ext w12 w' → w'.cell? ⟨w.heap.size, 4, none⟩ = some (.int .i64 k.a) := fun w' h => ((BB.out.ext (X.out.trans (EX.out.trans h))) 4 _ rfl).1
        have c15 : ∀ w', Ext w12 w' → w'.cell? ⟨w.heap.size, 5, none⟩ = some (.int .i64 k.b) := fun w' h => ((BB.out.ext (X.out.trans (EX.out.trans h))) 5 _ rfl).1
        have c16 : ∀ w', Ext w12 w' → w'.cell? ⟨w.heap.size, 6, none⟩ = some (.int .i64 k.c) := fun w' h => ((BB.out.ext (X.out.trans (EX.out.trans h))) 6 _ rfl).1
        have c17 : ∀ w', Ext w12 w' → w'.cell? ⟨w.heap.size, 7, none⟩ = some (.int .i64 k.d) := fun w' h => ((BB.out.ext (X.out.trans (EX.out.trans h))) 7 _ rfl).1
        have c18 : ∀ w', Ext w12 w' → w'.cell? ⟨w.heap.size, 8, none⟩ = some (.slice a ms.length cap) := fun w' h => ((BB.out.ext (X.out.trans (EX.out.trans h))) 8 _ rfl).1
        have d10 : ∀ w', Ext w12 w' → w'.cell? ⟨w.heap.size + 1, 0, none⟩ = some (.int .i64 f.a) := fun w' h => ((BL.out.ext (X.out.trans (EX.out.trans h))) 0 _ rfl).1
        have d11 : ∀ w', Ext w12 w' → w'.cell? ⟨w.heap.size + 1, 1, none⟩ = some (.int .i64 f.b) := fun w' h => ((BL.out.ext (X.out.trans (EX.out.trans h))) 1 _ rfl).1
        have d12 : ∀ w', Ext w12 w' → w'.cell? ⟨w.heap.size + 1, 2, none⟩ = some (.int .i64 f.c) := fun w' h => ((BL.out.ext (X.out.trans (EX.out.trans h))) 2 _ rfl).1
        have d13 : ∀ w', Ext w12 w' → w'.cell? ⟨w.heap.size + 1, 3, none⟩ = some (.int .i64 f.d) := fun w' h => ((BL.out.ext (X.out.trans (EX.out.trans h))) 3 _ rfl).1
        go_upto_region 24 with fail
        go_cut [16, 17] (fun s t wx => (∃ (B : Nat) (a0 : Option Addr) (cap0 : Nat), s = .pointer (some ⟨B, 0, none⟩) ∧ Box wx B (cellsC rl rf (.slice a0 rs.length cap0)) ∧ Mks wx a0 rs) ∧ t = .int .i64 ck ∧ Ext w12 wx)
        case first =>
          refine wp_region_held_drew (S := fun w' => Ext w12 w') (by kernel_rfl) (by (try dsimp only); exact (Ext.refl _).drew) (fun hHeld => ?_)
          (refine Ord.takeH 0 84 (v := ?_) rfl rfl (by kernel_rfl) (by kernel_rfl) (by kernel_rfl) (fun _ _ _ h => h) (by rfl) ?_ (by assumption) ?_; rotate_left; (intro w hSw; (try dsimp only at hSw); go_simp; (first | done | with_reducible rfl)); (try simp only [Act.put, List.setIfInBounds_toArray, List.set_cons_zero, List.set_cons_succ])); (refine Ord.takeH 2 86 (v := ?_) rfl rfl (by kernel_rfl) (by kernel_rfl) (by kernel_rfl) (fun _ _ _ h => h) (by rfl) ?_ (by assumption) ?_; rotate_left; (intro w hSw; (try dsimp only at hSw); go_simp; (first | done | with_reducible rfl)); (try simp only [Act.put, List.setIfInBounds_toArray, List.set_cons_zero, List.set_cons_succ])); (refine Ord.takeH 3 87 (v := ?_) rfl rfl (by kernel_rfl) (by kernel_rfl) (by kernel_rfl) (fun _ _ _ h => h) (by rfl) ?_ (by assumption) ?_; rotate_left; (intro w hSw; (try dsimp only at hSw); go_simp; (first | done | with_reducible rfl)); (try simp only [Act.put, List.setIfInBounds_toArray, List.set_cons_zero, List.set_cons_succ]))
          have hE : Ext w12 w12.drew := (Ext.refl w12).drew
          obtain ⟨V0, hV0⟩ : ∃ V0, V0 = w12.drew := ⟨_, rfl⟩
          rw [← hV0] at hE hHeld ⊢
          clear hV0 c10 c11 c12 c13 c14 c15 c16 c17 c18 d10 d11 d12 d13
          have z00 := Ext.size hE
          refine wpAnyH_ready (rs := [1, 9]) (by kernel_rfl) (by simp) ?_
          refine (AllReadyH.cons rfl (fun K hK => ?_) (AllReadyH.cons rfl (fun K hK => ?_) AllReadyH.nil))
          · go_simp
            go_at_call 29
            refine (toCourse_any _ _ _ _ _ _ (HF.out.ext (X.out.trans (EX.out.trans hE))) HL.out).mono ?_
            rintro e V1 ⟨B1, rfl, -, O1, hy⟩
            go_wp2_with fail
            have zy := Ext.size hy
            have hE' := hE.trans hy
            refine hK.out _ _ hE' (fun hHeld => ?_)
            clear hK K
            (try simp only [Act.put, List.setIfInBounds_toArray, List.set_cons_zero, List.set_cons_succ])
            replace O1 := Lib.hid O1
            replace hE := hE'
            clear hE' hy
            refine wpAnyH_ready (rs := [4, 9]) (by kernel_rfl) (by simp) ?_
            refine (AllReadyH.cons rfl (fun K hK => ?_) (AllReadyH.cons rfl (fun K hK => ?_) AllReadyH.nil))
            · go_simp
              go_at_call 25
              refine (toLine_any f.a f.b f.c f.d _).mono ?_
              rintro e V2 ⟨rfl, hy⟩
              go_wp2_with fail
              have zy := Ext.size hy
              have hE' := hE.trans hy
              refine hK.out _ _ hE' (fun hHeld => ?_)
              clear hK K
              (try simp only [Act.put, List.setIfInBounds_toArray, List.set_cons_zero, List.set_cons_succ])
              replace O1 := Lib.hid (O1.out.ext hy)
              replace hE := hE'
              clear hE' hy
              refine wpAnyH_ready (rs := [5, 9]) (by kernel_rfl) (by simp) ?_
              refine (AllReadyH.cons rfl (fun K hK => ?_) (AllReadyH.cons rfl (fun K hK => ?_) AllReadyH.nil))
              · go_simp
                go_at_call 20
                refine (KI.out _ _ _ (O1.out.mks HM.out) (Nat.le_refl _) HM.out.1).mono ?_
                rintro e V3 ⟨v0, rfl, OV, hy⟩
                have zV := Ext.size hE
                obtain ⟨a0, cap0, rfl, -⟩ := OV.mks HR.out
                replace OV := Lib.hid (show OwnM V3 w12.heap.size (.slice a0 rs.length cap0) rs from row_mono OV (by omega))
                go_wp2_with fail
                have zy := Ext.size hy
                have hE' := hE.trans hy
                refine hK.out _ _ hE' (fun hHeld => ?_)
                clear hK K
                (try simp only [Act.put, List.setIfInBounds_toArray, List.set_cons_zero, List.set_cons_succ])
                replace hE := hE'
                clear hE' hy
                (refine Ord.takeH 6 83 (v := ?_) rfl rfl (by kernel_rfl) (by kernel_rfl) (by kernel_rfl) (fun _ _ _ h => h) (by rfl) ?_ (by assumption) ?_; rotate_left; (intro w hSw; (try dsimp only at hSw); go_simp; (first | done | with_reducible rfl)); (try simp only [Act.put, List.setIfInBounds_toArray, List.set_cons_zero, List.set_cons_succ])); (refine Ord.takeH 7 90 (v := ?_) rfl rfl (by kernel_rfl) (by kernel_rfl) (by kernel_rfl) (fun _ _ _ h => h) (by rfl) ?_ (by assumption) ?_; rotate_left; (intro w hSw; (try dsimp only at hSw); go_simp; (first | done | with_reducible rfl)); (try simp only [Act.put, List.setIfInBounds_toArray, List.set_cons_zero, List.set_cons_succ])); (refine Ord.takeH 8 91 (v := ?_) rfl rfl (by kernel_rfl) (by kernel_rfl) (by kernel_rfl) (fun _ _ _ h => h) (by rfl) ?_ (by assumption) ?_; rotate_left; (intro w hSw; (try dsimp only at hSw); go_simp; (first | done | with_reducible rfl)); (try simp only [Act.put, List.setIfInBounds_toArray, List.set_cons_zero, List.set_cons_succ]))
                refine wpAnyH_ready (rs := [9]) (by kernel_rfl) (by simp) ?_
                refine (AllReadyH.cons rfl (fun K hK => ?_) AllReadyH.nil)
                · go_simp
                  have hE' : Ext w12 (V3.alloc (.cells (cellsC zeroL zeroL (.slice none 0 0)).toArray 30)) := hE.alloc _
                  refine hK.out _ _ hE' (fun hHeld => ?_)
                  clear hK K
                  (try simp only [Act.put, List.setIfInBounds_toArray, List.set_cons_zero, List.set_cons_succ])
                  have PB := Box.new (w := V3) (n := V3.heap.size) (vs := cellsC zeroL zeroL (.slice none 0 0)) (t := 30) rfl
                  have zA := Ext.size hE
                  have yA : V3.heap.size < (V3.alloc (.cells (cellsC zeroL zeroL (.slice none 0 0)).toArray 30)).heap.size := by simp
                  have NB := Lib.hid (fun (e : (Value.slice a0 rs.length cap0).ownBlock = some V3.heap.size) => show False by have := (World.ownsRow.lt OV.out _ e).2; omega)
                  replace OV := Lib.hid (OV.out.ext ((Ext.refl V3).alloc (.cells (cellsC zeroL zeroL (.slice none 0 0)).toArray 30)))
                  replace hE := hE'
                  clear hE'
                  generalize V3.alloc (.cells (cellsC zeroL zeroL (.slice none 0 0)).toArray 30) = V4 at *
                  refine wpAnyH_ready (rs := [10]) (by kernel_rfl) (by simp) ?_
                  refine AllReadyH.cons rfl (fun K hK => ?_) AllReadyH.nil
                  obtain ⟨⟨u0, u1, u2, u3, u4, u5, u6, u7, u8⟩, g0, g1, g2, g3, g4, g5, g6, g7, g8⟩ := Box.nine PB
                  go_simp
                  have hE' : Ext w12 (Crs.put9 V4 V3.heap.size (.int .i64 rl.a) (.int .i64 rl.b) (.int .i64 rl.c) (.int .i64 rl.d) (.int .i64 rf.a) (.int .i64 rf.b) (.int .i64 rf.c) (.int .i64 rf.d) (.slice a0 rs.length cap0)) := Ext.put9 hE (by omega) (.int .i64 rl.a) (.int .i64 rl.b) (.int .i64 rl.c) (.int .i64 rl.d) (.int .i64 rf.a) (.int .i64 rf.b) (.int .i64 rf.c) (.int .i64 rf.d) (.slice a0 rs.length cap0)
                  refine hK.out _ _ hE' (fun hHeld => ?_)
                  clear hK K
                  (try simp only [Act.put, List.setIfInBounds_toArray, List.set_cons_zero, List.set_cons_succ])
                  have QB := Box.put9 PB (.int .i64 rl.a) (.int .i64 rl.b) (.int .i64 rl.c) (.int .i64 rl.d) (.int .i64 rf.a) (.int .i64 rf.b) (.int .i64 rf.c) (.int .i64 rf.d) (.slice a0 rs.length cap0)
                  have QO := OV.out.chg (Chg.put9 (n := V3.heap.size) (.int .i64 rl.a) (.int .i64 rl.b) (.int .i64 rl.c) (.int .i64 rl.d) (.int .i64 rf.a) (.int .i64 rf.b) (.int .i64 rf.c) (.int .i64 rf.d) (.slice a0 rs.length cap0)) NB.out
                  obtain ⟨_, _, e1, FF⟩ := QO.mks HR.out
                  cases e1
                  (refine Ord.takeH 11 17 (v := ?_) rfl rfl (by kernel_rfl) (by kernel_rfl) (by kernel_rfl) (fun _ _ _ h => h) (by rfl) ?_ (by assumption) ?_; rotate_left; (intro w hSw; (try dsimp only at hSw); go_simp; (first | done | with_reducible rfl)); (try simp only [Act.put, List.setIfInBounds_toArray, List.set_cons_zero, List.set_cons_succ]))
                  refine wpAnyH_done (by kernel_rfl) ?_ _
                  go_wp2_with fail
                  go_meet
                  exact ⟨⟨_, _, _, rfl, QB, FF⟩, rfl, hE'⟩
              · go_simp
                have hE' : Ext w12 (V2.alloc (.cells (cellsC zeroL zeroL (.slice none 0 0)).toArray 30)) := hE.alloc _
                refine hK.out _ _ hE' (fun hHeld => ?_)
                clear hK K
                (try simp only [Act.put, List.setIfInBounds_toArray, List.set_cons_zero, List.set_cons_succ])
                have PB := Box.new (w := V2) (n := V2.heap.size) (vs := cellsC zeroL zeroL (.slice none 0 0)) (t := 30) rfl
                have zA := Ext.size hE
                have yA : V2.heap.size < (V2.alloc (.cells (cellsC zeroL zeroL (.slice none 0 0)).toArray 30)).heap.size := by simp
                replace O1 := Lib.hid (O1.out.ext ((Ext.refl V2).alloc (.cells (cellsC zeroL zeroL (.slice none 0 0)).toArray 30)))
                replace hE := hE'
                clear hE'
                generalize V2.alloc (.cells (cellsC zeroL zeroL (.slice none 0 0)).toArray 30) = V3 at *
                refine wpAnyH_ready (rs := [5]) (by kernel_rfl) (by simp) ?_
                refine (AllReadyH.cons rfl (fun K hK => ?_) AllReadyH.nil)
                · go_simp
                  go_at_call 20
                  refine (KI.out _ _ _ (O1.out.mks HM.out) (Nat.le_refl _) HM.out.1).mono ?_
                  rintro e V4 ⟨v0, rfl, OV, hy⟩
                  have zV := Ext.size hE
                  obtain ⟨a0, cap0, rfl, -⟩ := OV.mks HR.out
                  have NB := Lib.hid (OV.block (B := V2.heap.size) (by omega))
                  replace OV := Lib.hid (show OwnM V4 w12.heap.size (.slice a0 rs.length cap0) rs from row_mono OV (by omega))
                  go_wp2_with fail
                  have zy := Ext.size hy
                  have hE' := hE.trans hy
                  refine hK.out _ _ hE' (fun hHeld => ?_)
                  clear hK K
                  (try simp only [Act.put, List.setIfInBounds_toArray, List.set_cons_zero, List.set_cons_succ])
                  replace PB := Box.ext PB hy
                  replace hE := hE'
                  clear hE' hy
                  (refine Ord.takeH 6 83 (v := ?_) rfl rfl (by kernel_rfl) (by kernel_rfl) (by kernel_rfl) (fun _ _ _ h => h) (by rfl) ?_ (by assumption) ?_; rotate_left; (intro w hSw; (try dsimp only at hSw); go_simp; (first | done | with_reducible rfl)); (try simp only [Act.put, List.setIfInBounds_toArray, List.set_cons_zero, List.set_cons_succ])); (refine Ord.takeH 7 90 (v := ?_) rfl rfl (by kernel_rfl) (by kernel_rfl) (by kernel_rfl) (fun _ _ _ h => h) (by rfl) ?_ (by assumption) ?_; rotate_left; (intro w hSw; (try dsimp only at hSw); go_simp; (first | done | with_reducible rfl)); (try simp only [Act.put, List.setIfInBounds_toArray, List.set_cons_zero, List.set_cons_succ])); (refine Ord.takeH 8 91 (v := ?_) rfl rfl (by kernel_rfl) (by kernel_rfl) (by kernel_rfl) (fun _ _ _ h => h) (by rfl) ?_ (by assumption) ?_; rotate_left; (intro w hSw; (try dsimp only at hSw); go_simp; (first | done | with_reducible rfl)); (try simp only [Act.put, List.setIfInBounds_toArray, List.set_cons_zero, List.set_cons_succ]))
                  refine wpAnyH_ready (rs := [10]) (by kernel_rfl) (by simp) ?_
                  refine AllReadyH.cons rfl (fun K hK => ?_) AllReadyH.nil
                  obtain ⟨⟨u0, u1, u2, u3, u4, u5, u6, u7, u8⟩, g0, g1, g2, g3, g4, g5, g6, g7, g8⟩ := Box.nine PB
                  go_simp
                  have hE' : Ext w12 (Crs.put9 V4 V2.heap.size (.int .i64 rl.a) (.int .i64 rl.b) (.int .i64 rl.c) (.int .i64 rl.d) (.int .i64 rf.a) (.int .i64 rf.b) (.int .i64 rf.c) (.int .i64 rf.d) (.slice a0 rs.length cap0)) := Ext.put9 hE (by omega) (.int .i64 rl.a) (.int .i64 rl.b) (.int .i64 rl.c) (.int .i64 rl.d) (.int .i64 rf.a) (.int .i64 rf.b) (.int .i64 rf.c) (.int .i64 rf.d) (.slice a0 rs.length cap0)
                  refine hK.out _ _ hE' (fun hHeld => ?_)
                  clear hK K
                  (try simp only [Act.put, List.setIfInBounds_toArray, List.set_cons_zero, List.set_cons_succ])
                  have QB := Box.put9 PB (.int .i64 rl.a) (.int .i64 rl.b) (.int .i64 rl.c) (.int .i64 rl.d) (.int .i64 rf.a) (.int .i64 rf.b) (.int .i64 rf.c) (.int .i64 rf.d) (.slice a0 rs.length cap0)
                  have QO := OV.out.chg (Chg.put9 (n := V2.heap.size) (.int .i64 rl.a) (.int .i64 rl.b) (.int .i64 rl.c) (.int .i64 rl.d) (.int .i64 rf.a) (.int .i64 rf.b) (.int .i64 rf.c) (.int .i64 rf.d) (.slice a0 rs.length cap0)) NB.out
                  obtain ⟨_, _, e1, FF⟩ := QO.mks HR.out
                  cases e1
                  (refine Ord.takeH 11 17 (v := ?_) rfl rfl (by kernel_rfl) (by kernel_rfl) (by kernel_rfl) (fun _ _ _ h => h) (by rfl) ?_ (by assumption) ?_; rotate_left; (intro w hSw; (try dsimp only at hSw); go_simp; (first | done | with_reducible rfl)); (try simp only [Act.put, List.setIfInBounds_toArray, List.set_cons_zero, List.set_cons_succ]))
                  refine wpAnyH_done (by kernel_rfl) ?_ _
                  go_wp2_with fail
                  go_meet
                  exact ⟨⟨_, _, _, rfl, QB, FF⟩, rfl, hE'⟩
            · go_simp
              have hE' : Ext w12 (V1.alloc (.cells (cellsC zeroL zeroL (.slice none 0 0)).toArray 30)) := hE.alloc _
              refine hK.out _ _ hE' (fun hHeld => ?_)
              clear hK K
              (try simp only [Act.put, List.setIfInBounds_toArray, List.set_cons_zero, List.set_cons_succ])
              have PB := Box.new (w := V1) (n := V1.heap.size) (vs := cellsC zeroL zeroL (.slice none 0 0)) (t := 30) rfl
              have zA := Ext.size hE
              have yA : V1.heap.size < (V1.alloc (.cells (cellsC zeroL zeroL (.slice none 0 0)).toArray 30)).heap.size := by simp
              replace O1 := Lib.hid (O1.out.ext ((Ext.refl V1).alloc (.cells (cellsC zeroL zeroL (.slice none 0 0)).toArray 30)))
              replace hE := hE'
              clear hE'
              generalize V1.alloc (.cells (cellsC zeroL zeroL (.slice none 0 0)).toArray 30) = V2 at *
              refine wpAnyH_ready (rs := [4]) (by kernel_rfl) (by simp) ?_
              refine (AllReadyH.cons rfl (fun K hK => ?_) AllReadyH.nil)
              · go_simp
                go_at_call 25
                refine (toLine_any f.a f.b f.c f.d _).mono ?_
                rintro e V3 ⟨rfl, hy⟩
                go_wp2_with fail
                have zy := Ext.size hy
                have hE' := hE.trans hy
                refine hK.out _ _ hE' (fun hHeld => ?_)
                clear hK K
                (try simp only [Act.put, List.setIfInBounds_toArray, List.set_cons_zero, List.set_cons_succ])
                replace O1 := Lib.hid (O1.out.ext hy)
                replace PB := Box.ext PB hy
                replace hE := hE'
                clear hE' hy
                refine wpAnyH_ready (rs := [5]) (by kernel_rfl) (by simp) ?_
                refine (AllReadyH.cons rfl (fun K hK => ?_) AllReadyH.nil)
                · go_simp
                  go_at_call 20
                  refine (KI.out _ _ _ (O1.out.mks HM.out) (Nat.le_refl _) HM.out.1).mono ?_
                  rintro e V4 ⟨v0, rfl, OV, hy⟩
                  have zV := Ext.size hE
                  obtain ⟨a0, cap0, rfl, -⟩ := OV.mks HR.out
                  have NB := Lib.hid (OV.block (B := V1.heap.size) (by omega))
                  replace OV := Lib.hid (show OwnM V4 w12.heap.size (.slice a0 rs.length cap0) rs from row_mono OV (by omega))
                  go_wp2_with fail
                  have zy := Ext.size hy
                  have hE' := hE.trans hy
                  refine hK.out _ _ hE' (fun hHeld => ?_)
                  clear hK K
                  (try simp only [Act.put, List.setIfInBounds_toArray, List.set_cons_zero, List.set_cons_succ])
                  replace PB := Box.ext PB hy
                  replace hE := hE'
                  clear hE' hy
                  (refine Ord.takeH 6 83 (v := ?_) rfl rfl (by kernel_rfl) (by kernel_rfl) (by kernel_rfl) (fun _ _ _ h => h) (by rfl) ?_ (by assumption) ?_; rotate_left; (intro w hSw; (try dsimp only at hSw); go_simp; (first | done | with_reducible rfl)); (try simp only [Act.put, List.setIfInBounds_toArray, List.set_cons_zero, List.set_cons_succ])); (refine Ord.takeH 7 90 (v := ?_) rfl rfl (by kernel_rfl) (by kernel_rfl) (by kernel_rfl) (fun _ _ _ h => h) (by rfl) ?_ (by assumption) ?_; rotate_left; (intro w hSw; (try dsimp only at hSw); go_simp; (first | done | with_reducible rfl)); (try simp only [Act.put, List.setIfInBounds_toArray, List.set_cons_zero, List.set_cons_succ])); (refine Ord.takeH 8 91 (v := ?_) rfl rfl (by kernel_rfl) (by kernel_rfl) (by kernel_rfl) (fun _ _ _ h => h) (by rfl) ?_ (by assumption) ?_; rotate_left; (intro w hSw; (try dsimp only at hSw); go_simp; (first | done | with_reducible rfl)); (try simp only [Act.put, List.setIfInBounds_toArray, List.set_cons_zero, List.set_cons_succ]))
                  refine wpAnyH_ready (rs := [10]) (by kernel_rfl) (by simp) ?_
                  refine AllReadyH.cons rfl (fun K hK => ?_) AllReadyH.nil
                  obtain ⟨⟨u0, u1, u2, u3, u4, u5, u6, u7, u8⟩, g0, g1, g2, g3, g4, g5, g6, g7, g8⟩ := Box.nine PB
                  go_simp
                  have hE' : Ext w12 (Crs.put9 V4 V1.heap.size (.int .i64 rl.a) (.int .i64 rl.b) (.int .i64 rl.c) (.int .i64 rl.d) (.int .i64 rf.a) (.int .i64 rf.b) (.int .i64 rf.c) (.int .i64 rf.d) (.slice a0 rs.length cap0)) := Ext.put9 hE (by omega) (.int .i64 rl.a) (.int .i64 rl.b) (.int .i64 rl.c) (.int .i64 rl.d) (.int .i64 rf.a) (.int .i64 rf.b) (.int .i64 rf.c) (.int .i64 rf.d) (.slice a0 rs.length cap0)
                  refine hK.out _ _ hE' (fun hHeld => ?_)
                  clear hK K
                  (try simp only [Act.put, List.setIfInBounds_toArray, List.set_cons_zero, List.set_cons_succ])
                  have QB := Box.put9 PB (.int .i64 rl.a) (.int .i64 rl.b) (.int .i64 rl.c) (.int .i64 rl.d) (.int .i64 rf.a) (.int .i64 rf.b) (.int .i64 rf.c) (.int .i64 rf.d) (.slice a0 rs.length cap0)
                  have QO := OV.out.chg (Chg.put9 (n := V1.heap.size) (.int .i64 rl.a) (.int .i64 rl.b) (.int .i64 rl.c) (.int .i64 rl.d) (.int .i64 rf.a) (.int .i64 rf.b) (.int .i64 rf.c) (.int .i64 rf.d) (.slice a0 rs.length cap0)) NB.out
                  obtain ⟨_, _, e1, FF⟩ := QO.mks HR.out
                  cases e1
                  (refine Ord.takeH 11 17 (v := ?_) rfl rfl (by kernel_rfl) (by kernel_rfl) (by kernel_rfl) (fun _ _ _ h => h) (by rfl) ?_ (by assumption) ?_; rotate_left; (intro w hSw; (try dsimp only at hSw); go_simp; (first | done | with_reducible rfl)); (try simp only [Act.put, List.setIfInBounds_toArray, List.set_cons_zero, List.set_cons_succ]))
                  refine wpAnyH_done (by kernel_rfl) ?_ _
                  go_wp2_with fail
                  go_meet
                  exact ⟨⟨_, _, _, rfl, QB, FF⟩, rfl, hE'⟩
          · go_simp
            have hE' : Ext w12 (V0.alloc (.cells (cellsC zeroL zeroL (.slice none 0 0)).toArray 30)) := hE.alloc _
            refine hK.out _ _ hE' (fun hHeld => ?_)
            clear hK K
            (try simp only [Act.put, List.setIfInBounds_toArray, List.set_cons_zero, List.set_cons_succ])
            have PB := Box.new (w := V0) (n := V0.heap.size) (vs := cellsC zeroL zeroL (.slice none 0 0)) (t := 30) rfl
            have zA := Ext.size hE
            have yA : V0.heap.size < (V0.alloc (.cells (cellsC zeroL zeroL (.slice none 0 0)).toArray 30)).heap.size := by simp
            replace hE := hE'
            clear hE'
            generalize V0.alloc (.cells (cellsC zeroL zeroL (.slice none 0 0)).toArray 30) = V1 at *
            refine wpAnyH_ready (rs := [1]) (by kernel_rfl) (by simp) ?_
            refine (AllReadyH.cons rfl (fun K hK => ?_) AllReadyH.nil)
            · go_simp
              go_at_call 29
              refine (toCourse_any _ _ _ _ _ _ (HF.out.ext (X.out.trans (EX.out.trans hE))) HL.out).mono ?_
              rintro e V2 ⟨B1, rfl, -, O1, hy⟩
              go_wp2_with fail
              have zy := Ext.size hy
              have hE' := hE.trans hy
              refine hK.out _ _ hE' (fun hHeld => ?_)
              clear hK K
              (try simp only [Act.put, List.setIfInBounds_toArray, List.set_cons_zero, List.set_cons_succ])
              replace O1 := Lib.hid O1
              replace PB := Box.ext PB hy
              replace hE := hE'
              clear hE' hy
              refine wpAnyH_ready (rs := [4]) (by kernel_rfl) (by simp) ?_
              refine (AllReadyH.cons rfl (fun K hK => ?_) AllReadyH.nil)
              · go_simp
                go_at_call 25
                refine (toLine_any f.a f.b f.c f.d _).mono ?_
                rintro e V3 ⟨rfl, hy⟩
                go_wp2_with fail
                have zy := Ext.size hy
                have hE' := hE.trans hy
                refine hK.out _ _ hE' (fun hHeld => ?_)
                clear hK K
                (try simp only [Act.put, List.setIfInBounds_toArray, List.set_cons_zero, List.set_cons_succ])
                replace O1 := Lib.hid (O1.out.ext hy)
                replace PB := Box.ext PB hy
                replace hE := hE'
                clear hE' hy
                refine wpAnyH_ready (rs := [5]) (by kernel_rfl) (by simp) ?_
                refine (AllReadyH.cons rfl (fun K hK => ?_) AllReadyH.nil)
                · go_simp
                  go_at_call 20
                  refine (KI.out _ _ _ (O1.out.mks HM.out) (Nat.le_refl _) HM.out.1).mono ?_
                  rintro e V4 ⟨v0, rfl, OV, hy⟩
                  have zV := Ext.size hE
                  obtain ⟨a0, cap0, rfl, -⟩ := OV.mks HR.out
                  have NB := Lib.hid (OV.block (B := V0.heap.size) (by omega))
                  replace OV := Lib.hid (show OwnM V4 w12.heap.size (.slice a0 rs.length cap0) rs from row_mono OV (by omega))
                  go_wp2_with fail
                  have zy := Ext.size hy
                  have hE' := hE.trans hy
                  refine hK.out _ _ hE' (fun hHeld => ?_)
                  clear hK K
                  (try simp only [Act.put, List.setIfInBounds_toArray, List.set_cons_zero, List.set_cons_succ])
                  replace PB := Box.ext PB hy
                  replace hE := hE'
                  clear hE' hy
                  (refine Ord.takeH 6 83 (v := ?_) rfl rfl (by kernel_rfl) (by kernel_rfl) (by kernel_rfl) (fun _ _ _ h => h) (by rfl) ?_ (by assumption) ?_; rotate_left; (intro w hSw; (try dsimp only at hSw); go_simp; (first | done | with_reducible rfl)); (try simp only [Act.put, List.setIfInBounds_toArray, List.set_cons_zero, List.set_cons_succ])); (refine Ord.takeH 7 90 (v := ?_) rfl rfl (by kernel_rfl) (by kernel_rfl) (by kernel_rfl) (fun _ _ _ h => h) (by rfl) ?_ (by assumption) ?_; rotate_left; (intro w hSw; (try dsimp only at hSw); go_simp; (first | done | with_reducible rfl)); (try simp only [Act.put, List.setIfInBounds_toArray, List.set_cons_zero, List.set_cons_succ])); (refine Ord.takeH 8 91 (v := ?_) rfl rfl (by kernel_rfl) (by kernel_rfl) (by kernel_rfl) (fun _ _ _ h => h) (by rfl) ?_ (by assumption) ?_; rotate_left; (intro w hSw; (try dsimp only at hSw); go_simp; (first | done | with_reducible rfl)); (try simp only [Act.put, List.setIfInBounds_toArray, List.set_cons_zero, List.set_cons_succ]))
                  refine wpAnyH_ready (rs := [10]) (by kernel_rfl) (by simp) ?_
                  refine AllReadyH.cons rfl (fun K hK => ?_) AllReadyH.nil
                  obtain ⟨⟨u0, u1, u2, u3, u4, u5, u6, u7, u8⟩, g0, g1, g2, g3, g4, g5, g6, g7, g8⟩ := Box.nine PB
                  go_simp
                  have hE' : Ext w12 (Crs.put9 V4 V0.heap.size (.int .i64 rl.a) (.int .i64 rl.b) (.int .i64 rl.c) (.int .i64 rl.d) (.int .i64 rf.a) (.int .i64 rf.b) (.int .i64 rf.c) (.int .i64 rf.d) (.slice a0 rs.length cap0)) := Ext.put9 hE (by omega) (.int .i64 rl.a) (.int .i64 rl.b) (.int .i64 rl.c) (.int .i64 rl.d) (.int .i64 rf.a) (.int .i64 rf.b) (.int .i64 rf.c) (.int .i64 rf.d) (.slice a0 rs.length cap0)
                  refine hK.out _ _ hE' (fun hHeld => ?_)
                  clear hK K
                  (try simp only [Act.put, List.setIfInBounds_toArray, List.set_cons_zero, List.set_cons_succ])
                  have QB := Box.put9 PB (.int .i64 rl.a) (.int .i64 rl.b) (.int .i64 rl.c) (.int .i64 rl.d) (.int .i64 rf.a) (.int .i64 rf.b) (.int .i64 rf.c) (.int .i64 rf.d) (.slice a0 rs.length cap0)
                  have QO := OV.out.chg (Chg.put9 (n := V0.heap.size) (.int .i64 rl.a) (.int .i64 rl.b) (.int .i64 rl.c) (.int .i64 rl.d) (.int .i64 rf.a) (.int .i64 rf.b) (.int .i64 rf.c) (.int .i64 rf.d) (.slice a0 rs.length cap0)) NB.out
                  obtain ⟨_, _, e1, FF⟩ := QO.mks HR.out
                  cases e1
                  (refine Ord.takeH 11 17 (v := ?_) rfl rfl (by kernel_rfl) (by kernel_rfl) (by kernel_rfl) (fun _ _ _ h => h) (by rfl) ?_ (by assumption) ?_; rotate_left; (intro w hSw; (try dsimp only at hSw); go_simp; (first | done | with_reducible rfl)); (try simp only [Act.put, List.setIfInBounds_toArray, List.set_cons_zero, List.set_cons_succ]))
                  refine wpAnyH_done (by kernel_rfl) ?_ _
                  go_wp2_with fail
                  go_meet
                  exact ⟨⟨_, _, _, rfl, QB, FF⟩, rfl, hE'⟩
        case rest =>
          clear e0 c10 c11 c12 c13 c14 c15 c16 c17 c18 d10 d11 d12 d13
          obtain ⟨⟨B2, a2, cap2, rfl, S2, F1⟩, rfl, h⟩ := hcut
          obtain ⟨w13, rfl⟩ : ∃ w13, w13 = wc := ⟨_, rfl⟩
          replace S2 := Lib.hid S2
          replace S1 := Lib.hid (S1.out.ext h)
          replace HH := Lib.hid (HH.out.ext h)
          replace EX := Lib.hid (EX.out.trans h)
          clear h
          obtain ⟨⟨s0, s1, s2, s3, s4, s5, s6, s7, s8⟩, _⟩ := Box.nine (S0.out.ext EX.out)
          obtain ⟨⟨t0, t1, t2, t3, t4, t5, t6, t7, t8⟩, _⟩ := Box.nine S2.out
          go_wp2_with fail
          refine (eqCourse_same _ _ _ _ _ _ _ _ F1 (F0.out.ext EX.out)).mono ?_
          rintro e w14 ⟨rfl, h⟩
          have zw14 := Ext.size h
          clear F1 s0 s1 s2 s3 s4 s5 s6 s7 s8 t0 t1 t2 t3 t4 t5 t6 t7 t8
          replace S1 := Lib.hid (S1.out.ext h)
          replace HH := Lib.hid (HH.out.ext h)
          replace EX := Lib.hid (EX.out.trans h)
          clear h
          obtain ⟨⟨t0, t1, t2, t3, t4, t5, t6, t7, t8⟩, _⟩ := Box.nine S1.out
          go_wp2_with fail
          refine (heldCourse_own _ _ _ _ w4.heap.size 1 _ HH.out HP2.out (by decide)).mono ?_
          rintro e w15 ⟨rfl, h⟩
          replace EX := Lib.hid (EX.out.trans h)
          go_wp2
          go_ret
          exact ⟨rfl, HW.out.trans (X.out.trans EX.out)⟩

theorem walk (l k : L4) (a : Option Addr) (cap : Nat) (ms : List M5) (q x y z u : Int) (w : World) (hf : Mks w a ms) : Calls Try.prog 11 #[CV l k (.slice a ms.length cap), .int .i64 q, Sg x y z u] w fun e w' => e = .returned (.bool true) ∧ Ext w w' :=
  walkL l k ⟨x, y, z, u⟩ a cap ms q w hf

theorem own : ownKnob Try.prog.godebug = none := by kernel_rfl
theorem laidOut : laidOutB Try.prog = true := by kernel_rfl

set_option maxRecDepth 100000 in
theorem lifted (os : Os) (started : os.Started) (H : Type) (enc : TypeId × Value → H) :
    ReturnsInHanded {} Try.checked os 11 .any (Rows.fnExactShortenCourseSpec.pre6 enc Try.prog Try.f11 Rows.fnExactShortenCourseRow.domain false) (Rows.fnExactShortenCourseSpec.post enc Try.prog Try.f11 false true false false) := by
  refine returnsInHanded_of_change (C := Try.checked) own started (by kernel_rfl) Try.func11
    (ChangeSpec.witness6 (enc := enc) (C := Try.checked) false ⟨#[], #[.agg #[.int .i64 0, .int .i64 0, .int .i64 0, .int .i64 0, .int .i64 0, .int .i64 0, .int .i64 0, .int .i64 0, .slice none 0 0], .int .i64 0, .agg #[.int .i64 0, .int .i64 0, .int .i64 0, .int .i64 0]], []⟩ 8 (by kernel_rfl) (by kernel_rfl) (by kernel_rfl) (by kernel_rfl)) ?_
  intro W base args ds gs before hval0 hW hcnd _
  have hval : ∀ (j : Nat) t v, Try.f11.params[j]? = some t → args[j]? = some v → Value.okWide Try.prog W .any base t v := hval0
  have hW' := hW
  obtain ⟨p, q, hA0, hV, rfl, hfz, hnd⟩ := hW
  have hA : DataW.TrodAll enc Try.prog W 0 (fun _ => true) true Try.f11.params.toList args.toList ds p := hA0
  rw [Try.params11] at hA hval
  obtain ⟨v0, vs0, d0, ds0, p0, q0, hargs, rfl, rfl, h0, r0⟩ := trodAll_cons hA
  obtain ⟨v1, vs1, d1, ds1, p1, q1, rfl, rfl, rfl, h1, r1⟩ := trodAll_cons r0
  obtain ⟨v2, vs2, d2, ds2, p2, q2, rfl, rfl, rfl, h2, r2⟩ := trodAll_cons r1
  obtain ⟨rfl, rfl, rfl⟩ := trodAll_nil r2
  obtain rfl : args = #[v0, v1, v2] := by cases args; simp_all
  obtain ⟨rfl, rfl⟩ := trodVars_none hV
  have k0 := h0
  have lt0 : ∀ x ∈ p0, x.block < W.heap.size := by obtain ⟨m, hm⟩ := k0; exact DataW.trod_lt m _ _ _ hm
  obtain ⟨l0, k0', a0, cap0, ms0, rfl, w0⟩ := Crs.open_course Try.underlying57 (by kernel_rfl) ⟨rfl, by kernel_rfl⟩ ⟨rfl, by kernel_rfl⟩ ⟨rfl, by kernel_rfl⟩ Try.underlying51 Try.underlying51 Try.underlying55 ⟨rfl, by kernel_rfl⟩ ⟨rfl, by kernel_rfl⟩ Try.underlying49 Try.underlying49 Try.underlying116 (by kernel_rfl) ⟨rfl, by kernel_rfl⟩ ⟨rfl, by kernel_rfl⟩ ⟨rfl, by kernel_rfl⟩ ⟨rfl, by kernel_rfl⟩ Try.underlying9 Try.underlying49 ⟨rfl, by kernel_rfl⟩ ⟨rfl, by kernel_rfl⟩ Try.underlying2 Try.underlying2 Try.underlying2 Try.underlying2 (hval 0 57 v0 rfl rfl) h0
  have k1 := h1
  have lt1 : ∀ x ∈ p1, x.block < W.heap.size := by obtain ⟨m, hm⟩ := k1; exact DataW.trod_lt m _ _ _ hm
  obtain ⟨a1, rfl, _, _, w1⟩ := open_int Try.underlying2 (hval 1 2 v1 rfl rfl) h1
  have k2 := h2
  have lt2 : ∀ x ∈ p2, x.block < W.heap.size := by obtain ⟨m, hm⟩ := k2; exact DataW.trod_lt m _ _ _ hm
  obtain ⟨a2, b2, c2, e2, rfl⟩ := Opn.open_seg Try.underlying51 Try.underlying49 Try.underlying49 (by kernel_rfl) rfl rfl (by kernel_rfl) (by kernel_rfl) (by kernel_rfl) (by kernel_rfl) Try.underlying2 Try.underlying2 Try.underlying2 Try.underlying2 (hval 2 51 v2 rfl rfl) h2
  clear hA0 hval0
  refine (walk l0 k0' a0 cap0 ms0 a1 a2 b2 c2 e2 W w0).mono fun e W' ⟨he, hx⟩ => ?_
  have bel := hx.below
  subst he
  exact ⟨_, rfl, _, _, _, [], _, [], hW', trodAll_mk1 (shut_bool Try.underlying4 _), (trodAll_cons_mk (Below.trod laidOut (by kernel_rfl) (of_decide_eq_true (by kernel_rfl)) k0 bel lt0) (trodAll_cons_mk (Below.trod laidOut (by kernel_rfl) (of_decide_eq_true (by kernel_rfl)) k1 bel lt1) (trodAll_cons_mk (Below.trod laidOut (by kernel_rfl) (of_decide_eq_true (by kernel_rfl)) k2 bel lt2) trodAll_mk0))), rfl, bel.frame _, fun h => by cases h⟩

theorem proved : Rows.FnExactShortenCourseSaid :=
  OpenClaim.holds_of_wide 11 Try.f11 rfl rfl rfl rfl rfl rfl rfl ⟨rfl, rfl, rfl, rfl, rfl⟩ rfl rfl rfl rfl rfl (by kernel_rfl) Try.func11 (by kernel_rfl)
    (of_decide_eq_true (by kernel_rfl)) (by unfold Func.isWrapper; first | (rw [if_pos (by decide +kernel)]; kernel_rfl) | (rw [if_neg (by decide +kernel)]; exact ⟨rfl, rfl⟩))
    (fun os started H enc _ => lifted os started H enc)

end Go.Proofs.Ytmebaihacddhfaa.fnExactShortenCourse
