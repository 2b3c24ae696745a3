/- ShortenCourse (spec): its answer, the same as the program's. -/
import Derived.Test.YtiofplgbbbdkfaaSho2
import Derived.Test.YtiofplgbbbdkfaaSta5
namespace Go.Proofs.Ytiofplgbbbdkfaa.Crs
open Go.ChangeShapes Go.WideShapes Go.ChangeAt Go.RowKit
open Go.Proofs.Ytiofplgbbbdkfaa.Num Go.Proofs.Ytiofplgbbbdkfaa.Kit Go.Proofs.Ytiofplgbbbdkfaa.Pts Go.Proofs.Ytiofplgbbbdkfaa.Seg
set_option linter.unusedVariables false
set_option linter.unusedSimpArgs false

/-- A row of marks is no block that begins with a number. -/
theorem OwnM.apart {w : World} {base B : Nat} {v : Value} {ms : List M5} {z : Int} (h : OwnM w base v ms) (h0 : 0 < ms.length) (hB : w.cell? ⟨B, 0, none⟩ = some (.int .i64 z)) : v.ownBlock ≠ some B := by
  rcases h.cases with ⟨hv, _⟩ | ⟨g, cap, hv, _, hO, hb⟩
  · rw [hv]; simp [Value.ownBlock]
  · rw [hb]
    intro e
    injection e with e
    subst e
    have c := (hO 0 h0).1.1
    simp only [Nat.zero_mul] at c
    rw [hB] at c
    cases c
/-- What a row's growth leaves. -/
theorem Box.grown {w w' : World} {n : Nat} {vs : List Value} {v : Value} {g : Nat} (H : Box w n vs) (hg : w.grownBy w' v.ownBlock) (hv : v.ownBlock = some g) (hn : n ≠ g) : Box w' n vs :=
  Box.chg H (B := g) ⟨hg.os, hg.tape, hg.output, hg.size, fun i hi hne => hg.block i hi (fun e => hne (by rw [hv] at e; injection e))⟩ hn

theorem shorten_doneS {n : Nat} {F : World} {tmps : Array Value} {l k : L4} {v : Value} {c : Int} {Q : Ending → World → Prop} (B : Box F n (cellsC l k v)) (hQ : Q (.returned (.tuple #[CV l k v, .int .i64 c])) F) (ha : tmps[6]? = some (.pointer (some ⟨n, 0, none⟩))) (hb : tmps[7]? = some (.int .i64 c)) :
    bodyPost Try.prog Try.f14 Q Exit.ret ⟨tmps, []⟩ F := by
  obtain ⟨⟨g0, g1, g2, g3, g4, g5, g6, g7, g8⟩, _⟩ := Box.nine B
  exact bodyPost_ret (v := .tuple #[CV l k v, .int .i64 c]) (by simp [results, Try.results14, go_sem, ha, hb, g0, g1, g2, g3, g4, g5, g6, g7, g8]) rfl hQ

set_option maxRecDepth 100000 in
set_option maxHeartbeats 8000000 in
theorem shorten_spec (l k f : L4) (a : Option Addr) (cap : Nat) (ms : List M5) (q : Int) (w : World) (hf : Mks w a ms) (hcap : ms.length ≤ cap) (hsl : cap ≤ maxLen) :
    Calls Try.prog 14 #[CV l k (.slice a ms.length cap), .int .i64 q, LV f] w (ShPost w l k f ms q) := by
  obtain ⟨W0, hW0⟩ : ∃ W0, W0 = ((w.alloc (.cells (cellsC l k (.slice a ms.length cap)).toArray 30)).alloc (.cells #[.int .i64 f.a, .int .i64 f.b, .int .i64 f.c, .int .i64 f.d] 27)).alloc (.cells (cellsC zeroL zeroL (.slice none 0 0)).toArray 30) := ⟨_, rfl⟩
  have HW := Lib.hid (show Ext w W0 from hW0 ▸ (((Ext.refl w).alloc _).alloc _).alloc _)
  have BB := Lib.hid (show Box W0 w.heap.size (cellsC l k (.slice a ms.length cap)) from hW0 ▸ ((Box.new rfl).alloc _).alloc _)
  have BF := Lib.hid (show Box W0 (w.heap.size + 1) [.int .i64 f.a, .int .i64 f.b, .int .i64 f.c, .int .i64 f.d] from hW0 ▸ (Box.new4 (by simp)).alloc _)
  have BR := Lib.hid (show Box W0 (w.heap.size + 1 + 1) (cellsC zeroL zeroL (.slice none 0 0)) from hW0 ▸ Box.new (by simp))
  have hs0 : W0.heap.size = w.heap.size + 1 + 1 + 1 := by rw [hW0]; simp
  have hm := hf.1.1
  have HF := Lib.hid (hf.ext HW.out)
  clear hf
  unfold maxLen at hm hsl
  cases hq : crB l k ms
  · go_enter Try.func14, Try.ntmps14
    go_wp2_with fail
    rw [← hW0]
    clear hW0
    refine (isCourse_spec _ _ _ _ _ _ HF.out).mono ?_
    rw [hq]
    rintro e w1 ⟨rfl, hx⟩
    obtain ⟨⟨h0, h1, h2, h3, h4, h5, h6, h7, h8⟩, f0, f1, f2, f3, f4, f5, f6, f7, f8⟩ := Box.nine (BR.out.ext hx)
    have HR := Lib.hid (Box.put9 (BR.out.ext hx) (.int .i64 0) (.int .i64 0) (.int .i64 0) (.int .i64 0) (.int .i64 0) (.int .i64 0) (.int .i64 0) (.int .i64 0) (.slice none 0 0))
    have HX := Lib.hid (Ext.put9 (HW.out.trans hx) (n := w.heap.size + 1 + 1) (by omega) (.int .i64 0) (.int .i64 0) (.int .i64 0) (.int .i64 0) (.int .i64 0) (.int .i64 0) (.int .i64 0) (.int .i64 0) (.slice none 0 0))
    have HC := Lib.hid (show shC l k f ms q = 1 by unfold shC; rw [hq]; rfl)
    go_wp2
    exact shorten_doneS HR.out (ShPost.bad HC.out (by decide) HX.out) rfl rfl
  have h8 := cr_eight hq
  have e8 : (ms.length : Int) ≤ 8 := by omega
  by_cases q1 : q < 1
  · have HI : inB q 1 (ms.length : Int) = false := inB_no (by omega)
    go_enter Try.func14, Try.ntmps14
    go_wp2_with fail
    rw [← hW0]
    clear hW0
    refine (isCourse_spec _ _ _ _ _ _ HF.out).mono ?_
    rw [hq]
    rintro e w1 ⟨rfl, hx⟩
    obtain ⟨⟨p0, p1, p2, p3, p4, p5, p6, p7, p8⟩, _⟩ := Box.nine (BB.out.ext hx)
    obtain ⟨⟨h0, h1, h2, h3, h4, h5, h6, h7, h8⟩, f0, f1, f2, f3, f4, f5, f6, f7, f8⟩ := Box.nine (BR.out.ext hx)
    have HR := Lib.hid (Box.put9 (BR.out.ext hx) (.int .i64 0) (.int .i64 0) (.int .i64 0) (.int .i64 0) (.int .i64 0) (.int .i64 0) (.int .i64 0) (.int .i64 0) (.slice none 0 0))
    have HX := Lib.hid (Ext.put9 (HW.out.trans hx) (n := w.heap.size + 1 + 1) (by omega) (.int .i64 0) (.int .i64 0) (.int .i64 0) (.int .i64 0) (.int .i64 0) (.int .i64 0) (.int .i64 0) (.int .i64 0) (.slice none 0 0))
    have HC := Lib.hid (show shC l k f ms q = 2 by unfold shC; rw [if_pos hq, if_neg (by omega)])
    go_wp2_with (go_at_call 34; refine (in_any _ _ _ _).mono ?_; rw [HI]; rintro e w2 ⟨rfl, rfl⟩)
    exact shorten_doneS HR.out (ShPost.bad HC.out (by decide) HX.out) rfl rfl
  by_cases q2 : (ms.length : Int) < q
  · have HI : inB q 1 (ms.length : Int) = false := inB_no (by omega)
    go_enter Try.func14, Try.ntmps14
    go_wp2_with fail
    rw [← hW0]
    clear hW0
    refine (isCourse_spec _ _ _ _ _ _ HF.out).mono ?_
    rw [hq]
    rintro e w1 ⟨rfl, hx⟩
    obtain ⟨⟨p0, p1, p2, p3, p4, p5, p6, p7, p8⟩, _⟩ := Box.nine (BB.out.ext hx)
    obtain ⟨⟨h0, h1, h2, h3, h4, h5, h6, h7, h8⟩, f0, f1, f2, f3, f4, f5, f6, f7, f8⟩ := Box.nine (BR.out.ext hx)
    have HR := Lib.hid (Box.put9 (BR.out.ext hx) (.int .i64 0) (.int .i64 0) (.int .i64 0) (.int .i64 0) (.int .i64 0) (.int .i64 0) (.int .i64 0) (.int .i64 0) (.slice none 0 0))
    have HX := Lib.hid (Ext.put9 (HW.out.trans hx) (n := w.heap.size + 1 + 1) (by omega) (.int .i64 0) (.int .i64 0) (.int .i64 0) (.int .i64 0) (.int .i64 0) (.int .i64 0) (.int .i64 0) (.int .i64 0) (.slice none 0 0))
    have HC := Lib.hid (show shC l k f ms q = 2 by unfold shC; rw [if_pos hq, if_neg (by omega)])
    go_wp2_with (go_at_call 34; refine (in_any _ _ _ _).mono ?_; rw [HI]; rintro e w2 ⟨rfl, rfl⟩)
    exact shorten_doneS HR.out (ShPost.bad HC.out (by decide) HX.out) rfl rfl
  · have HI : inB q 1 (ms.length : Int) = true := inB_yes (by omega) (by omega)
    obtain ⟨j, rfl⟩ : ∃ j : Nat, q = (j : Int) := ⟨q.toNat, by omega⟩
    have ht : (ms.take j).length = j := by simp; omega
    have hT : ((j : Int)).toNat = j := by omega
    obtain ⟨b, off, rfl, hbr⟩ := HF.out.row (by omega)
    have j1 : (0 : Int) ≤ (j : Int) := by omega
    have j2 : (j : Int) ≤ (cap : Int) := by omega
    have j3 : j ≤ cap := by omega
    have MT := Lib.hid (HF.out.take j)
    go_enter Try.func14, Try.ntmps14
    go_wp2_with fail
    rw [← hW0]
    clear hW0
    refine (isCourse_spec _ _ _ _ _ _ HF.out).mono ?_
    rw [hq]
    rintro e w1 ⟨rfl, hx⟩
    obtain ⟨⟨p0, p1, p2, p3, p4, p5, p6, p7, p8⟩, _⟩ := Box.nine (BB.out.ext hx)
    go_upto_region 5 with (go_at_call 34; refine (in_any _ _ _ _).mono ?_; rw [HI]; rintro e w2 ⟨rfl, rfl⟩)
    have e0 : Ext w1 w1 := Ext.refl w1
    have c10 : ∀ w', Ext w1 w' → w'.cell? ⟨w.heap.size, 0, none⟩ = some (.int .i64 l.a) := fun w' h => h.cellOf p0
    have c11 : ∀ w', Ext w1 w' → w'.cell? ⟨w.heap.size, 1, none⟩ = some (.int .i64 l.b) := fun w' h => h.cellOf p1
    have c12 : ∀ w', Ext w1 w' → w'.cell? ⟨w.heap.size, 2, none⟩ = some (.int .i64 l.c) := fun w' h => h.cellOf p2
    have c13 : ∀ w', Ext w1 w' → w'.cell? ⟨w.heap.size, 3, none⟩ = some (.int .i64 l.d) := fun w' h => h.cellOf p3
    have c14 : ∀ w', Ext w1 w' → w'.cell? ⟨w.heap.size, 4, none⟩ = some (.int .i64 k.a) := fun w' h => h.cellOf p4
    have c15 : ∀ w', Ext w1 w' → w'.cell? ⟨w.heap.size, 5, none⟩ = some (.int .i64 k.b) := fun w' h => h.cellOf p5
    have c16 : ∀ w', Ext w1 w' → w'.cell? ⟨w.heap.size, 6, none⟩ = some (.int .i64 k.c) := fun w' h => h.cellOf p6
    have c17 : ∀ w', Ext w1 w' → w'.cell? ⟨w.heap.size, 7, none⟩ = some (.int .i64 k.d) := fun w' h => h.cellOf p7
    have c18 : ∀ w', Ext w1 w' → w'.cell? ⟨w.heap.size, 8, none⟩ = some (.slice (some ⟨b, off, none⟩) ms.length cap) := fun w' h => h.cellOf p8
    have d10 : ∀ w', Ext w1 w' → w'.cell? ⟨w.heap.size + 1, 0, none⟩ = some (.int .i64 f.a) := fun w' h => (hx.trans h).cellOf (BF.out 0 _ rfl).1
    have d11 : ∀ w', Ext w1 w' → w'.cell? ⟨w.heap.size + 1, 1, none⟩ = some (.int .i64 f.b) := fun w' h => (hx.trans h).cellOf (BF.out 1 _ rfl).1
    have d12 : ∀ w', Ext w1 w' → w'.cell? ⟨w.heap.size + 1, 2, none⟩ = some (.int .i64 f.c) := fun w' h => (hx.trans h).cellOf (BF.out 2 _ rfl).1
    have d13 : ∀ w', Ext w1 w' → w'.cell? ⟨w.heap.size + 1, 3, none⟩ = some (.int .i64 f.d) := fun w' h => (hx.trans h).cellOf (BF.out 3 _ rfl).1
    have X1 := Lib.hid hx
    have z1 := Ext.size hx
    clear hx p0 p1 p2 p3 p4 p5 p6 p7 p8 hbr
    go_cut [8] (fun s wx => ∃ (B : Nat) (a1 : Option Addr) (cap1 : Nat), s = .pointer (some ⟨B, 0, none⟩) ∧ Box wx B (cellsC l f (.slice a1 j cap1)) ∧ OwnM wx w1.heap.size (.slice a1 j cap1) (ms.take j) ∧ w1.heap.size ≤ B ∧ Ext w1 wx)
    case first =>
      obtain ⟨ti, hin, hz0, hz1, hz2⟩ := info_parts markInfo
      have P1 := Lib.hid (cellsM_one (ms.take j))
      have P2 := Lib.hid (cellsM_len (ms.take j))
      rw [ht] at P2
      refine wp_region_held_drew (S := fun w' => Ext w1 w') (by kernel_rfl) (by (try dsimp only); exact (Ext.refl _).drew) (fun hHeld => ?_)
      (refine Ord.takeH 0 20 (v := ?_) rfl rfl (by kernel_rfl) (by kernel_rfl) (by kernel_rfl) (fun _ _ _ h => h) (by rfl) ?_ (by assumption) ?_; rotate_left; (intro w hSw; (try dsimp only at hSw); go_simp; (first | done | with_reducible rfl)); (try simp only [Act.put, List.setIfInBounds_toArray, List.set_cons_zero, List.set_cons_succ])); (refine Ord.takeH 1 21 (v := ?_) rfl rfl (by kernel_rfl) (by kernel_rfl) (by kernel_rfl) (fun _ _ _ h => h) (by rfl) ?_ (by assumption) ?_; rotate_left; (intro w hSw; (try dsimp only at hSw); go_simp; (first | done | with_reducible rfl)); (try simp only [Act.put, List.setIfInBounds_toArray, List.set_cons_zero, List.set_cons_succ])); (refine Ord.takeH 2 22 (v := ?_) rfl rfl (by kernel_rfl) (by kernel_rfl) (by kernel_rfl) (fun _ _ _ h => h) (by rfl) ?_ (by assumption) ?_; rotate_left; (intro w hSw; (try dsimp only at hSw); go_simp; (first | done | with_reducible rfl)); (try simp only [Act.put, List.setIfInBounds_toArray, List.set_cons_zero, List.set_cons_succ])); (refine Ord.takeH 4 24 (v := ?_) rfl rfl (by kernel_rfl) (by kernel_rfl) (by kernel_rfl) (fun _ _ _ h => h) (by rfl) ?_ (by assumption) ?_; rotate_left; (intro w hSw; (try dsimp only at hSw); go_simp; (first | done | with_reducible rfl)); (try simp only [Act.put, List.setIfInBounds_toArray, List.set_cons_zero, List.set_cons_succ])); (refine Ord.takeH 5 25 (v := ?_) rfl rfl (by kernel_rfl) (by kernel_rfl) (by kernel_rfl) (fun _ _ _ h => h) (by rfl) ?_ (by assumption) ?_; rotate_left; (intro w hSw; (try dsimp only at hSw); go_simp; (first | done | with_reducible rfl)); (try simp only [Act.put, List.setIfInBounds_toArray, List.set_cons_zero, List.set_cons_succ])); (refine Ord.takeH 6 26 (v := ?_) rfl rfl (by kernel_rfl) (by kernel_rfl) (by kernel_rfl) (fun _ _ _ h => h) (by rfl) ?_ (by assumption) ?_; rotate_left; (intro w hSw; (try dsimp only at hSw); go_simp; (first | done | with_reducible rfl)); (try simp only [Act.put, List.setIfInBounds_toArray, List.set_cons_zero, List.set_cons_succ])); (refine Ord.takeH 7 27 (v := ?_) rfl rfl (by kernel_rfl) (by kernel_rfl) (by kernel_rfl) (fun _ _ _ h => h) (by rfl) ?_ (by assumption) ?_; rotate_left; (intro w hSw; (try dsimp only at hSw); go_simp; (first | done | with_reducible rfl)); (try simp only [Act.put, List.setIfInBounds_toArray, List.set_cons_zero, List.set_cons_succ]))
      have hE : Ext w1 w1.drew := (Ext.refl w1).drew
      obtain ⟨V0, hV0⟩ : ∃ V0, V0 = w1.drew := ⟨_, rfl⟩
      rw [← hV0] at hE hHeld ⊢
      clear hV0 c10 c11 c12 c13 c14 c15 c16 c17 c18 d10 d11 d12 d13
      have zE := Ext.size hE
      refine wpAnyH_ready (rs := [3, 10]) (by kernel_rfl) (by simp) ?_
      refine (AllReadyH.cons rfl (fun K hK => ?_) (AllReadyH.cons rfl (fun K hK => ?_) AllReadyH.nil))
      · go_simp
        have hE' : Ext w1 (V0.alloc (.cells #[] 42)) := hE.alloc _
        refine hK.out _ _ hE' (fun hHeld => ?_)
        clear hK K
        (try simp only [Act.put, List.setIfInBounds_toArray, List.set_cons_zero, List.set_cons_succ])
        have O1 : (V0.alloc (.cells #[] 42)).ownsRow V0.heap.size 42 5 (.slice (some ⟨V0.heap.size, 0, none⟩) 0 0) 0 [] := World.ownsRow_lit (base := V0.heap.size) (e := 42) (size := 5) V0 #[] 0 (Nat.le_refl _) (by unfold maxLen; omega) rfl
        have l0 : V0.heap.size < (V0.alloc (.cells #[] 42)).heap.size := by simp
        generalize V0.alloc (.cells #[] 42) = V1 at *
        replace hE := hE'
        clear hE'
        have zE := Ext.size hE
        refine wpAnyH_ready (rs := [8, 10]) (by kernel_rfl) (by simp) ?_
        refine (AllReadyH.cons rfl (fun K hK => ?_) (AllReadyH.cons rfl (fun K hK => ?_) AllReadyH.nil))
        · refine step_append_own rfl (.tmp 23) (.tmp 27) 28 rfl V0.heap.size 42 ti (.agg zeroM) 5 48 Try.underlying28 hin hz0 hz1 hz2 rfl (by decide) (.slice (some ⟨V0.heap.size, 0, none⟩) 0 0) 0 [] (by simp [Act.eval, Act.put]) O1 ⟨b, off, none⟩ j cap (cellsM (ms.take j)) (by simp [Act.eval, Act.put]) P2.out (at_cellsM (fun i hi => by obtain ⟨_, _, e1, h1⟩ := (MT.out.ext (X1.out.trans hE)).row (by omega); cases e1; exact h1 i hi)) P1.out (by unfold maxLen; omega) (by omega) (by omega) ?_
          intro v V2 hown hgrow
          have zG := hgrow.size
          have hE' : Ext w1 V2 := row_grown (w0 := w1) O1 hgrow (by omega) hE
          have OV : OwnM V2 w1.heap.size v (ms.take j) := row_mono (show OwnM V2 V0.heap.size v (ms.take j) by simpa [OwnM, ht] using hown) (by omega)
          obtain ⟨a1, cap1, rfl, -⟩ := OV.mks MT.out.1
          rw [ht] at OV ⊢
          clear hown O1
          refine hK.out _ _ hE' (fun hHeld => ?_)
          clear hK K
          (try simp only [Act.put, List.setIfInBounds_toArray, List.set_cons_zero, List.set_cons_succ])
          replace OV := Lib.hid OV
          replace hE := hE'
          clear hE'
          have zE := Ext.size hE
          (refine Ord.takeH 9 29 (v := ?_) rfl rfl (by kernel_rfl) (by kernel_rfl) (by kernel_rfl) (fun _ _ _ h => h) (by rfl) ?_ (by assumption) ?_; rotate_left; (intro w hSw; (try dsimp only at hSw); go_simp; (first | done | with_reducible rfl)); (try simp only [Act.put, List.setIfInBounds_toArray, List.set_cons_zero, List.set_cons_succ]))
          refine wpAnyH_ready (rs := [10]) (by kernel_rfl) (by simp) ?_
          refine (AllReadyH.cons rfl (fun K hK => ?_) AllReadyH.nil)
          · go_simp
            have hE' : Ext w1 (V2.alloc (.cells (cellsC zeroL zeroL (.slice none 0 0)).toArray 30)) := hE.alloc _
            refine hK.out _ _ hE' (fun hHeld => ?_)
            clear hK K
            (try simp only [Act.put, List.setIfInBounds_toArray, List.set_cons_zero, List.set_cons_succ])
            have PB := Box.new (w := V2) (n := V2.heap.size) (vs := cellsC zeroL zeroL (.slice none 0 0)) (t := 30) rfl
            have yA : V2.heap.size < (V2.alloc (.cells (cellsC zeroL zeroL (.slice none 0 0)).toArray 30)).heap.size := by simp
            replace OV := Lib.hid (OV.out.ext ((Ext.refl V2).alloc (.cells (cellsC zeroL zeroL (.slice none 0 0)).toArray 30)))
            generalize V2.alloc (.cells (cellsC zeroL zeroL (.slice none 0 0)).toArray 30) = V3 at *
            replace hE := hE'
            clear hE'
            have zE := Ext.size hE
            refine wpAnyH_ready (rs := [11]) (by kernel_rfl) (by simp) ?_
            refine (AllReadyH.cons rfl (fun K hK => ?_) AllReadyH.nil)
            obtain ⟨⟨u0, u1, u2, u3, u4, u5, u6, u7, u8⟩, g0, g1, g2, g3, g4, g5, g6, g7, g8⟩ := Box.nine PB
            have NB := OwnM.apart OV.out (by omega) u0
            go_simp
            have hE' : Ext w1 (Crs.put9 V3 V2.heap.size (.int .i64 l.a) (.int .i64 l.b) (.int .i64 l.c) (.int .i64 l.d) (.int .i64 f.a) (.int .i64 f.b) (.int .i64 f.c) (.int .i64 f.d) (.slice a1 j cap1)) := Ext.put9 hE (by omega) (.int .i64 l.a) (.int .i64 l.b) (.int .i64 l.c) (.int .i64 l.d) (.int .i64 f.a) (.int .i64 f.b) (.int .i64 f.c) (.int .i64 f.d) (.slice a1 j cap1)
            refine hK.out _ _ hE' (fun hHeld => ?_)
            clear hK K
            (try simp only [Act.put, List.setIfInBounds_toArray, List.set_cons_zero, List.set_cons_succ])
            have QB := Box.put9 PB (.int .i64 l.a) (.int .i64 l.b) (.int .i64 l.c) (.int .i64 l.d) (.int .i64 f.a) (.int .i64 f.b) (.int .i64 f.c) (.int .i64 f.d) (.slice a1 j cap1)
            have QO := OV.out.chg (Chg.put9 (n := V2.heap.size) (.int .i64 l.a) (.int .i64 l.b) (.int .i64 l.c) (.int .i64 l.d) (.int .i64 f.a) (.int .i64 f.b) (.int .i64 f.c) (.int .i64 f.d) (.slice a1 j cap1)) NB
            refine wpAnyH_done (by kernel_rfl) ?_ _
            go_wp2_with fail
            go_meet
            exact ⟨_, a1, cap1, rfl, QB, QO, by omega, hE'⟩
        · go_simp
          have hE' : Ext w1 (V1.alloc (.cells (cellsC zeroL zeroL (.slice none 0 0)).toArray 30)) := hE.alloc _
          refine hK.out _ _ hE' (fun hHeld => ?_)
          clear hK K
          (try simp only [Act.put, List.setIfInBounds_toArray, List.set_cons_zero, List.set_cons_succ])
          have PB := Box.new (w := V1) (n := V1.heap.size) (vs := cellsC zeroL zeroL (.slice none 0 0)) (t := 30) rfl
          have yA : V1.heap.size < (V1.alloc (.cells (cellsC zeroL zeroL (.slice none 0 0)).toArray 30)).heap.size := by simp
          replace O1 := row_ext O1 ((Ext.refl V1).alloc (.cells (cellsC zeroL zeroL (.slice none 0 0)).toArray 30))
          generalize V1.alloc (.cells (cellsC zeroL zeroL (.slice none 0 0)).toArray 30) = V2 at *
          replace hE := hE'
          clear hE'
          have zE := Ext.size hE
          refine wpAnyH_ready (rs := [8]) (by kernel_rfl) (by simp) ?_
          refine (AllReadyH.cons rfl (fun K hK => ?_) AllReadyH.nil)
          · refine step_append_own rfl (.tmp 23) (.tmp 27) 28 rfl V0.heap.size 42 ti (.agg zeroM) 5 48 Try.underlying28 hin hz0 hz1 hz2 rfl (by decide) (.slice (some ⟨V0.heap.size, 0, none⟩) 0 0) 0 [] (by simp [Act.eval, Act.put]) O1 ⟨b, off, none⟩ j cap (cellsM (ms.take j)) (by simp [Act.eval, Act.put]) P2.out (at_cellsM (fun i hi => by obtain ⟨_, _, e1, h1⟩ := (MT.out.ext (X1.out.trans hE)).row (by omega); cases e1; exact h1 i hi)) P1.out (by unfold maxLen; omega) (by omega) (by omega) ?_
            intro v V3 hown hgrow
            have zG := hgrow.size
            have hE' : Ext w1 V3 := row_grown (w0 := w1) O1 hgrow (by omega) hE
            have OV : OwnM V3 w1.heap.size v (ms.take j) := row_mono (show OwnM V3 V0.heap.size v (ms.take j) by simpa [OwnM, ht] using hown) (by omega)
            replace PB := Box.grown (g := V0.heap.size) PB hgrow rfl (by omega)
            obtain ⟨a1, cap1, rfl, -⟩ := OV.mks MT.out.1
            rw [ht] at OV ⊢
            clear hown O1
            refine hK.out _ _ hE' (fun hHeld => ?_)
            clear hK K
            (try simp only [Act.put, List.setIfInBounds_toArray, List.set_cons_zero, List.set_cons_succ])
            replace OV := Lib.hid OV
            replace hE := hE'
            clear hE'
            have zE := Ext.size hE
            (refine Ord.takeH 9 29 (v := ?_) rfl rfl (by kernel_rfl) (by kernel_rfl) (by kernel_rfl) (fun _ _ _ h => h) (by rfl) ?_ (by assumption) ?_; rotate_left; (intro w hSw; (try dsimp only at hSw); go_simp; (first | done | with_reducible rfl)); (try simp only [Act.put, List.setIfInBounds_toArray, List.set_cons_zero, List.set_cons_succ]))
            refine wpAnyH_ready (rs := [11]) (by kernel_rfl) (by simp) ?_
            refine (AllReadyH.cons rfl (fun K hK => ?_) AllReadyH.nil)
            obtain ⟨⟨u0, u1, u2, u3, u4, u5, u6, u7, u8⟩, g0, g1, g2, g3, g4, g5, g6, g7, g8⟩ := Box.nine PB
            have NB := OwnM.apart OV.out (by omega) u0
            go_simp
            have hE' : Ext w1 (Crs.put9 V3 V1.heap.size (.int .i64 l.a) (.int .i64 l.b) (.int .i64 l.c) (.int .i64 l.d) (.int .i64 f.a) (.int .i64 f.b) (.int .i64 f.c) (.int .i64 f.d) (.slice a1 j cap1)) := Ext.put9 hE (by omega) (.int .i64 l.a) (.int .i64 l.b) (.int .i64 l.c) (.int .i64 l.d) (.int .i64 f.a) (.int .i64 f.b) (.int .i64 f.c) (.int .i64 f.d) (.slice a1 j cap1)
            refine hK.out _ _ hE' (fun hHeld => ?_)
            clear hK K
            (try simp only [Act.put, List.setIfInBounds_toArray, List.set_cons_zero, List.set_cons_succ])
            have QB := Box.put9 PB (.int .i64 l.a) (.int .i64 l.b) (.int .i64 l.c) (.int .i64 l.d) (.int .i64 f.a) (.int .i64 f.b) (.int .i64 f.c) (.int .i64 f.d) (.slice a1 j cap1)
            have QO := OV.out.chg (Chg.put9 (n := V1.heap.size) (.int .i64 l.a) (.int .i64 l.b) (.int .i64 l.c) (.int .i64 l.d) (.int .i64 f.a) (.int .i64 f.b) (.int .i64 f.c) (.int .i64 f.d) (.slice a1 j cap1)) NB
            refine wpAnyH_done (by kernel_rfl) ?_ _
            go_wp2_with fail
            go_meet
            exact ⟨_, a1, cap1, rfl, QB, QO, by omega, hE'⟩
      · go_simp
        have hE' : Ext w1 (V0.alloc (.cells (cellsC zeroL zeroL (.slice none 0 0)).toArray 30)) := hE.alloc _
        refine hK.out _ _ hE' (fun hHeld => ?_)
        clear hK K
        (try simp only [Act.put, List.setIfInBounds_toArray, List.set_cons_zero, List.set_cons_succ])
        have PB := Box.new (w := V0) (n := V0.heap.size) (vs := cellsC zeroL zeroL (.slice none 0 0)) (t := 30) rfl
        have yA : V0.heap.size < (V0.alloc (.cells (cellsC zeroL zeroL (.slice none 0 0)).toArray 30)).heap.size := by simp
        generalize V0.alloc (.cells (cellsC zeroL zeroL (.slice none 0 0)).toArray 30) = V1 at *
        replace hE := hE'
        clear hE'
        have zE := Ext.size hE
        refine wpAnyH_ready (rs := [3]) (by kernel_rfl) (by simp) ?_
        refine (AllReadyH.cons rfl (fun K hK => ?_) AllReadyH.nil)
        · go_simp
          have hE' : Ext w1 (V1.alloc (.cells #[] 42)) := hE.alloc _
          refine hK.out _ _ hE' (fun hHeld => ?_)
          clear hK K
          (try simp only [Act.put, List.setIfInBounds_toArray, List.set_cons_zero, List.set_cons_succ])
          have O1 : (V1.alloc (.cells #[] 42)).ownsRow V1.heap.size 42 5 (.slice (some ⟨V1.heap.size, 0, none⟩) 0 0) 0 [] := World.ownsRow_lit (base := V1.heap.size) (e := 42) (size := 5) V1 #[] 0 (Nat.le_refl _) (by unfold maxLen; omega) rfl
          have l0 : V1.heap.size < (V1.alloc (.cells #[] 42)).heap.size := by simp
          replace PB := PB.ext ((Ext.refl V1).alloc (.cells #[] 42))
          generalize V1.alloc (.cells #[] 42) = V2 at *
          replace hE := hE'
          clear hE'
          have zE := Ext.size hE
          refine wpAnyH_ready (rs := [8]) (by kernel_rfl) (by simp) ?_
          refine (AllReadyH.cons rfl (fun K hK => ?_) AllReadyH.nil)
          · refine step_append_own rfl (.tmp 23) (.tmp 27) 28 rfl V1.heap.size 42 ti (.agg zeroM) 5 48 Try.underlying28 hin hz0 hz1 hz2 rfl (by decide) (.slice (some ⟨V1.heap.size, 0, none⟩) 0 0) 0 [] (by simp [Act.eval, Act.put]) O1 ⟨b, off, none⟩ j cap (cellsM (ms.take j)) (by simp [Act.eval, Act.put]) P2.out (at_cellsM (fun i hi => by obtain ⟨_, _, e1, h1⟩ := (MT.out.ext (X1.out.trans hE)).row (by omega); cases e1; exact h1 i hi)) P1.out (by unfold maxLen; omega) (by omega) (by omega) ?_
            intro v V3 hown hgrow
            have zG := hgrow.size
            have hE' : Ext w1 V3 := row_grown (w0 := w1) O1 hgrow (by omega) hE
            have OV : OwnM V3 w1.heap.size v (ms.take j) := row_mono (show OwnM V3 V1.heap.size v (ms.take j) by simpa [OwnM, ht] using hown) (by omega)
            replace PB := Box.grown (g := V1.heap.size) PB hgrow rfl (by omega)
            obtain ⟨a1, cap1, rfl, -⟩ := OV.mks MT.out.1
            rw [ht] at OV ⊢
            clear hown O1
            refine hK.out _ _ hE' (fun hHeld => ?_)
            clear hK K
            (try simp only [Act.put, List.setIfInBounds_toArray, List.set_cons_zero, List.set_cons_succ])
            replace OV := Lib.hid OV
            replace hE := hE'
            clear hE'
            have zE := Ext.size hE
            (refine Ord.takeH 9 29 (v := ?_) rfl rfl (by kernel_rfl) (by kernel_rfl) (by kernel_rfl) (fun _ _ _ h => h) (by rfl) ?_ (by assumption) ?_; rotate_left; (intro w hSw; (try dsimp only at hSw); go_simp; (first | done | with_reducible rfl)); (try simp only [Act.put, List.setIfInBounds_toArray, List.set_cons_zero, List.set_cons_succ]))
            refine wpAnyH_ready (rs := [11]) (by kernel_rfl) (by simp) ?_
            refine (AllReadyH.cons rfl (fun K hK => ?_) AllReadyH.nil)
            obtain ⟨⟨u0, u1, u2, u3, u4, u5, u6, u7, u8⟩, g0, g1, g2, g3, g4, g5, g6, g7, g8⟩ := Box.nine PB
            have NB := OwnM.apart OV.out (by omega) u0
            go_simp
            have hE' : Ext w1 (Crs.put9 V3 V0.heap.size (.int .i64 l.a) (.int .i64 l.b) (.int .i64 l.c) (.int .i64 l.d) (.int .i64 f.a) (.int .i64 f.b) (.int .i64 f.c) (.int .i64 f.d) (.slice a1 j cap1)) := Ext.put9 hE (by omega) (.int .i64 l.a) (.int .i64 l.b) (.int .i64 l.c) (.int .i64 l.d) (.int .i64 f.a) (.int .i64 f.b) (.int .i64 f.c) (.int .i64 f.d) (.slice a1 j cap1)
            refine hK.out _ _ hE' (fun hHeld => ?_)
            clear hK K
            (try simp only [Act.put, List.setIfInBounds_toArray, List.set_cons_zero, List.set_cons_succ])
            have QB := Box.put9 PB (.int .i64 l.a) (.int .i64 l.b) (.int .i64 l.c) (.int .i64 l.d) (.int .i64 f.a) (.int .i64 f.b) (.int .i64 f.c) (.int .i64 f.d) (.slice a1 j cap1)
            have QO := OV.out.chg (Chg.put9 (n := V0.heap.size) (.int .i64 l.a) (.int .i64 l.b) (.int .i64 l.c) (.int .i64 l.d) (.int .i64 f.a) (.int .i64 f.b) (.int .i64 f.c) (.int .i64 f.d) (.slice a1 j cap1)) NB
            refine wpAnyH_done (by kernel_rfl) ?_ _
            go_wp2_with fail
            go_meet
            exact ⟨_, a1, cap1, rfl, QB, QO, by omega, hE'⟩
    case rest =>
      obtain ⟨B, a1, cap1, rfl, HB, HO, hB, hy⟩ := hcut
      obtain ⟨w3, rfl⟩ : ∃ w3, w3 = wc := ⟨_, rfl⟩
      have HF2 : Mks w3 a1 (ms.take j) := by
        obtain ⟨_, _, e1, F⟩ := HO.mks MT.out.1
        rw [ht] at e1
        cases e1
        exact F
      have HBx := Lib.hid HB
      have HOx := Lib.hid HO
      have X3 := Lib.hid (X1.out.trans hy)
      have z3 := Ext.size hy
      clear HB HO hy c10 c11 c12 c13 c14 c15 c16 c17 c18 d10 d11 d12 d13 e0
      obtain ⟨⟨s0, s1, s2, s3, s4, s5, s6, s7, s8⟩, _⟩ := Box.nine HBx.out
      have KV := isCourse_spec l f a1 cap1 (ms.take j) w3 HF2
      rw [ht] at KV
      cases hr : crB l f (ms.take j)
      · go_wp2_with fail
        refine KV.mono ?_
        rw [hr]
        rintro e w4 ⟨rfl, hz⟩
        obtain ⟨⟨h0, h1, h2, h3, h4, h5, h6, h7, h8⟩, f0, f1, f2, f3, f4, f5, f6, f7, f8⟩ := Box.nine (BR.out.ext (X3.out.trans hz))
        have HR := Lib.hid (Box.put9 (BR.out.ext (X3.out.trans hz)) (.int .i64 0) (.int .i64 0) (.int .i64 0) (.int .i64 0) (.int .i64 0) (.int .i64 0) (.int .i64 0) (.int .i64 0) (.slice none 0 0))
        have HX := Lib.hid (Ext.put9 (HW.out.trans (X3.out.trans hz)) (n := w.heap.size + 1 + 1) (by omega) (.int .i64 0) (.int .i64 0) (.int .i64 0) (.int .i64 0) (.int .i64 0) (.int .i64 0) (.int .i64 0) (.int .i64 0) (.slice none 0 0))
        have HC := Lib.hid (show shC l k f ms (j : Int) = 5 by unfold shC; rw [if_pos hq, if_pos (by omega), hT, if_neg (by rw [hr]; decide)])
        go_wp2
        exact shorten_doneS HR.out (ShPost.bad HC.out (by decide) HX.out) rfl rfl
      · go_wp2_with fail
        refine KV.mono ?_
        rw [hr]
        rintro e w4 ⟨rfl, hz⟩
        obtain ⟨⟨s0, s1, s2, s3, s4, s5, s6, s7, s8⟩, _⟩ := Box.nine (HBx.out.ext hz)
        obtain ⟨⟨h0, h1, h2, h3, h4, h5, h6, h7, h8⟩, f0, f1, f2, f3, f4, f5, f6, f7, f8⟩ := Box.nine (BR.out.ext (X3.out.trans hz))
        have HR := Lib.hid (Box.put9 (BR.out.ext (X3.out.trans hz)) (.int .i64 l.a) (.int .i64 l.b) (.int .i64 l.c) (.int .i64 l.d) (.int .i64 f.a) (.int .i64 f.b) (.int .i64 f.c) (.int .i64 f.d) (.slice a1 j cap1))
        have HX := Lib.hid (Ext.put9 (HW.out.trans (X3.out.trans hz)) (n := w.heap.size + 1 + 1) (by omega) (.int .i64 l.a) (.int .i64 l.b) (.int .i64 l.c) (.int .i64 l.d) (.int .i64 f.a) (.int .i64 f.b) (.int .i64 f.c) (.int .i64 f.d) (.slice a1 j cap1))
        have HO := Lib.hid (row_mono ((HOx.out.ext hz).chg (Chg.put9 (.int .i64 l.a) (.int .i64 l.b) (.int .i64 l.c) (.int .i64 l.d) (.int .i64 f.a) (.int .i64 f.b) (.int .i64 f.c) (.int .i64 f.d) (.slice a1 j cap1)) ((HOx.out.ext hz).block (B := w.heap.size + 1 + 1) (by omega))) (show w.heap.size ≤ w1.heap.size by omega))
        have HC := Lib.hid (show shC l k f ms (j : Int) = 0 by unfold shC; rw [if_pos hq, if_pos (by omega), hT, if_pos hr])
        go_wp2
        exact shorten_doneS HR.out (ShPost.good HC.out (by rw [hT]; exact HO.out) HX.out) rfl rfl

end Go.Proofs.Ytiofplgbbbdkfaa.Crs
