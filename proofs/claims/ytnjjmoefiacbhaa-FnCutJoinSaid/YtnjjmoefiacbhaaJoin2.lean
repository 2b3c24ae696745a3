import Derived.Test.YtnjjmoefiacbhaaJoin
import Derived.Test.YtnjjmoefiacbhaaTk1
namespace Go.Proofs.Ytnjjmoefiacbhaa.Trk
open Go.ChangeShapes Go.WideShapes Go.ChangeAt Go.RowKit
open Go.Proofs.Ytnjjmoefiacbhaa.Num Go.Proofs.Ytnjjmoefiacbhaa.Kit Go.Proofs.Ytnjjmoefiacbhaa.Pts Go.Proofs.Ytnjjmoefiacbhaa.Seg
set_option linter.unusedVariables false
set_option linter.unusedSimpArgs false
theorem tks_two {w : World} {R : Nat} {a b : Option Addr} {cap cap' : Nat} {fs gs : List F3} (h0 : w.cell? ⟨R, 0, none⟩ = some (.slice a fs.length cap)) (h1 : w.cell? ⟨R, 1, none⟩ = some (.slice b gs.length cap'))
    (ha : Fxs w a fs) (hb : Fxs w b gs) : Crs.Tks w (some ⟨R, 0, none⟩) [⟨a, cap, fs⟩, ⟨b, cap', gs⟩] := by
  refine ⟨by unfold maxLen; simp, fun i hi => ?_, .inr ⟨R, 0, rfl, fun i hi => ?_⟩⟩
  · rcases (show i = 0 ∨ i = 1 by simp at hi; omega) with rfl | rfl
    · exact ha
    · exact hb
  · rcases (show i = 0 ∨ i = 1 by simp at hi; omega) with rfl | rfl
    · exact h0
    · exact h1
theorem tsB_two (s t : Crs.T1) : Crs.tsB [s, t] = (trB s.fs && trB t.fs) := by
  simp [Crs.tsB, List.range_succ, Crs.tkB, Crs.tk]
def RelKj (wx : World) (fs gs : List F3) (R : Nat) (o i : Value) (wr : World) : Prop :=
  ∃ k : Nat, i = .int .i64 k ∧ k ≤ 2 ∧ (2 ≤ k → erB fs gs = false) ∧ OwnF wr wx.heap.size o (if k = 0 then [] else if k = 1 then fs else fs ++ reF fs gs) ∧ Box wr R [.slice none 0 0] ∧ Ext wx wr
set_option maxRecDepth 100000 in
set_option maxHeartbeats 8000000 in
theorem joinO_any (R : Nat) (a b : Option Addr) (cap cap' : Nat) (fs gs : List F3) (w : World) (hR0 : w.cell? ⟨R, 0, none⟩ = some (.slice a fs.length cap)) (hR1 : w.cell? ⟨R, 1, none⟩ = some (.slice b gs.length cap'))
    (ha : Fxs w a fs) (hb : Fxs w b gs) (hc' : gs.length ≤ cap') :
    Calls Try.prog 22 #[.slice (some ⟨R, 0, none⟩) 2 2] w fun e w' => ∃ v, e = .returned (.tuple #[Tr v, .int .i64 (joC fs gs)]) ∧ OwnF w' w.heap.size v (joF fs gs) ∧ Ext w w' := by
  obtain ⟨W0, hW0⟩ : ∃ W0, W0 = w.alloc (.cells #[.slice none 0 0] 28) := ⟨_, rfl⟩
  have HW := Lib.hid (show Ext w W0 from hW0 ▸ (Ext.refl w).alloc _)
  have HF := Lib.hid (ha.ext HW.out)
  have HG := Lib.hid (hb.ext HW.out)
  have s0 : ∀ w', Ext W0 w' → w'.cell? ⟨R, 0, none⟩ = some (.slice a fs.length cap) := fun w' h => h.cellOf (HW.out.cellOf hR0)
  have s1 : ∀ w', Ext W0 w' → w'.cell? ⟨R, 1, none⟩ = some (.slice b gs.length cap') := fun w' h => h.cellOf (HW.out.cellOf hR1)
  have B0 := Lib.hid (show Box W0 w.heap.size [.slice none 0 0] from hW0 ▸ Box.new rfl)
  have hs0 : W0.heap.size = w.heap.size + 1 := by rw [hW0]; simp
  clear ha hb hR0 hR1
  have TW := Lib.hid (fun w' (h : Ext W0 w') => tks_two (s0 w' h) (s1 w' h) (HF.out.ext h) (HG.out.ext h))
  have AV := Lib.hid (fun w' (h : Ext W0 w') => (show Calls Try.prog 41 #[.slice (some ⟨R, 0, none⟩) 2 2] w' (fun e w2 => e = .returned (.bool (Crs.tsB [⟨a, cap, fs⟩, ⟨b, cap', gs⟩])) ∧ Ext w' w2) from Crs.areValid_any _ 2 [⟨a, cap, fs⟩, ⟨b, cap', gs⟩] w' (TW.out w' h)))
  rw [tsB_two] at AV
  have B0' := Lib.hid (fun w' (h : Ext W0 w') => Box.ext B0.out h)
  clear TW
  go_enter Try.func22, Try.ntmps22
  go_wp2_with fail
  rw [← hW0]
  refine (AV.out _ (Ext.refl _)).mono ?_
  have HJ := Lib.hid (fun (h : (trB fs && trB gs) = false) => jo_one (fs := fs) (gs := gs) (by cases hv : trB fs <;> cases hu : trB gs <;> simp [hv, hu] at h ⊢))
  cases hvu : (trB fs && trB gs)
  · have H := Lib.hid (HJ.out hvu)
    rintro e w1 ⟨rfl, h⟩
    obtain ⟨r0, rf⟩ := (B0'.out w1 h) 0 _ rfl
    have X := Lib.hid (HW.out.trans h)
    clear h HJ hvu AV
    go_wp2
    have g0 : (w1.setCell ⟨w.heap.size, 0, none⟩ (.slice none 0 0)).cell? ⟨w.heap.size, 0, none⟩ = some (.slice none 0 0) := World.cell?_setCell_same _ _ _ r0
    rw [H.out.1, H.out.2]
    exact bodyPost_ret (v := .tuple #[Tr (.slice none 0 0), .int .i64 1]) (by simp [results, Try.results22, go_sem, g0]) rfl ⟨_, rfl, OwnF.nil _ _, X.out.setNew (p := ⟨w.heap.size, 0, none⟩) (by simp) _⟩
  · rintro e wr ⟨rfl, h⟩
    have HX := Lib.hid h
    have HB := Lib.hid (B0'.out wr h)
    clear h HJ AV B0'
    obtain ⟨hv, hu⟩ : trB fs = true ∧ trB gs = true := by simpa using hvu
    clear hvu
    · obtain ⟨⟨f2, f40⟩, _⟩ := trB_yes hv
      obtain ⟨⟨g2, g40⟩, _⟩ := trB_yes hu
      obtain ⟨b0, o0, rfl, hA⟩ := HF.out.row (by omega)
      obtain ⟨b1, o1, rfl, hB⟩ := HG.out.row (by omega)
      have HA := Lib.hid (fun i hi => (hA i hi).ext HX.out)
      have HB1 := Lib.hid (fun i hi => (hB i hi).ext HX.out)
      have FA := Lib.hid (HF.out.ext HX.out)
      have FB := Lib.hid (HG.out.ext HX.out)
      have t0 : ∀ w', Ext wr w' → w'.cell? ⟨R, 0, none⟩ = some (.slice (some ⟨b0, o0, none⟩) fs.length cap) := fun w' h => s0 _ (HX.out.trans h)
      have t1 : ∀ w', Ext wr w' → w'.cell? ⟨R, 1, none⟩ = some (.slice (some ⟨b1, o1, none⟩) gs.length cap') := fun w' h => s1 _ (HX.out.trans h)
      have X0 := Lib.hid (HW.out.trans HX.out)
      have zx := World.block_lt_of_cell? wr _ (HB.out 0 _ rfl).1
      simp at zx
      clear hA hB HX HF HG s0 s1 B0 HW hW0 hs0
      obtain ⟨i0, hin, hz0, hz1, hz2⟩ := info_parts fixInfo
      obtain ⟨wx, hwx⟩ : ∃ wx, wx = wr := ⟨_, rfl⟩
      rw [← hwx] at HA HB1 FA FB t0 t1 X0 zx HB ⊢
      clear hwx
      go_wp2
      go_loopw [4, 15] (fun o i wr => RelKj wx fs gs w.heap.size o i wr) (fun o i _ => 2 - (intOf i).toNat)
      case atStart => exact ⟨0, rfl, by omega, fun h => absurd h (by omega), by simpa using OwnF.nil _ _, HB.out, Ext.refl _⟩
      case round =>
        obtain ⟨k, rfl, hk, he, hO, hB, hx⟩ := hrel
        have KB := Lib.hid hB
        have HX := Lib.hid hx
        clear hB hx
        have u0 := t0 _ HX.out
        have u1 := t1 _ HX.out
        rcases (show k = 0 ∨ k = 1 ∨ k = 2 by omega) with rfl | rfl | rfl
        · simp at hO
          have O1 := hO.ext ((Ext.refl wr).alloc (.cells #[.slice (some ⟨b0, o0, none⟩) fs.length cap] 28))
          have XA := Lib.hid (HX.out.alloc (.cells #[.slice (some ⟨b0, o0, none⟩) fs.length cap] 28))
          have CC := Lib.hid (at_cells (fun i hi => (HA.out i hi).ext XA.out))
          have zA := Lib.hid (Below.size XA.out)
          have P1 := Lib.hid (cellsF_one fs)
          have P2 := Lib.hid (show (cellsF fs).length = fs.length * 3 from cellsF_len _)
          have P3 := Lib.hid (show 0 + fs.length ≤ maxLen by unfold maxLen; omega)
          have P4 := Lib.hid (show (0 + fs.length) * 24 ≤ 140737488355328 by omega)
          go_wp2_with (at_builtin; refine wpList_append_own _ rfl _ _ 26 rfl wx.heap.size 45 i0 (Fx 0 0 0) 3 24 Try.underlying26 hin hz0 hz1 hz2 rfl (by decide) _ 0 [] rfl O1 ⟨b0, o0, none⟩ fs.length _ (cellsF fs) rfl P2.out CC.out P1.out P3.out P4.out zA.out ?_; intro v1 w5 hown hgrow hnil; have O5 := Lib.hid (show OwnF w5 wx.heap.size v1 fs by simpa [OwnF] using hown); have X5 := Lib.hid (grown_ext (w0 := wx) O1 hgrow (Nat.le_refl _) XA.out); clear hown hgrow hnil O1)
          go_roundw
          case rel => (first | (show RelKj _ _ _ _ _ _ _) | refine ⟨_, _, _, _, _, _, _, ?_, rfl, rfl, rfl, rfl, rfl, rfl, rfl⟩ | refine ⟨_, _, _, _, _, _, _, _, _, _, _, _, _, _, _, _, _, _, _, _, _, _, _, _, _, _, _, _, _, _, _, _, _, _, _, _, _, _, _, _, ?_, rfl⟩ | refine ⟨_, _, _, _, _, _, _, _, _, _, _, _, _, _, _, _, _, _, _, _, _, _, _, _, _, _, _, _, _, _, _, _, _, _, _, _, _, _, _, ?_, rfl⟩ | refine ⟨_, _, _, _, _, _, _, _, _, _, _, _, _, _, _, _, _, _, _, _, _, _, _, _, _, _, _, _, _, _, _, _, _, _, _, _, _, _, _, ?_, rfl, rfl⟩ | refine ⟨_, _, _, _, _, _, _, _, _, _, _, _, _, _, _, _, _, _, _, _, _, _, _, _, _, _, _, _, _, _, _, _, _, _, _, _, _, _, ?_, rfl, rfl, rfl⟩); exact ⟨1, by go_num, by omega, fun h => absurd h (by omega), by simpa using O5.out, HB.out.ext X5.out, X5.out⟩
          case measure => simp [intOf]
        · simp at hO
          replace hO := Lib.hid hO
          replace u0 := one_on u0
          go_wp2_with fail
          refine (last_any _ _ _ _ (FA.out.ext (HX.out.trans ((Ext.refl _).alloc _))) (by omega)).mono ?_
          rintro e w2 ⟨rfl, h⟩
          have b8 := h.cellOf (boxed (t := 28) (cs := #[.slice (some ⟨b1, o1, none⟩) gs.length cap']) 0 rfl rfl)
          replace h := ((Ext.refl wr).alloc (.cells #[.slice (some ⟨b1, o1, none⟩) gs.length cap'] 28)).trans h
          obtain ⟨w3, hw3⟩ : ∃ w3, w3 = w2.alloc (.cells #[.int .i64 (fx fs (fs.length - 1)).t, .int .i64 (fx fs (fs.length - 1)).x, .int .i64 (fx fs (fs.length - 1)).y] 45) := ⟨_, rfl⟩
          have h23 : Ext w2 w3 := hw3 ▸ (Ext.refl _).alloc _
          have e0 : ∀ w', Ext w3 w' → w'.cell? ⟨w2.heap.size, 0, none⟩ = some (.int .i64 (fx fs (fs.length - 1)).t) := fun w' h => h.cellOf (hw3 ▸ boxed 0 rfl rfl)
          have e1 : ∀ w', Ext w3 w' → w'.cell? ⟨w2.heap.size, 1, none⟩ = some (.int .i64 (fx fs (fs.length - 1)).x) := fun w' h => h.cellOf (hw3 ▸ boxed 1 rfl rfl)
          have e2 : ∀ w', Ext w3 w' → w'.cell? ⟨w2.heap.size, 2, none⟩ = some (.int .i64 (fx fs (fs.length - 1)).y) := fun w' h => h.cellOf (hw3 ▸ boxed 2 rfl rfl)
          have e3 : ∀ w', Ext w3 w' → w'.cell? ⟨wr.heap.size, 0, none⟩ = some (.slice (some ⟨b1, o1, none⟩) gs.length cap') := fun w' h => (h23.trans h).cellOf b8
          have O3 := Lib.hid ((hO.out.ext h).ext h23)
          have X3 := Lib.hid ((HX.out.trans h).trans h23)
          have FT := fieldT (fx gs 0)
          have nc : ¬ cap' = 1 := by omega
          have nc2 : (1 : Int) ≤ (gs.length : Int) := by omega
          have cl : (((gs.length - 1 : Nat)) : Int) = (gs.length : Int) - 1 := by omega
          have htl : gs.tail.length = gs.length - 1 := by simp
          go_upto_region 10 with fail
          rw [← hw3]
          clear hw3 h b8 h23 u0 u1
          cases hq : eqF (fx gs 0) (fx fs (fs.length - 1))
          · have hr : reF fs gs = gs := by unfold reF lsF; rw [hq]; rfl
            have HQ := Lib.hid hq
            rcases eqF_no hq with q | ⟨q, q2⟩ | ⟨q, q2, q3⟩
            all_goals
              clear hq
              refine wp_region_held_drew (S := (fun w' => Ext w3 w')) (by kernel_rfl) (by (try dsimp only); first | go_keep | exact (Ext.refl _).drew | exact Res.new2.drew | exact Res.new4.drew | exact ResB.drew (by assumption) | exact ResC.drew (by assumption) | assumption | exact Ext.drew (by assumption) | exact Res.drew (by assumption)) (fun hHeld => ?_)
              (refine Ord.k 0 31 (v := ?_) ?_ ?_; rotate_left; (intro w h; (try dsimp only at h); go_simp; (try with_reducible rfl)); (try simp only [Act.put, Ord.a, Ord.b, Ord.c]))
              (refine Ord.k 2 33 (v := ?_) ?_ ?_; rotate_left; (intro w h; (try dsimp only at h); go_simp; (try with_reducible rfl)); (try simp only [Act.put, Ord.a, Ord.b, Ord.c]))
              (refine wpAnyH_ready (rs := [1]) (by kernel_rfl) (by simp) ?_; refine AllReadyH.cons rfl (fun K hK => ?_) AllReadyH.nil; go_simp; (go_at_call 43; refine (first_any _ _ _ _ (FB.out.ext (X3.out.trans (by first | assumption | exact (Ext.refl _).drew))) (by omega)).mono ?_; rintro e w4 ⟨rfl, hy⟩); go_wp2_with fail; (refine hK.out _ _ (by first | assumption | exact Ext.trans (by assumption) hy | exact Res.ext (by assumption) hy | exact ResB.ext (by assumption) hy | exact ResC.ext (by assumption) hy | (go_split_ands; (repeat' apply And.intro) <;> exact Ext.cellOf hy (by assumption))) (fun hHeld => ?_)); clear hK K; (try simp only [Act.put, Ord.a, Ord.b, Ord.c]))
              (refine Ord.k 3 34 (v := ?_) ?_ ?_; rotate_left; (intro w h; (try dsimp only at h); go_simp; (try with_reducible rfl)); (try simp only [Act.put, Ord.a, Ord.b, Ord.c]))
              (refine Ord.k 4 30 (v := ?_) ?_ ?_; rotate_left; (intro w h; (try dsimp only at h); go_simp; (try with_reducible rfl)); (try simp only [Act.put, Ord.a, Ord.b, Ord.c]))
              refine wpAnyH_done (by kernel_rfl) ?_ _
              have hH := hHeld.drew
              go_wp2_with fail
              refine wp_region_held_drew (S := (fun w' => Ext w3 w')) (by kernel_rfl) (by (try dsimp only); first | go_keep | exact (Ext.refl _).drew | exact Res.new2.drew | exact Res.new4.drew | exact ResB.drew (by assumption) | exact ResC.drew (by assumption) | assumption | exact Ext.drew (by assumption) | exact Res.drew (by assumption)) (fun hHeld => ?_)
              (refine Ord.k 0 38 (v := ?_) ?_ ?_; rotate_left; (intro w h; (try dsimp only at h); go_simp; (try with_reducible rfl)); (try simp only [Act.put, Ord.a, Ord.b, Ord.c]))
              (refine Ord.k 3 41 (v := ?_) ?_ ?_; rotate_left; (intro w h; (try dsimp only at h); go_simp; (try with_reducible rfl)); (try simp only [Act.put, Ord.a, Ord.b, Ord.c]))
              (refine Ord.k 4 42 (v := ?_) ?_ ?_; rotate_left; (intro w h; (try dsimp only at h); go_simp; (try with_reducible rfl)); (try simp only [Act.put, Ord.a, Ord.b, Ord.c]))
              (refine wpAnyH_ready (rs := [1]) (by kernel_rfl) (by simp) ?_; refine AllReadyH.cons rfl (fun K hK => ?_) AllReadyH.nil; go_simp; (go_at_call 43; refine (first_any _ _ _ _ (FB.out.ext (X3.out.trans (by first | assumption | exact (Ext.refl _).drew))) (by omega)).mono ?_; rintro e wA ⟨rfl, hy⟩); go_wp2_with fail; (refine hK.out _ _ (by first | assumption | exact Ext.trans (by assumption) hy | exact Res.ext (by assumption) hy | exact ResB.ext (by assumption) hy | exact ResC.ext (by assumption) hy | (go_split_ands; (repeat' apply And.intro) <;> exact Ext.cellOf hy (by assumption))) (fun hHeld => ?_)); clear hK K; (try simp only [Act.put, Ord.a, Ord.b, Ord.c]))
              (refine Ord.k 2 40 (v := ?_) ?_ ?_; rotate_left; (intro w h; (try dsimp only at h); go_simp; (try with_reducible rfl)); (try simp only [Act.put, Ord.a, Ord.b, Ord.c]))
              (refine Ord.k 5 43 (v := ?_) ?_ ?_; rotate_left; (intro w h; (try dsimp only at h); go_simp; (try with_reducible rfl)); (try simp only [Act.put, Ord.a, Ord.b, Ord.c]))
              (refine Ord.k 6 37 (v := ?_) ?_ ?_; rotate_left; (intro w h; (try dsimp only at h); go_simp; (try with_reducible rfl)); (try simp only [Act.put, Ord.a, Ord.b, Ord.c]))
              refine wpAnyH_done (by kernel_rfl) ?_ _
              have XA := Lib.hid (X3.out.trans (show Ext w3 wA by assumption))
              have OA := Lib.hid (O3.out.ext (show Ext w3 wA by assumption))
              by_cases ht : (fx gs 0).t ≤ (fx fs (fs.length - 1)).t
              · have H := Lib.hid (jo_five (fs := fs) (gs := gs) hv hu (by unfold erB lsF; rw [HQ.out]; simpa using ht))
                obtain ⟨r0, rf⟩ := (HB.out.ext XA.out) 0 _ rfl
                go_wp2
                have g0 : (wA.setCell ⟨w.heap.size, 0, none⟩ (.slice none 0 0)).cell? ⟨w.heap.size, 0, none⟩ = some (.slice none 0 0) := World.cell?_setCell_same _ _ _ r0
                rw [H.out.1, H.out.2]
                exact bodyPost_ret (v := .tuple #[Tr (.slice none 0 0), .int .i64 5]) (by simp [results, Try.results22, go_sem, g0]) rfl ⟨_, rfl, OwnF.nil _ _, (X0.out.trans XA.out).setNew (p := ⟨w.heap.size, 0, none⟩) (by simp) _⟩
              · have HN := Lib.hid (show erB fs gs = false by unfold erB lsF; rw [HQ.out]; simpa using ht)
                have P1 := Lib.hid (cellsF_one gs)
                have P2 := Lib.hid (show (cellsF gs).length = gs.length * 3 from cellsF_len _)
                have P3 := Lib.hid (show fs.length + gs.length ≤ maxLen by unfold maxLen; omega)
                have P4 := Lib.hid (show (fs.length + gs.length) * 24 ≤ 140737488355328 by omega)
                have CC := Lib.hid (at_cells (fun i hi => (HB1.out i hi).ext XA.out))
                have zA := Lib.hid (show wx.heap.size ≤ wA.heap.size from Below.size XA.out)
                have OO := OA.out
                go_wp2_with (at_builtin; refine wpList_append_own _ rfl _ _ 26 rfl wx.heap.size 45 i0 (Fx 0 0 0) 3 24 Try.underlying26 hin hz0 hz1 hz2 rfl (by decide) _ fs.length _ rfl OO ⟨b1, o1, none⟩ gs.length _ (cellsF gs) rfl P2.out CC.out P1.out P3.out P4.out zA.out ?_; intro v1 w5 hown hgrow hnil; have O5 := Lib.hid (show OwnF w5 wx.heap.size v1 (fs ++ gs) by simpa [OwnF, cellsF_app2] using hown); have X5 := Lib.hid (grown_ext (w0 := wx) OO hgrow (Nat.le_refl _) XA.out); clear hown hgrow hnil OO)
                go_roundw
                case rel => (first | (show RelKj _ _ _ _ _ _ _) | refine ⟨_, _, _, _, _, _, _, ?_, rfl, rfl, rfl, rfl, rfl, rfl, rfl⟩ | refine ⟨_, _, _, _, _, _, _, _, _, _, _, _, _, _, _, _, _, _, _, _, _, _, _, _, _, _, _, _, _, _, _, _, _, _, _, _, _, _, _, _, ?_, rfl⟩ | refine ⟨_, _, _, _, _, _, _, _, _, _, _, _, _, _, _, _, _, _, _, _, _, _, _, _, _, _, _, _, _, _, _, _, _, _, _, _, _, _, _, ?_, rfl⟩ | refine ⟨_, _, _, _, _, _, _, _, _, _, _, _, _, _, _, _, _, _, _, _, _, _, _, _, _, _, _, _, _, _, _, _, _, _, _, _, _, _, _, ?_, rfl, rfl⟩ | refine ⟨_, _, _, _, _, _, _, _, _, _, _, _, _, _, _, _, _, _, _, _, _, _, _, _, _, _, _, _, _, _, _, _, _, _, _, _, _, _, ?_, rfl, rfl, rfl⟩); exact ⟨2, by go_num, by omega, fun _ => HN.out, by rw [if_neg (by omega), if_neg (by omega), hr]; exact O5.out, HB.out.ext X5.out, X5.out⟩
                case measure => simp [intOf]
          · obtain ⟨q, q2, q3⟩ := eqF_yes hq
            have hr : reF fs gs = gs.tail := by unfold reF lsF; rw [hq]; rfl
            have HN := Lib.hid (show erB fs gs = false by unfold erB lsF; rw [hq]; rfl)
            clear hq
            refine wp_region_held_drew (S := (fun w' => Ext w3 w')) (by kernel_rfl) (by (try dsimp only); first | go_keep | exact (Ext.refl _).drew | exact Res.new2.drew | exact Res.new4.drew | exact ResB.drew (by assumption) | exact ResC.drew (by assumption) | assumption | exact Ext.drew (by assumption) | exact Res.drew (by assumption)) (fun hHeld => ?_)
            (refine Ord.k 0 31 (v := ?_) ?_ ?_; rotate_left; (intro w h; (try dsimp only at h); go_simp; (try with_reducible rfl)); (try simp only [Act.put, Ord.a, Ord.b, Ord.c]))
            (refine Ord.k 2 33 (v := ?_) ?_ ?_; rotate_left; (intro w h; (try dsimp only at h); go_simp; (try with_reducible rfl)); (try simp only [Act.put, Ord.a, Ord.b, Ord.c]))
            (refine wpAnyH_ready (rs := [1]) (by kernel_rfl) (by simp) ?_; refine AllReadyH.cons rfl (fun K hK => ?_) AllReadyH.nil; go_simp; (go_at_call 43; refine (first_any _ _ _ _ (FB.out.ext (X3.out.trans (by first | assumption | exact (Ext.refl _).drew))) (by omega)).mono ?_; rintro e wA ⟨rfl, hy⟩); go_wp2_with fail; (refine hK.out _ _ (by first | assumption | exact Ext.trans (by assumption) hy | exact Res.ext (by assumption) hy | exact ResB.ext (by assumption) hy | exact ResC.ext (by assumption) hy | (go_split_ands; (repeat' apply And.intro) <;> exact Ext.cellOf hy (by assumption))) (fun hHeld => ?_)); clear hK K; (try simp only [Act.put, Ord.a, Ord.b, Ord.c]))
            (refine Ord.k 3 34 (v := ?_) ?_ ?_; rotate_left; (intro w h; (try dsimp only at h); go_simp; (try with_reducible rfl)); (try simp only [Act.put, Ord.a, Ord.b, Ord.c]))
            (refine Ord.k 4 30 (v := ?_) ?_ ?_; rotate_left; (intro w h; (try dsimp only at h); go_simp; (try with_reducible rfl)); (try simp only [Act.put, Ord.a, Ord.b, Ord.c]))
            refine wpAnyH_done (by kernel_rfl) ?_ _
            have XA := Lib.hid (X3.out.trans hHeld)
            have OA := Lib.hid (O3.out.ext hHeld)
            have P1 := Lib.hid (cellsF_one gs.tail)
            have P2 := Lib.hid (show (cellsF gs.tail).length = (gs.length - 1) * 3 from (by rw [cellsF_len, htl]))
            have P3 := Lib.hid (show fs.length + (gs.length - 1) ≤ maxLen by unfold maxLen; omega)
            have P4 := Lib.hid (show (fs.length + (gs.length - 1)) * 24 ≤ 140737488355328 by omega)
            have CC := Lib.hid (at_cells (fun i hi => (at_tail HB1.out i hi).ext XA.out))
            have zA := Lib.hid (show wx.heap.size ≤ wA.heap.size from Below.size XA.out)
            have OO := OA.out
            go_wp2_with (at_builtin; refine wpList_append_own _ rfl _ _ 26 rfl wx.heap.size 45 i0 (Fx 0 0 0) 3 24 Try.underlying26 hin hz0 hz1 hz2 rfl (by decide) _ fs.length _ rfl OO ⟨b1, o1 + 3, none⟩ (gs.length - 1) _ (cellsF gs.tail) rfl P2.out CC.out P1.out P3.out P4.out zA.out ?_; intro v1 w5 hown hgrow hnil; have O5 := Lib.hid (show OwnF w5 wx.heap.size v1 (fs ++ gs.tail) by simpa [OwnF, cellsF_app2] using hown); have X5 := Lib.hid (grown_ext (w0 := wx) OO hgrow (Nat.le_refl _) XA.out); clear hown hgrow hnil OO)
            go_roundw
            case rel => (first | (show RelKj _ _ _ _ _ _ _) | refine ⟨_, _, _, _, _, _, _, ?_, rfl, rfl, rfl, rfl, rfl, rfl, rfl⟩ | refine ⟨_, _, _, _, _, _, _, _, _, _, _, _, _, _, _, _, _, _, _, _, _, _, _, _, _, _, _, _, _, _, _, _, _, _, _, _, _, _, _, _, ?_, rfl⟩ | refine ⟨_, _, _, _, _, _, _, _, _, _, _, _, _, _, _, _, _, _, _, _, _, _, _, _, _, _, _, _, _, _, _, _, _, _, _, _, _, _, _, ?_, rfl⟩ | refine ⟨_, _, _, _, _, _, _, _, _, _, _, _, _, _, _, _, _, _, _, _, _, _, _, _, _, _, _, _, _, _, _, _, _, _, _, _, _, _, _, ?_, rfl, rfl⟩ | refine ⟨_, _, _, _, _, _, _, _, _, _, _, _, _, _, _, _, _, _, _, _, _, _, _, _, _, _, _, _, _, _, _, _, _, _, _, _, _, _, ?_, rfl, rfl, rfl⟩); exact ⟨2, by go_num, by omega, fun _ => HN.out, by rw [if_neg (by omega), if_neg (by omega), hr]; exact O5.out, HB.out.ext X5.out, X5.out⟩
            case measure => simp [intOf]
        · simp at hO
          have hq := he (by omega)
          have HN := Lib.hid hq
          obtain ⟨a6, cap6, rfl, hc6, hF6, _⟩ := hO.fxs
          have HO := Lib.hid hO
          have eL : (fs ++ reF fs gs).length = fs.length + (reF fs gs).length := by simp
          have hr2 : (reF fs gs).length ≤ gs.length := by unfold reF; split <;> simp
          obtain ⟨r0, rf⟩ := (KB.out) 0 _ rfl
          clear hO u0 u1 he hq hF6
          rw [eL] at HO ⊢
          have HE := Lib.hid (show ∀ L, L = fs.length + (reF fs gs).length → ((40 : Int) < (L : Int) → joC fs gs = 3 ∧ joF fs gs = []) ∧ (¬ (40 : Int) < (L : Int) → joC fs gs = 0 ∧ joF fs gs = fs ++ reF fs gs) from fun L hL => ⟨fun h => jo_three hv hu HN.out (by omega), fun h => jo_zero hv hu HN.out (by omega)⟩)
          obtain ⟨L, hL⟩ : ∃ L, L = fs.length + (reF fs gs).length := ⟨_, rfl⟩
          have HE2 := Lib.hid (HE.out L hL)
          have hL80 : L ≤ 80 := by omega
          rw [← hL] at HO ⊢
          clear HE hL eL hr2
          by_cases hl : (40 : Int) < (L : Int)
          · have H := Lib.hid (HE2.out.1 hl)
            go_wp2
            have g0 : (wr.setCell ⟨w.heap.size, 0, none⟩ (.slice none 0 0)).cell? ⟨w.heap.size, 0, none⟩ = some (.slice none 0 0) := World.cell?_setCell_same _ _ _ r0
            rw [H.out.1, H.out.2]
            exact bodyPost_ret (v := .tuple #[Tr (.slice none 0 0), .int .i64 3]) (by simp [results, Try.results22, go_sem, g0]) rfl ⟨_, rfl, OwnF.nil _ _, (X0.out.trans HX.out).setNew (p := ⟨w.heap.size, 0, none⟩) (by simp) _⟩
          · have H := Lib.hid (HE2.out.2 hl)
            go_wp2
            have OF := OwnF.mono (b2 := w.heap.size) (HO.out.chg ((Chg.refl w.heap.size _).setCell 0 (.slice a6 L cap6)) (HO.out.block (by omega))) (by omega)
            have g0 : (wr.setCell ⟨w.heap.size, 0, none⟩ (.slice a6 L cap6)).cell? ⟨w.heap.size, 0, none⟩ = some (.slice a6 L cap6) := World.cell?_setCell_same _ _ _ r0
            rw [H.out.1, H.out.2]
            exact bodyPost_ret (v := .tuple #[Tr (.slice a6 L cap6), .int .i64 0]) (by simp [results, Try.results22, go_sem, g0]) rfl ⟨_, rfl, OF, (X0.out.trans HX.out).setNew (p := ⟨w.heap.size, 0, none⟩) (by simp) _⟩
theorem join_impl (a b : Option Addr) (cap cap' : Nat) (fs gs : List F3) (w : World) (ha : Fxs w a fs) (hb : Fxs w b gs) (hc' : gs.length ≤ cap') :
    Calls Try.prog 8 #[Tr (.slice a fs.length cap), Tr (.slice b gs.length cap')] w fun e w' => ∃ v, e = .returned (.tuple #[Tr v, .int .i64 (joC fs gs)]) ∧ OwnF w' w.heap.size v (joF fs gs) ∧ Ext w w' := by
  have HA := Lib.hid ha
  have HB := Lib.hid hb
  clear ha hb
  obtain ⟨rs, hrs⟩ : ∃ rs, rs = joF fs gs := ⟨_, rfl⟩
  obtain ⟨ck, hck⟩ : ∃ ck, ck = joC fs gs := ⟨_, rfl⟩
  have KO := Lib.hid (fun (R : Nat) (w : World) h0 h1 ha hb => joinO_any R a b cap cap' fs gs w h0 h1 ha hb hc')
  rw [← hrs, ← hck] at KO ⊢
  clear hrs hck
  go_enter Try.func8, Try.ntmps8
  go_wp2_with fail
  refine (KO.out _ _ (boxed 0 rfl (by simp)) (boxed 1 rfl (by simp)) (HA.out.ext (by repeat (first | exact Ext.refl _ | assumption | apply Ext.alloc | apply Ext.drew | (refine Ext.trans ?_ (by assumption)) | (refine Ext.setNew ?_ (by simp <;> omega) _)))) (HB.out.ext (by repeat (first | exact Ext.refl _ | assumption | apply Ext.alloc | apply Ext.drew | (refine Ext.trans ?_ (by assumption)) | (refine Ext.setNew ?_ (by simp <;> omega) _))))).mono ?_
  rintro e w1 ⟨v, rfl, O1, h⟩
  obtain ⟨a6, cap6, rfl, _, _, _⟩ := O1.fxs
  simp at O1
  have HO := Lib.hid O1
  obtain ⟨r0, rf⟩ := ((((Box.new (w := (w.alloc (.cells #[.slice a fs.length cap] 28)).alloc (.cells #[.slice b gs.length cap'] 28)) (n := w.heap.size + 1 + 1) (vs := [.slice none 0 0]) (t := 28) (by simp)).alloc _).ext h)) 0 _ rfl
  have X := Lib.hid ((((((Ext.refl w).alloc _).alloc _).alloc _).alloc _).trans h)
  clear h O1
  go_wp2
  have OF := OwnF.mono (b2 := w.heap.size) (HO.out.chg ((Chg.refl (w.heap.size + 1 + 1) _).setCell 0 (.slice a6 rs.length cap6)) (HO.out.block (by omega))) (by omega)
  have g0 : (w1.setCell ⟨w.heap.size + 1 + 1, 0, none⟩ (.slice a6 rs.length cap6)).cell? ⟨w.heap.size + 1 + 1, 0, none⟩ = some (.slice a6 rs.length cap6) := World.cell?_setCell_same _ _ _ r0
  exact bodyPost_ret (v := .tuple #[Tr (.slice a6 rs.length cap6), .int .i64 ck]) (by simp [results, Try.results8, go_sem, g0]) rfl ⟨_, rfl, OF, X.out.setNew (p := ⟨w.heap.size + 1 + 1, 0, none⟩) (by simp; omega) _⟩
end Go.Proofs.Ytnjjmoefiacbhaa.Trk
