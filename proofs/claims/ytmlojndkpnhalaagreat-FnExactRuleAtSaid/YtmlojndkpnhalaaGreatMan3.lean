import Derived.Test.YtmlojndkpnhalaaGreatMan
namespace Go.Proofs.YtmlojndkpnhalaaGreat.Wnd
open Go.ChangeShapes Go.WideShapes Go.ChangeAt Go.RowKit
open Go.Proofs.YtmlojndkpnhalaaGreat.Num Go.Proofs.YtmlojndkpnhalaaGreat.Kit Go.Proofs.YtmlojndkpnhalaaGreat.Pts Go.Proofs.YtmlojndkpnhalaaGreat.Seg Go.Proofs.YtmlojndkpnhalaaGreat.Gcd Go.Proofs.YtmlojndkpnhalaaGreat.Rt Go.Proofs.YtmlojndkpnhalaaGreat.Root
open Go.Proofs.YtmlojndkpnhalaaGreat.Mnv (M2 Mxs OwnM row_ext row_grown two_ints two_cells mnInfo)
open Go.Proofs.YtmlojndkpnhalaaGreat.Trk (F3 Fxs Tr trB fx hdX hdY heading_spec trB_yes leg_bounds trackValid_any isTrack_spec)
set_option linter.unusedVariables false
set_option linter.unusedSimpArgs false
def RelSm (W0 : World) (base : Nat) (x y : Int) (fs : List F3) (o i : Value) (wr : World) : Prop :=
  ∃ j : Nat, i = .int .i64 ((j : Int) + 1) ∧ j ≤ fs.length - 2 ∧ OwnM wr base o (mnL x y fs j) ∧ Ext W0 wr
theorem tk_mul {a b : Int} (ha : a = 0 ∨ a = 1 ∨ a = 2) (hb : b = 0 ∨ b = 1 ∨ b = 2) : 0 ≤ a * b ∧ a * b ≤ 4 := by
  rcases ha with rfl | rfl | rfl <;> rcases hb with rfl | rfl | rfl <;> decide
theorem op_two {a b : Int} (ha : a = 0 ∨ a = 1 ∨ a = 2) (hb : b = 0 ∨ b = 1 ∨ b = 2) : (a * b != 2) = !opB a b := by
  rcases ha with rfl | rfl | rfl <;> rcases hb with rfl | rfl | rfl <;> decide
set_option maxRecDepth 100000 in
set_option maxHeartbeats 16000000 in
theorem manoeuvres_spec (x y : Int) (a0 : Option Addr) (cap : Nat) (fs : List F3) (w : World) (hf : Fxs w a0 fs) (hv : trB fs = true) (hwd : wdB x y = true) :
    Calls Tryz.prog 265 #[Pt x y, Tr (.slice a0 fs.length cap)] w fun e w' => ∃ v, e = .returned v ∧ OwnM w' w.heap.size v (mnL x y fs (fs.length - 2)) ∧ Ext w w' := by
  obtain ⟨⟨h2, h40⟩, _⟩ := trB_yes hv
  have HL := Lib.hid (And.intro h2 h40)
  have HV := Lib.hid hv
  obtain ⟨wx, wy, _⟩ := wdB_yes hwd
  have AW := Lib.hid (And.intro wx wy)
  clear hv wx wy hwd
  rcases hf.2 with h | ⟨bb, off, rfl, hb⟩
  · rw [h] at h2; simp at h2
  clear h2 h40 hb
  obtain ⟨W0, hW0⟩ : ∃ W0, W0 = (w.alloc (.cells #[.int .i64 x, .int .i64 y] 54)).alloc (.cells #[.slice (some ⟨bb, off, none⟩) fs.length cap] 33) := ⟨_, rfl⟩
  have hX : Ext w W0 := hW0 ▸ (((Ext.refl w).alloc _).alloc _)
  have hs0 : W0.heap.size = w.heap.size + 1 + 1 := by rw [hW0]; simp
  have e00 : ∀ w', (Ext W0) w' → w'.cell? ⟨w.heap.size, 0, none⟩ = some (.int .i64 x) := fun w' h => h.cellOf (by rw [hW0]; exact ((Ext.refl _).alloc _).cellOf (boxed 0 rfl (by simp)))
  have e01 : ∀ w', (Ext W0) w' → w'.cell? ⟨w.heap.size, 1, none⟩ = some (.int .i64 y) := fun w' h => h.cellOf (by rw [hW0]; exact ((Ext.refl _).alloc _).cellOf (boxed 1 rfl (by simp)))
  have e10 : ∀ w', (Ext W0) w' → w'.cell? ⟨w.heap.size + 1, 0, none⟩ = some (.slice (some ⟨bb, off, none⟩) fs.length cap) := fun w' h => h.cellOf (by rw [hW0]; exact boxed 0 rfl (by simp))
  have HW := Lib.hid hX
  have O0 : OwnM (W0.alloc (.cells #[] 235)) W0.heap.size (.slice (some ⟨W0.heap.size, 0, none⟩) 0 0) [] := World.ownsRow_lit (base := W0.heap.size) (e := 235) (size := 2) W0 #[] 0 (Nat.le_refl _) (by unfold maxLen; omega) rfl
  have X1 := Lib.hid ((Ext.refl W0).alloc (.cells #[] 235))
  obtain ⟨W1, hW1⟩ : ∃ W1, W1 = W0.alloc (.cells #[] 235) := ⟨_, rfl⟩
  rw [← hW1] at O0 X1
  have HF := Lib.hid (fun w' (h : Ext W0 w') => hf.ext (hX.trans h))
  have ET := Lib.hid (fun w' (h : Ext W0 w') => e10 w' h)
  have EW := Lib.hid (fun w' (h : Ext W0 w') => (show w'.cell? ⟨w.heap.size, 0, none⟩ = some (.int .i64 x) ∧ w'.cell? ⟨w.heap.size, 1, none⟩ = some (.int .i64 y) from ⟨e00 w' h, e01 w' h⟩))
  have HO0 := Lib.hid O0
  clear hf O0 e00 e01 e10 hX
  obtain ⟨ti, hin, hz0, hz1, hz2⟩ := info_parts mnInfo
  go_enter Tryz.func265, Tryz.ntmps265
  go_wp2
  rw [← hW0]
  go_loopw [5, 6] (fun o i wr => RelSm W0 W0.heap.size x y fs o i wr) (fun o i _ => fs.length - (intOf i).toNat)
  case atStart =>
    rw [← hW1]
    exact ⟨0, rfl, Nat.zero_le _, by rw [show w.heap.size + 1 + 1 = W0.heap.size from hs0.symm]; exact HO0.out, X1.out⟩
  case round =>
    obtain ⟨j, rfl, hj, hO, hx⟩ := hrel
    have HO := Lib.hid hO
    have HX := Lib.hid hx
    clear hO hx
    have ct := ET.out wr HX.out
    have hl2 := HL.out.1
    have hl40 := HL.out.2
    have T7 : IntKind.i64.wrap ((j : Int) + 1 + 1) = (j : Int) + 1 + 1 := IntWalk.i64_in _ (by omega)
    by_cases hlt : j < fs.length - 2
    · have hk1 : j + 1 < fs.length := by omega
      have hk2 : j + 1 + 1 < fs.length := by omega
      have i1 : (j : Int) + 1 + 1 < (fs.length : Int) := by omega
      have T8 : IntKind.i64.wrap ((j : Int) + 1 - 1) = (j : Int) := by rw [show (j : Int) + 1 - 1 = j by omega]; exact IntWalk.i64_in _ (by omega)
      have T9 : IntKind.i64.wrap (j : Int) = (j : Int) := IntWalk.i64_in _ (by omega)
      have H1 := Lib.hid (fun w' (h : Ext wr w') => heading_spec (some ⟨bb, off, none⟩) cap fs j w' (HF.out w' (HX.out.trans h)) hk1 HV.out)
      have H2 := Lib.hid (fun w' (h : Ext wr w') => show Calls Tryz.prog 267 #[Tr (.slice (some ⟨bb, off, none⟩) fs.length cap), .int .i64 ((j : Int) + 1)] w' fun e w'' => e = .returned (Pt (hdX fs (j + 1)) (hdY fs (j + 1))) ∧ Ext w' w'' from heading_spec (some ⟨bb, off, none⟩) cap fs (j + 1) w' (HF.out w' (HX.out.trans h)) hk2 HV.out)
      have D1 := Lib.hid (hd_bd HV.out hk1)
      have D2 := Lib.hid (hd_bd HV.out hk2)
      have HY := Lib.hid (mnL_yes (x := x) (y := y) (fs := fs) (n := j))
      have HN := Lib.hid (mnL_no (x := x) (y := y) (fs := fs) (n := j))
      have HE := Lib.hid (op_ne (x := x) (y := y) (fs := fs) (n := j))
      have TT1 := Lib.hid (show tkA x y fs j = tkN (hdX fs j * y - hdY fs j * x) from rfl)
      have TT2 := Lib.hid (show tkA x y fs (j + 1) = tkN (hdX fs (j + 1) * y - hdY fs (j + 1) * x) from rfl)
      have TK := Lib.hid (show knA x y fs j = knN x y (hdX fs j) (hdY fs j) (hdX fs (j + 1)) (hdY fs (j + 1)) from rfl)
      have C1 := Lib.hid (show tkA x y fs j = 0 ∨ tkA x y fs j = 1 ∨ tkA x y fs j = 2 from tkN_cases _)
      have C2 := Lib.hid (show tkA x y fs (j + 1) = 0 ∨ tkA x y fs (j + 1) = 1 ∨ tkA x y fs (j + 1) = 2 from tkN_cases _)
      generalize tkA x y fs j = tA at *
      generalize tkA x y fs (j + 1) = tB at *
      generalize knA x y fs j = kA at *
      generalize hdX fs j = p at *
      generalize hdY fs j = r at *
      generalize hdX fs (j + 1) = u at *
      generalize hdY fs (j + 1) = s at *
      have TM : IntKind.i64.wrap (tA * tB) = tA * tB := IntWalk.i64_in _ (by have := tk_mul C1.out C2.out; omega)
      have OM := Lib.hid (op_two C1.out C2.out)
      have e2 : ∀ w', Ext wr w' → w'.cell? ⟨w.heap.size + 1, 0, none⟩ = some (.slice (some ⟨bb, off, none⟩) fs.length cap) := fun w' h => h.cellOf ct
      go_upto_region 5 with fail
      go_cut [7, 8] from 17 to 47 (fun s1 s2 wx => (∃ B, s1 = .pointer (some ⟨B, 0, none⟩) ∧ Box wx B [.int .i64 p, .int .i64 r]) ∧ (∃ B, s2 = .pointer (some ⟨B, 0, none⟩) ∧ Box wx B [.int .i64 u, .int .i64 s]) ∧ Ext wr wx)
      case first =>
        refine wp_region_held_drew (S := fun w' => Ext wr w') (by kernel_rfl) (by (try dsimp only); exact (Ext.refl _).drew) (fun hHeld => ?_)
        refine Ord.K 0 19 ?_; refine Ord.K 1 20 ?_; refine Ord.K 2 21 ?_; refine Ord.K 4 23 ?_; refine Ord.K 5 24 ?_
        have hE : Ext wr wr.drew := (Ext.refl wr).drew
        obtain ⟨V0, hV0⟩ : ∃ V0, V0 = wr.drew := ⟨_, rfl⟩
        rw [← hV0] at hE hHeld ⊢
        clear hV0
        refine wpAnyH_ready (rs := [3, 7, 8]) (by kernel_rfl) (by simp) ?_
        refine (AllReadyH.cons rfl (fun K hK => ?_) (AllReadyH.cons rfl (fun K hK => ?_) (AllReadyH.cons rfl (fun K hK => ?_) AllReadyH.nil)))
        · go_simp
          go_at_call 267
          refine (H1.out _ hE).mono ?_
          rintro e V1 ⟨rfl, hy⟩
          go_wp2_with fail
          have zy := Ext.size hy
          have hE' := hE.trans hy
          refine hK.out _ _ hE' (fun hHeld => ?_)
          clear hK K
          (try simp only [Act.put, Ord.a, Ord.b, Ord.c])
          replace hE := hE'
          clear hE' hy
          refine wpAnyH_ready (rs := [6, 7, 8]) (by kernel_rfl) (by simp) ?_
          refine (AllReadyH.cons rfl (fun K hK => ?_) (AllReadyH.cons rfl (fun K hK => ?_) (AllReadyH.cons rfl (fun K hK => ?_) AllReadyH.nil)))
          · go_simp
            go_at_call 267
            refine (H2.out _ hE).mono ?_
            rintro e V2 ⟨rfl, hy⟩
            go_wp2_with fail
            have zy := Ext.size hy
            have hE' := hE.trans hy
            refine hK.out _ _ hE' (fun hHeld => ?_)
            clear hK K
            (try simp only [Act.put, Ord.a, Ord.b, Ord.c])
            replace hE := hE'
            clear hE' hy
            refine wpAnyH_ready (rs := [7, 8]) (by kernel_rfl) (by simp) ?_
            refine (AllReadyH.cons rfl (fun K hK => ?_) (AllReadyH.cons rfl (fun K hK => ?_) AllReadyH.nil))
            · go_simp
              have hE' : Ext wr (V2.alloc (.cells #[.int .i64 0, .int .i64 0] 25)) := hE.alloc _
              refine hK.out _ _ hE' (fun hHeld => ?_)
              clear hK K
              (try simp only [Act.put, Ord.a, Ord.b, Ord.c])
              have P7 := Box.new2 (w := V2) (x := .int .i64 0) (y := .int .i64 0) (t := 25) rfl
              have zV2 := Ext.size hE
              have yV2 : V2.heap.size < (V2.alloc (.cells #[.int .i64 0, .int .i64 0] 25)).heap.size := by simp
              replace hE := hE'
              clear hE'
              generalize V2.alloc (.cells #[.int .i64 0, .int .i64 0] 25) = V3 at *
              refine wpAnyH_ready (rs := [8]) (by kernel_rfl) (by simp) ?_
              refine (AllReadyH.cons rfl (fun K hK => ?_) AllReadyH.nil)
              · go_simp
                have hE' : Ext wr (V3.alloc (.cells #[.int .i64 0, .int .i64 0] 25)) := hE.alloc _
                refine hK.out _ _ hE' (fun hHeld => ?_)
                clear hK K
                (try simp only [Act.put, Ord.a, Ord.b, Ord.c])
                replace P7 := P7.alloc (.cells #[.int .i64 0, .int .i64 0] 25)
                have P8 := Box.new2 (w := V3) (x := .int .i64 0) (y := .int .i64 0) (t := 25) rfl
                have zV3 := Ext.size hE
                have yV3 : V3.heap.size < (V3.alloc (.cells #[.int .i64 0, .int .i64 0] 25)).heap.size := by simp
                replace hE := hE'
                clear hE'
                generalize V3.alloc (.cells #[.int .i64 0, .int .i64 0] 25) = V4 at *
                obtain ⟨⟨r0, r1⟩, r2, r3⟩ := P7.two
                refine wpAnyH_ready (rs := [9]) (by kernel_rfl) (by simp) ?_
                refine AllReadyH.cons rfl (fun K hK => ?_) AllReadyH.nil
                go_simp
                have hE' : Ext wr ((V4.setCell ⟨V2.heap.size, 0, none⟩ (.int .i64 p)).setCell ⟨V2.heap.size, 1, none⟩ (.int .i64 r)) := (hE.setNew (by simp; omega) _).setNew (by simp; omega) _
                refine hK.out _ _ hE' (fun hHeld => ?_)
                clear hK K r0 r1 r2 r3
                (try simp only [Act.put, Ord.a, Ord.b, Ord.c])
                replace P7 := P7.set2 (u := .int .i64 p) (v := .int .i64 r)
                replace P8 := P8.away2 (m := V2.heap.size) (i := 0) (j := 1) (u := .int .i64 p) (v := .int .i64 r) (by omega)
                replace hE := hE'
                clear hE'
                generalize (V4.setCell ⟨V2.heap.size, 0, none⟩ (.int .i64 p)).setCell ⟨V2.heap.size, 1, none⟩ (.int .i64 r) = V5 at *
                obtain ⟨⟨r0, r1⟩, r2, r3⟩ := P8.two
                refine wpAnyH_ready (rs := [10]) (by kernel_rfl) (by simp) ?_
                refine AllReadyH.cons rfl (fun K hK => ?_) AllReadyH.nil
                go_simp
                have hE' : Ext wr ((V5.setCell ⟨V3.heap.size, 0, none⟩ (.int .i64 u)).setCell ⟨V3.heap.size, 1, none⟩ (.int .i64 s)) := (hE.setNew (by simp; omega) _).setNew (by simp; omega) _
                refine hK.out _ _ hE' (fun hHeld => ?_)
                clear hK K r0 r1 r2 r3
                (try simp only [Act.put, Ord.a, Ord.b, Ord.c])
                replace P8 := P8.set2 (u := .int .i64 u) (v := .int .i64 s)
                replace P7 := P7.away2 (m := V3.heap.size) (i := 0) (j := 1) (u := .int .i64 u) (v := .int .i64 s) (by omega)
                replace hE := hE'
                clear hE'
                generalize (V5.setCell ⟨V3.heap.size, 0, none⟩ (.int .i64 u)).setCell ⟨V3.heap.size, 1, none⟩ (.int .i64 s) = V6 at *
                refine wpAnyH_done (by kernel_rfl) ?_ _
                go_wp2_with fail
                go_meet
                exact ⟨⟨_, rfl, P7⟩, ⟨_, rfl, P8⟩, hE⟩
            · go_simp
              have hE' : Ext wr (V2.alloc (.cells #[.int .i64 0, .int .i64 0] 25)) := hE.alloc _
              refine hK.out _ _ hE' (fun hHeld => ?_)
              clear hK K
              (try simp only [Act.put, Ord.a, Ord.b, Ord.c])
              have P8 := Box.new2 (w := V2) (x := .int .i64 0) (y := .int .i64 0) (t := 25) rfl
              have zV2 := Ext.size hE
              have yV2 : V2.heap.size < (V2.alloc (.cells #[.int .i64 0, .int .i64 0] 25)).heap.size := by simp
              replace hE := hE'
              clear hE'
              generalize V2.alloc (.cells #[.int .i64 0, .int .i64 0] 25) = V3 at *
              refine wpAnyH_ready (rs := [7]) (by kernel_rfl) (by simp) ?_
              refine (AllReadyH.cons rfl (fun K hK => ?_) AllReadyH.nil)
              · go_simp
                have hE' : Ext wr (V3.alloc (.cells #[.int .i64 0, .int .i64 0] 25)) := hE.alloc _
                refine hK.out _ _ hE' (fun hHeld => ?_)
                clear hK K
                (try simp only [Act.put, Ord.a, Ord.b, Ord.c])
                replace P8 := P8.alloc (.cells #[.int .i64 0, .int .i64 0] 25)
                have P7 := Box.new2 (w := V3) (x := .int .i64 0) (y := .int .i64 0) (t := 25) rfl
                have zV3 := Ext.size hE
                have yV3 : V3.heap.size < (V3.alloc (.cells #[.int .i64 0, .int .i64 0] 25)).heap.size := by simp
                replace hE := hE'
                clear hE'
                generalize V3.alloc (.cells #[.int .i64 0, .int .i64 0] 25) = V4 at *
                obtain ⟨⟨r0, r1⟩, r2, r3⟩ := P7.two
                refine wpAnyH_ready (rs := [9]) (by kernel_rfl) (by simp) ?_
                refine AllReadyH.cons rfl (fun K hK => ?_) AllReadyH.nil
                go_simp
                have hE' : Ext wr ((V4.setCell ⟨V3.heap.size, 0, none⟩ (.int .i64 p)).setCell ⟨V3.heap.size, 1, none⟩ (.int .i64 r)) := (hE.setNew (by simp; omega) _).setNew (by simp; omega) _
                refine hK.out _ _ hE' (fun hHeld => ?_)
                clear hK K r0 r1 r2 r3
                (try simp only [Act.put, Ord.a, Ord.b, Ord.c])
                replace P7 := P7.set2 (u := .int .i64 p) (v := .int .i64 r)
                replace P8 := P8.away2 (m := V3.heap.size) (i := 0) (j := 1) (u := .int .i64 p) (v := .int .i64 r) (by omega)
                replace hE := hE'
                clear hE'
                generalize (V4.setCell ⟨V3.heap.size, 0, none⟩ (.int .i64 p)).setCell ⟨V3.heap.size, 1, none⟩ (.int .i64 r) = V5 at *
                obtain ⟨⟨r0, r1⟩, r2, r3⟩ := P8.two
                refine wpAnyH_ready (rs := [10]) (by kernel_rfl) (by simp) ?_
                refine AllReadyH.cons rfl (fun K hK => ?_) AllReadyH.nil
                go_simp
                have hE' : Ext wr ((V5.setCell ⟨V2.heap.size, 0, none⟩ (.int .i64 u)).setCell ⟨V2.heap.size, 1, none⟩ (.int .i64 s)) := (hE.setNew (by simp; omega) _).setNew (by simp; omega) _
                refine hK.out _ _ hE' (fun hHeld => ?_)
                clear hK K r0 r1 r2 r3
                (try simp only [Act.put, Ord.a, Ord.b, Ord.c])
                replace P8 := P8.set2 (u := .int .i64 u) (v := .int .i64 s)
                replace P7 := P7.away2 (m := V2.heap.size) (i := 0) (j := 1) (u := .int .i64 u) (v := .int .i64 s) (by omega)
                replace hE := hE'
                clear hE'
                generalize (V5.setCell ⟨V2.heap.size, 0, none⟩ (.int .i64 u)).setCell ⟨V2.heap.size, 1, none⟩ (.int .i64 s) = V6 at *
                refine wpAnyH_done (by kernel_rfl) ?_ _
                go_wp2_with fail
                go_meet
                exact ⟨⟨_, rfl, P7⟩, ⟨_, rfl, P8⟩, hE⟩
          · go_simp
            have hE' : Ext wr (V1.alloc (.cells #[.int .i64 0, .int .i64 0] 25)) := hE.alloc _
            refine hK.out _ _ hE' (fun hHeld => ?_)
            clear hK K
            (try simp only [Act.put, Ord.a, Ord.b, Ord.c])
            have P7 := Box.new2 (w := V1) (x := .int .i64 0) (y := .int .i64 0) (t := 25) rfl
            have zV1 := Ext.size hE
            have yV1 : V1.heap.size < (V1.alloc (.cells #[.int .i64 0, .int .i64 0] 25)).heap.size := by simp
            replace hE := hE'
            clear hE'
            generalize V1.alloc (.cells #[.int .i64 0, .int .i64 0] 25) = V2 at *
            refine wpAnyH_ready (rs := [6, 8]) (by kernel_rfl) (by simp) ?_
            refine (AllReadyH.cons rfl (fun K hK => ?_) (AllReadyH.cons rfl (fun K hK => ?_) AllReadyH.nil))
            · go_simp
              go_at_call 267
              refine (H2.out _ hE).mono ?_
              rintro e V3 ⟨rfl, hy⟩
              go_wp2_with fail
              have zy := Ext.size hy
              have hE' := hE.trans hy
              refine hK.out _ _ hE' (fun hHeld => ?_)
              clear hK K
              (try simp only [Act.put, Ord.a, Ord.b, Ord.c])
              replace P7 := P7.ext hy
              replace hE := hE'
              clear hE' hy
              refine wpAnyH_ready (rs := [8]) (by kernel_rfl) (by simp) ?_
              refine (AllReadyH.cons rfl (fun K hK => ?_) AllReadyH.nil)
              · go_simp
                have hE' : Ext wr (V3.alloc (.cells #[.int .i64 0, .int .i64 0] 25)) := hE.alloc _
                refine hK.out _ _ hE' (fun hHeld => ?_)
                clear hK K
                (try simp only [Act.put, Ord.a, Ord.b, Ord.c])
                replace P7 := P7.alloc (.cells #[.int .i64 0, .int .i64 0] 25)
                have P8 := Box.new2 (w := V3) (x := .int .i64 0) (y := .int .i64 0) (t := 25) rfl
                have zV3 := Ext.size hE
                have yV3 : V3.heap.size < (V3.alloc (.cells #[.int .i64 0, .int .i64 0] 25)).heap.size := by simp
                replace hE := hE'
                clear hE'
                generalize V3.alloc (.cells #[.int .i64 0, .int .i64 0] 25) = V4 at *
                obtain ⟨⟨r0, r1⟩, r2, r3⟩ := P7.two
                refine wpAnyH_ready (rs := [9]) (by kernel_rfl) (by simp) ?_
                refine AllReadyH.cons rfl (fun K hK => ?_) AllReadyH.nil
                go_simp
                have hE' : Ext wr ((V4.setCell ⟨V1.heap.size, 0, none⟩ (.int .i64 p)).setCell ⟨V1.heap.size, 1, none⟩ (.int .i64 r)) := (hE.setNew (by simp; omega) _).setNew (by simp; omega) _
                refine hK.out _ _ hE' (fun hHeld => ?_)
                clear hK K r0 r1 r2 r3
                (try simp only [Act.put, Ord.a, Ord.b, Ord.c])
                replace P7 := P7.set2 (u := .int .i64 p) (v := .int .i64 r)
                replace P8 := P8.away2 (m := V1.heap.size) (i := 0) (j := 1) (u := .int .i64 p) (v := .int .i64 r) (by omega)
                replace hE := hE'
                clear hE'
                generalize (V4.setCell ⟨V1.heap.size, 0, none⟩ (.int .i64 p)).setCell ⟨V1.heap.size, 1, none⟩ (.int .i64 r) = V5 at *
                obtain ⟨⟨r0, r1⟩, r2, r3⟩ := P8.two
                refine wpAnyH_ready (rs := [10]) (by kernel_rfl) (by simp) ?_
                refine AllReadyH.cons rfl (fun K hK => ?_) AllReadyH.nil
                go_simp
                have hE' : Ext wr ((V5.setCell ⟨V3.heap.size, 0, none⟩ (.int .i64 u)).setCell ⟨V3.heap.size, 1, none⟩ (.int .i64 s)) := (hE.setNew (by simp; omega) _).setNew (by simp; omega) _
                refine hK.out _ _ hE' (fun hHeld => ?_)
                clear hK K r0 r1 r2 r3
                (try simp only [Act.put, Ord.a, Ord.b, Ord.c])
                replace P8 := P8.set2 (u := .int .i64 u) (v := .int .i64 s)
                replace P7 := P7.away2 (m := V3.heap.size) (i := 0) (j := 1) (u := .int .i64 u) (v := .int .i64 s) (by omega)
                replace hE := hE'
                clear hE'
                generalize (V5.setCell ⟨V3.heap.size, 0, none⟩ (.int .i64 u)).setCell ⟨V3.heap.size, 1, none⟩ (.int .i64 s) = V6 at *
                refine wpAnyH_done (by kernel_rfl) ?_ _
                go_wp2_with fail
                go_meet
                exact ⟨⟨_, rfl, P7⟩, ⟨_, rfl, P8⟩, hE⟩
            · go_simp
              have hE' : Ext wr (V2.alloc (.cells #[.int .i64 0, .int .i64 0] 25)) := hE.alloc _
              refine hK.out _ _ hE' (fun hHeld => ?_)
              clear hK K
              (try simp only [Act.put, Ord.a, Ord.b, Ord.c])
              replace P7 := P7.alloc (.cells #[.int .i64 0, .int .i64 0] 25)
              have P8 := Box.new2 (w := V2) (x := .int .i64 0) (y := .int .i64 0) (t := 25) rfl
              have zV2 := Ext.size hE
              have yV2 : V2.heap.size < (V2.alloc (.cells #[.int .i64 0, .int .i64 0] 25)).heap.size := by simp
              replace hE := hE'
              clear hE'
              generalize V2.alloc (.cells #[.int .i64 0, .int .i64 0] 25) = V3 at *
              refine wpAnyH_ready (rs := [6]) (by kernel_rfl) (by simp) ?_
              refine (AllReadyH.cons rfl (fun K hK => ?_) AllReadyH.nil)
              · go_simp
                go_at_call 267
                refine (H2.out _ hE).mono ?_
                rintro e V4 ⟨rfl, hy⟩
                go_wp2_with fail
                have zy := Ext.size hy
                have hE' := hE.trans hy
                refine hK.out _ _ hE' (fun hHeld => ?_)
                clear hK K
                (try simp only [Act.put, Ord.a, Ord.b, Ord.c])
                replace P7 := P7.ext hy
                replace P8 := P8.ext hy
                replace hE := hE'
                clear hE' hy
                obtain ⟨⟨r0, r1⟩, r2, r3⟩ := P7.two
                refine wpAnyH_ready (rs := [9]) (by kernel_rfl) (by simp) ?_
                refine AllReadyH.cons rfl (fun K hK => ?_) AllReadyH.nil
                go_simp
                have hE' : Ext wr ((V4.setCell ⟨V1.heap.size, 0, none⟩ (.int .i64 p)).setCell ⟨V1.heap.size, 1, none⟩ (.int .i64 r)) := (hE.setNew (by simp; omega) _).setNew (by simp; omega) _
                refine hK.out _ _ hE' (fun hHeld => ?_)
                clear hK K r0 r1 r2 r3
                (try simp only [Act.put, Ord.a, Ord.b, Ord.c])
                replace P7 := P7.set2 (u := .int .i64 p) (v := .int .i64 r)
                replace P8 := P8.away2 (m := V1.heap.size) (i := 0) (j := 1) (u := .int .i64 p) (v := .int .i64 r) (by omega)
                replace hE := hE'
                clear hE'
                generalize (V4.setCell ⟨V1.heap.size, 0, none⟩ (.int .i64 p)).setCell ⟨V1.heap.size, 1, none⟩ (.int .i64 r) = V5 at *
                obtain ⟨⟨r0, r1⟩, r2, r3⟩ := P8.two
                refine wpAnyH_ready (rs := [10]) (by kernel_rfl) (by simp) ?_
                refine AllReadyH.cons rfl (fun K hK => ?_) AllReadyH.nil
                go_simp
                have hE' : Ext wr ((V5.setCell ⟨V2.heap.size, 0, none⟩ (.int .i64 u)).setCell ⟨V2.heap.size, 1, none⟩ (.int .i64 s)) := (hE.setNew (by simp; omega) _).setNew (by simp; omega) _
                refine hK.out _ _ hE' (fun hHeld => ?_)
                clear hK K r0 r1 r2 r3
                (try simp only [Act.put, Ord.a, Ord.b, Ord.c])
                replace P8 := P8.set2 (u := .int .i64 u) (v := .int .i64 s)
                replace P7 := P7.away2 (m := V2.heap.size) (i := 0) (j := 1) (u := .int .i64 u) (v := .int .i64 s) (by omega)
                replace hE := hE'
                clear hE'
                generalize (V5.setCell ⟨V2.heap.size, 0, none⟩ (.int .i64 u)).setCell ⟨V2.heap.size, 1, none⟩ (.int .i64 s) = V6 at *
                refine wpAnyH_done (by kernel_rfl) ?_ _
                go_wp2_with fail
                go_meet
                exact ⟨⟨_, rfl, P7⟩, ⟨_, rfl, P8⟩, hE⟩
          · go_simp
            have hE' : Ext wr (V1.alloc (.cells #[.int .i64 0, .int .i64 0] 25)) := hE.alloc _
            refine hK.out _ _ hE' (fun hHeld => ?_)
            clear hK K
            (try simp only [Act.put, Ord.a, Ord.b, Ord.c])
            have P8 := Box.new2 (w := V1) (x := .int .i64 0) (y := .int .i64 0) (t := 25) rfl
            have zV1 := Ext.size hE
            have yV1 : V1.heap.size < (V1.alloc (.cells #[.int .i64 0, .int .i64 0] 25)).heap.size := by simp
            replace hE := hE'
            clear hE'
            generalize V1.alloc (.cells #[.int .i64 0, .int .i64 0] 25) = V2 at *
            refine wpAnyH_ready (rs := [6, 7]) (by kernel_rfl) (by simp) ?_
            refine (AllReadyH.cons rfl (fun K hK => ?_) (AllReadyH.cons rfl (fun K hK => ?_) AllReadyH.nil))
            · go_simp
              go_at_call 267
              refine (H2.out _ hE).mono ?_
              rintro e V3 ⟨rfl, hy⟩
              go_wp2_with fail
              have zy := Ext.size hy
              have hE' := hE.trans hy
              refine hK.out _ _ hE' (fun hHeld => ?_)
              clear hK K
              (try simp only [Act.put, Ord.a, Ord.b, Ord.c])
              replace P8 := P8.ext hy
              replace hE := hE'
              clear hE' hy
              refine wpAnyH_ready (rs := [7]) (by kernel_rfl) (by simp) ?_
              refine (AllReadyH.cons rfl (fun K hK => ?_) AllReadyH.nil)
              · go_simp
                have hE' : Ext wr (V3.alloc (.cells #[.int .i64 0, .int .i64 0] 25)) := hE.alloc _
                refine hK.out _ _ hE' (fun hHeld => ?_)
                clear hK K
                (try simp only [Act.put, Ord.a, Ord.b, Ord.c])
                replace P8 := P8.alloc (.cells #[.int .i64 0, .int .i64 0] 25)
                have P7 := Box.new2 (w := V3) (x := .int .i64 0) (y := .int .i64 0) (t := 25) rfl
                have zV3 := Ext.size hE
                have yV3 : V3.heap.size < (V3.alloc (.cells #[.int .i64 0, .int .i64 0] 25)).heap.size := by simp
                replace hE := hE'
                clear hE'
                generalize V3.alloc (.cells #[.int .i64 0, .int .i64 0] 25) = V4 at *
                obtain ⟨⟨r0, r1⟩, r2, r3⟩ := P7.two
                refine wpAnyH_ready (rs := [9]) (by kernel_rfl) (by simp) ?_
                refine AllReadyH.cons rfl (fun K hK => ?_) AllReadyH.nil
                go_simp
                have hE' : Ext wr ((V4.setCell ⟨V3.heap.size, 0, none⟩ (.int .i64 p)).setCell ⟨V3.heap.size, 1, none⟩ (.int .i64 r)) := (hE.setNew (by simp; omega) _).setNew (by simp; omega) _
                refine hK.out _ _ hE' (fun hHeld => ?_)
                clear hK K r0 r1 r2 r3
                (try simp only [Act.put, Ord.a, Ord.b, Ord.c])
                replace P7 := P7.set2 (u := .int .i64 p) (v := .int .i64 r)
                replace P8 := P8.away2 (m := V3.heap.size) (i := 0) (j := 1) (u := .int .i64 p) (v := .int .i64 r) (by omega)
                replace hE := hE'
                clear hE'
                generalize (V4.setCell ⟨V3.heap.size, 0, none⟩ (.int .i64 p)).setCell ⟨V3.heap.size, 1, none⟩ (.int .i64 r) = V5 at *
                obtain ⟨⟨r0, r1⟩, r2, r3⟩ := P8.two
                refine wpAnyH_ready (rs := [10]) (by kernel_rfl) (by simp) ?_
                refine AllReadyH.cons rfl (fun K hK => ?_) AllReadyH.nil
                go_simp
                have hE' : Ext wr ((V5.setCell ⟨V1.heap.size, 0, none⟩ (.int .i64 u)).setCell ⟨V1.heap.size, 1, none⟩ (.int .i64 s)) := (hE.setNew (by simp; omega) _).setNew (by simp; omega) _
                refine hK.out _ _ hE' (fun hHeld => ?_)
                clear hK K r0 r1 r2 r3
                (try simp only [Act.put, Ord.a, Ord.b, Ord.c])
                replace P8 := P8.set2 (u := .int .i64 u) (v := .int .i64 s)
                replace P7 := P7.away2 (m := V1.heap.size) (i := 0) (j := 1) (u := .int .i64 u) (v := .int .i64 s) (by omega)
                replace hE := hE'
                clear hE'
                generalize (V5.setCell ⟨V1.heap.size, 0, none⟩ (.int .i64 u)).setCell ⟨V1.heap.size, 1, none⟩ (.int .i64 s) = V6 at *
                refine wpAnyH_done (by kernel_rfl) ?_ _
                go_wp2_with fail
                go_meet
                exact ⟨⟨_, rfl, P7⟩, ⟨_, rfl, P8⟩, hE⟩
            · go_simp
              have hE' : Ext wr (V2.alloc (.cells #[.int .i64 0, .int .i64 0] 25)) := hE.alloc _
              refine hK.out _ _ hE' (fun hHeld => ?_)
              clear hK K
              (try simp only [Act.put, Ord.a, Ord.b, Ord.c])
              replace P8 := P8.alloc (.cells #[.int .i64 0, .int .i64 0] 25)
              have P7 := Box.new2 (w := V2) (x := .int .i64 0) (y := .int .i64 0) (t := 25) rfl
              have zV2 := Ext.size hE
              have yV2 : V2.heap.size < (V2.alloc (.cells #[.int .i64 0, .int .i64 0] 25)).heap.size := by simp
              replace hE := hE'
              clear hE'
              generalize V2.alloc (.cells #[.int .i64 0, .int .i64 0] 25) = V3 at *
              refine wpAnyH_ready (rs := [6]) (by kernel_rfl) (by simp) ?_
              refine (AllReadyH.cons rfl (fun K hK => ?_) AllReadyH.nil)
              · go_simp
                go_at_call 267
                refine (H2.out _ hE).mono ?_
                rintro e V4 ⟨rfl, hy⟩
                go_wp2_with fail
                have zy := Ext.size hy
                have hE' := hE.trans hy
                refine hK.out _ _ hE' (fun hHeld => ?_)
                clear hK K
                (try simp only [Act.put, Ord.a, Ord.b, Ord.c])
                replace P8 := P8.ext hy
                replace P7 := P7.ext hy
                replace hE := hE'
                clear hE' hy
                obtain ⟨⟨r0, r1⟩, r2, r3⟩ := P7.two
                refine wpAnyH_ready (rs := [9]) (by kernel_rfl) (by simp) ?_
                refine AllReadyH.cons rfl (fun K hK => ?_) AllReadyH.nil
                go_simp
                have hE' : Ext wr ((V4.setCell ⟨V2.heap.size, 0, none⟩ (.int .i64 p)).setCell ⟨V2.heap.size, 1, none⟩ (.int .i64 r)) := (hE.setNew (by simp; omega) _).setNew (by simp; omega) _
                refine hK.out _ _ hE' (fun hHeld => ?_)
                clear hK K r0 r1 r2 r3
                (try simp only [Act.put, Ord.a, Ord.b, Ord.c])
                replace P7 := P7.set2 (u := .int .i64 p) (v := .int .i64 r)
                replace P8 := P8.away2 (m := V2.heap.size) (i := 0) (j := 1) (u := .int .i64 p) (v := .int .i64 r) (by omega)
                replace hE := hE'
                clear hE'
                generalize (V4.setCell ⟨V2.heap.size, 0, none⟩ (.int .i64 p)).setCell ⟨V2.heap.size, 1, none⟩ (.int .i64 r) = V5 at *
                obtain ⟨⟨r0, r1⟩, r2, r3⟩ := P8.two
                refine wpAnyH_ready (rs := [10]) (by kernel_rfl) (by simp) ?_
                refine AllReadyH.cons rfl (fun K hK => ?_) AllReadyH.nil
                go_simp
                have hE' : Ext wr ((V5.setCell ⟨V1.heap.size, 0, none⟩ (.int .i64 u)).setCell ⟨V1.heap.size, 1, none⟩ (.int .i64 s)) := (hE.setNew (by simp; omega) _).setNew (by simp; omega) _
                refine hK.out _ _ hE' (fun hHeld => ?_)
                clear hK K r0 r1 r2 r3
                (try simp only [Act.put, Ord.a, Ord.b, Ord.c])
                replace P8 := P8.set2 (u := .int .i64 u) (v := .int .i64 s)
                replace P7 := P7.away2 (m := V1.heap.size) (i := 0) (j := 1) (u := .int .i64 u) (v := .int .i64 s) (by omega)
                replace hE := hE'
                clear hE'
                generalize (V5.setCell ⟨V1.heap.size, 0, none⟩ (.int .i64 u)).setCell ⟨V1.heap.size, 1, none⟩ (.int .i64 s) = V6 at *
                refine wpAnyH_done (by kernel_rfl) ?_ _
                go_wp2_with fail
                go_meet
                exact ⟨⟨_, rfl, P7⟩, ⟨_, rfl, P8⟩, hE⟩
        · go_simp
          have hE' : Ext wr (V0.alloc (.cells #[.int .i64 0, .int .i64 0] 25)) := hE.alloc _
          refine hK.out _ _ hE' (fun hHeld => ?_)
          clear hK K
          (try simp only [Act.put, Ord.a, Ord.b, Ord.c])
          have P7 := Box.new2 (w := V0) (x := .int .i64 0) (y := .int .i64 0) (t := 25) rfl
          have zV0 := Ext.size hE
          have yV0 : V0.heap.size < (V0.alloc (.cells #[.int .i64 0, .int .i64 0] 25)).heap.size := by simp
          replace hE := hE'
          clear hE'
          generalize V0.alloc (.cells #[.int .i64 0, .int .i64 0] 25) = V1 at *
          refine wpAnyH_ready (rs := [3, 8]) (by kernel_rfl) (by simp) ?_
          refine (AllReadyH.cons rfl (fun K hK => ?_) (AllReadyH.cons rfl (fun K hK => ?_) AllReadyH.nil))
          · go_simp
            go_at_call 267
            refine (H1.out _ hE).mono ?_
            rintro e V2 ⟨rfl, hy⟩
            go_wp2_with fail
            have zy := Ext.size hy
            have hE' := hE.trans hy
            refine hK.out _ _ hE' (fun hHeld => ?_)
            clear hK K
            (try simp only [Act.put, Ord.a, Ord.b, Ord.c])
            replace P7 := P7.ext hy
            replace hE := hE'
            clear hE' hy
            refine wpAnyH_ready (rs := [6, 8]) (by kernel_rfl) (by simp) ?_
            refine (AllReadyH.cons rfl (fun K hK => ?_) (AllReadyH.cons rfl (fun K hK => ?_) AllReadyH.nil))
            · go_simp
              go_at_call 267
              refine (H2.out _ hE).mono ?_
              rintro e V3 ⟨rfl, hy⟩
              go_wp2_with fail
              have zy := Ext.size hy
              have hE' := hE.trans hy
              refine hK.out _ _ hE' (fun hHeld => ?_)
              clear hK K
              (try simp only [Act.put, Ord.a, Ord.b, Ord.c])
              replace P7 := P7.ext hy
              replace hE := hE'
              clear hE' hy
              refine wpAnyH_ready (rs := [8]) (by kernel_rfl) (by simp) ?_
              refine (AllReadyH.cons rfl (fun K hK => ?_) AllReadyH.nil)
              · go_simp
                have hE' : Ext wr (V3.alloc (.cells #[.int .i64 0, .int .i64 0] 25)) := hE.alloc _
                refine hK.out _ _ hE' (fun hHeld => ?_)
                clear hK K
                (try simp only [Act.put, Ord.a, Ord.b, Ord.c])
                replace P7 := P7.alloc (.cells #[.int .i64 0, .int .i64 0] 25)
                have P8 := Box.new2 (w := V3) (x := .int .i64 0) (y := .int .i64 0) (t := 25) rfl
                have zV3 := Ext.size hE
                have yV3 : V3.heap.size < (V3.alloc (.cells #[.int .i64 0, .int .i64 0] 25)).heap.size := by simp
                replace hE := hE'
                clear hE'
                generalize V3.alloc (.cells #[.int .i64 0, .int .i64 0] 25) = V4 at *
                obtain ⟨⟨r0, r1⟩, r2, r3⟩ := P7.two
                refine wpAnyH_ready (rs := [9]) (by kernel_rfl) (by simp) ?_
                refine AllReadyH.cons rfl (fun K hK => ?_) AllReadyH.nil
                go_simp
                have hE' : Ext wr ((V4.setCell ⟨V0.heap.size, 0, none⟩ (.int .i64 p)).setCell ⟨V0.heap.size, 1, none⟩ (.int .i64 r)) := (hE.setNew (by simp; omega) _).setNew (by simp; omega) _
                refine hK.out _ _ hE' (fun hHeld => ?_)
                clear hK K r0 r1 r2 r3
                (try simp only [Act.put, Ord.a, Ord.b, Ord.c])
                replace P7 := P7.set2 (u := .int .i64 p) (v := .int .i64 r)
                replace P8 := P8.away2 (m := V0.heap.size) (i := 0) (j := 1) (u := .int .i64 p) (v := .int .i64 r) (by omega)
                replace hE := hE'
                clear hE'
                generalize (V4.setCell ⟨V0.heap.size, 0, none⟩ (.int .i64 p)).setCell ⟨V0.heap.size, 1, none⟩ (.int .i64 r) = V5 at *
                obtain ⟨⟨r0, r1⟩, r2, r3⟩ := P8.two
                refine wpAnyH_ready (rs := [10]) (by kernel_rfl) (by simp) ?_
                refine AllReadyH.cons rfl (fun K hK => ?_) AllReadyH.nil
                go_simp
                have hE' : Ext wr ((V5.setCell ⟨V3.heap.size, 0, none⟩ (.int .i64 u)).setCell ⟨V3.heap.size, 1, none⟩ (.int .i64 s)) := (hE.setNew (by simp; omega) _).setNew (by simp; omega) _
                refine hK.out _ _ hE' (fun hHeld => ?_)
                clear hK K r0 r1 r2 r3
                (try simp only [Act.put, Ord.a, Ord.b, Ord.c])
                replace P8 := P8.set2 (u := .int .i64 u) (v := .int .i64 s)
                replace P7 := P7.away2 (m := V3.heap.size) (i := 0) (j := 1) (u := .int .i64 u) (v := .int .i64 s) (by omega)
                replace hE := hE'
                clear hE'
                generalize (V5.setCell ⟨V3.heap.size, 0, none⟩ (.int .i64 u)).setCell ⟨V3.heap.size, 1, none⟩ (.int .i64 s) = V6 at *
                refine wpAnyH_done (by kernel_rfl) ?_ _
                go_wp2_with fail
                go_meet
                exact ⟨⟨_, rfl, P7⟩, ⟨_, rfl, P8⟩, hE⟩
            · go_simp
              have hE' : Ext wr (V2.alloc (.cells #[.int .i64 0, .int .i64 0] 25)) := hE.alloc _
              refine hK.out _ _ hE' (fun hHeld => ?_)
              clear hK K
              (try simp only [Act.put, Ord.a, Ord.b, Ord.c])
              replace P7 := P7.alloc (.cells #[.int .i64 0, .int .i64 0] 25)
              have P8 := Box.new2 (w := V2) (x := .int .i64 0) (y := .int .i64 0) (t := 25) rfl
              have zV2 := Ext.size hE
              have yV2 : V2.heap.size < (V2.alloc (.cells #[.int .i64 0, .int .i64 0] 25)).heap.size := by simp
              replace hE := hE'
              clear hE'
              generalize V2.alloc (.cells #[.int .i64 0, .int .i64 0] 25) = V3 at *
              refine wpAnyH_ready (rs := [6]) (by kernel_rfl) (by simp) ?_
              refine (AllReadyH.cons rfl (fun K hK => ?_) AllReadyH.nil)
              · go_simp
                go_at_call 267
                refine (H2.out _ hE).mono ?_
                rintro e V4 ⟨rfl, hy⟩
                go_wp2_with fail
                have zy := Ext.size hy
                have hE' := hE.trans hy
                refine hK.out _ _ hE' (fun hHeld => ?_)
                clear hK K
                (try simp only [Act.put, Ord.a, Ord.b, Ord.c])
                replace P7 := P7.ext hy
                replace P8 := P8.ext hy
                replace hE := hE'
                clear hE' hy
                obtain ⟨⟨r0, r1⟩, r2, r3⟩ := P7.two
                refine wpAnyH_ready (rs := [9]) (by kernel_rfl) (by simp) ?_
                refine AllReadyH.cons rfl (fun K hK => ?_) AllReadyH.nil
                go_simp
                have hE' : Ext wr ((V4.setCell ⟨V0.heap.size, 0, none⟩ (.int .i64 p)).setCell ⟨V0.heap.size, 1, none⟩ (.int .i64 r)) := (hE.setNew (by simp; omega) _).setNew (by simp; omega) _
                refine hK.out _ _ hE' (fun hHeld => ?_)
                clear hK K r0 r1 r2 r3
                (try simp only [Act.put, Ord.a, Ord.b, Ord.c])
                replace P7 := P7.set2 (u := .int .i64 p) (v := .int .i64 r)
                replace P8 := P8.away2 (m := V0.heap.size) (i := 0) (j := 1) (u := .int .i64 p) (v := .int .i64 r) (by omega)
                replace hE := hE'
                clear hE'
                generalize (V4.setCell ⟨V0.heap.size, 0, none⟩ (.int .i64 p)).setCell ⟨V0.heap.size, 1, none⟩ (.int .i64 r) = V5 at *
                obtain ⟨⟨r0, r1⟩, r2, r3⟩ := P8.two
                refine wpAnyH_ready (rs := [10]) (by kernel_rfl) (by simp) ?_
                refine AllReadyH.cons rfl (fun K hK => ?_) AllReadyH.nil
                go_simp
                have hE' : Ext wr ((V5.setCell ⟨V2.heap.size, 0, none⟩ (.int .i64 u)).setCell ⟨V2.heap.size, 1, none⟩ (.int .i64 s)) := (hE.setNew (by simp; omega) _).setNew (by simp; omega) _
                refine hK.out _ _ hE' (fun hHeld => ?_)
                clear hK K r0 r1 r2 r3
                (try simp only [Act.put, Ord.a, Ord.b, Ord.c])
                replace P8 := P8.set2 (u := .int .i64 u) (v := .int .i64 s)
                replace P7 := P7.away2 (m := V2.heap.size) (i := 0) (j := 1) (u := .int .i64 u) (v := .int .i64 s) (by omega)
                replace hE := hE'
                clear hE'
                generalize (V5.setCell ⟨V2.heap.size, 0, none⟩ (.int .i64 u)).setCell ⟨V2.heap.size, 1, none⟩ (.int .i64 s) = V6 at *
                refine wpAnyH_done (by kernel_rfl) ?_ _
                go_wp2_with fail
                go_meet
                exact ⟨⟨_, rfl, P7⟩, ⟨_, rfl, P8⟩, hE⟩
          · go_simp
            have hE' : Ext wr (V1.alloc (.cells #[.int .i64 0, .int .i64 0] 25)) := hE.alloc _
            refine hK.out _ _ hE' (fun hHeld => ?_)
            clear hK K
            (try simp only [Act.put, Ord.a, Ord.b, Ord.c])
            replace P7 := P7.alloc (.cells #[.int .i64 0, .int .i64 0] 25)
            have P8 := Box.new2 (w := V1) (x := .int .i64 0) (y := .int .i64 0) (t := 25) rfl
            have zV1 := Ext.size hE
            have yV1 : V1.heap.size < (V1.alloc (.cells #[.int .i64 0, .int .i64 0] 25)).heap.size := by simp
            replace hE := hE'
            clear hE'
            generalize V1.alloc (.cells #[.int .i64 0, .int .i64 0] 25) = V2 at *
            refine wpAnyH_ready (rs := [3]) (by kernel_rfl) (by simp) ?_
            refine (AllReadyH.cons rfl (fun K hK => ?_) AllReadyH.nil)
            · go_simp
              go_at_call 267
              refine (H1.out _ hE).mono ?_
              rintro e V3 ⟨rfl, hy⟩
              go_wp2_with fail
              have zy := Ext.size hy
              have hE' := hE.trans hy
              refine hK.out _ _ hE' (fun hHeld => ?_)
              clear hK K
              (try simp only [Act.put, Ord.a, Ord.b, Ord.c])
              replace P7 := P7.ext hy
              replace P8 := P8.ext hy
              replace hE := hE'
              clear hE' hy
              refine wpAnyH_ready (rs := [6]) (by kernel_rfl) (by simp) ?_
              refine (AllReadyH.cons rfl (fun K hK => ?_) AllReadyH.nil)
              · go_simp
                go_at_call 267
                refine (H2.out _ hE).mono ?_
                rintro e V4 ⟨rfl, hy⟩
                go_wp2_with fail
                have zy := Ext.size hy
                have hE' := hE.trans hy
                refine hK.out _ _ hE' (fun hHeld => ?_)
                clear hK K
                (try simp only [Act.put, Ord.a, Ord.b, Ord.c])
                replace P7 := P7.ext hy
                replace P8 := P8.ext hy
                replace hE := hE'
                clear hE' hy
                obtain ⟨⟨r0, r1⟩, r2, r3⟩ := P7.two
                refine wpAnyH_ready (rs := [9]) (by kernel_rfl) (by simp) ?_
                refine AllReadyH.cons rfl (fun K hK => ?_) AllReadyH.nil
                go_simp
                have hE' : Ext wr ((V4.setCell ⟨V0.heap.size, 0, none⟩ (.int .i64 p)).setCell ⟨V0.heap.size, 1, none⟩ (.int .i64 r)) := (hE.setNew (by simp; omega) _).setNew (by simp; omega) _
                refine hK.out _ _ hE' (fun hHeld => ?_)
                clear hK K r0 r1 r2 r3
                (try simp only [Act.put, Ord.a, Ord.b, Ord.c])
                replace P7 := P7.set2 (u := .int .i64 p) (v := .int .i64 r)
                replace P8 := P8.away2 (m := V0.heap.size) (i := 0) (j := 1) (u := .int .i64 p) (v := .int .i64 r) (by omega)
                replace hE := hE'
                clear hE'
                generalize (V4.setCell ⟨V0.heap.size, 0, none⟩ (.int .i64 p)).setCell ⟨V0.heap.size, 1, none⟩ (.int .i64 r) = V5 at *
                obtain ⟨⟨r0, r1⟩, r2, r3⟩ := P8.two
                refine wpAnyH_ready (rs := [10]) (by kernel_rfl) (by simp) ?_
                refine AllReadyH.cons rfl (fun K hK => ?_) AllReadyH.nil
                go_simp
                have hE' : Ext wr ((V5.setCell ⟨V1.heap.size, 0, none⟩ (.int .i64 u)).setCell ⟨V1.heap.size, 1, none⟩ (.int .i64 s)) := (hE.setNew (by simp; omega) _).setNew (by simp; omega) _
                refine hK.out _ _ hE' (fun hHeld => ?_)
                clear hK K r0 r1 r2 r3
                (try simp only [Act.put, Ord.a, Ord.b, Ord.c])
                replace P8 := P8.set2 (u := .int .i64 u) (v := .int .i64 s)
                replace P7 := P7.away2 (m := V1.heap.size) (i := 0) (j := 1) (u := .int .i64 u) (v := .int .i64 s) (by omega)
                replace hE := hE'
                clear hE'
                generalize (V5.setCell ⟨V1.heap.size, 0, none⟩ (.int .i64 u)).setCell ⟨V1.heap.size, 1, none⟩ (.int .i64 s) = V6 at *
                refine wpAnyH_done (by kernel_rfl) ?_ _
                go_wp2_with fail
                go_meet
                exact ⟨⟨_, rfl, P7⟩, ⟨_, rfl, P8⟩, hE⟩
        · go_simp
          have hE' : Ext wr (V0.alloc (.cells #[.int .i64 0, .int .i64 0] 25)) := hE.alloc _
          refine hK.out _ _ hE' (fun hHeld => ?_)
          clear hK K
          (try simp only [Act.put, Ord.a, Ord.b, Ord.c])
          have P8 := Box.new2 (w := V0) (x := .int .i64 0) (y := .int .i64 0) (t := 25) rfl
          have zV0 := Ext.size hE
          have yV0 : V0.heap.size < (V0.alloc (.cells #[.int .i64 0, .int .i64 0] 25)).heap.size := by simp
          replace hE := hE'
          clear hE'
          generalize V0.alloc (.cells #[.int .i64 0, .int .i64 0] 25) = V1 at *
          refine wpAnyH_ready (rs := [3, 7]) (by kernel_rfl) (by simp) ?_
          refine (AllReadyH.cons rfl (fun K hK => ?_) (AllReadyH.cons rfl (fun K hK => ?_) AllReadyH.nil))
          · go_simp
            go_at_call 267
            refine (H1.out _ hE).mono ?_
            rintro e V2 ⟨rfl, hy⟩
            go_wp2_with fail
            have zy := Ext.size hy
            have hE' := hE.trans hy
            refine hK.out _ _ hE' (fun hHeld => ?_)
            clear hK K
            (try simp only [Act.put, Ord.a, Ord.b, Ord.c])
            replace P8 := P8.ext hy
            replace hE := hE'
            clear hE' hy
            refine wpAnyH_ready (rs := [6, 7]) (by kernel_rfl) (by simp) ?_
            refine (AllReadyH.cons rfl (fun K hK => ?_) (AllReadyH.cons rfl (fun K hK => ?_) AllReadyH.nil))
            · go_simp
              go_at_call 267
              refine (H2.out _ hE).mono ?_
              rintro e V3 ⟨rfl, hy⟩
              go_wp2_with fail
              have zy := Ext.size hy
              have hE' := hE.trans hy
              refine hK.out _ _ hE' (fun hHeld => ?_)
              clear hK K
              (try simp only [Act.put, Ord.a, Ord.b, Ord.c])
              replace P8 := P8.ext hy
              replace hE := hE'
              clear hE' hy
              refine wpAnyH_ready (rs := [7]) (by kernel_rfl) (by simp) ?_
              refine (AllReadyH.cons rfl (fun K hK => ?_) AllReadyH.nil)
              · go_simp
                have hE' : Ext wr (V3.alloc (.cells #[.int .i64 0, .int .i64 0] 25)) := hE.alloc _
                refine hK.out _ _ hE' (fun hHeld => ?_)
                clear hK K
                (try simp only [Act.put, Ord.a, Ord.b, Ord.c])
                replace P8 := P8.alloc (.cells #[.int .i64 0, .int .i64 0] 25)
                have P7 := Box.new2 (w := V3) (x := .int .i64 0) (y := .int .i64 0) (t := 25) rfl
                have zV3 := Ext.size hE
                have yV3 : V3.heap.size < (V3.alloc (.cells #[.int .i64 0, .int .i64 0] 25)).heap.size := by simp
                replace hE := hE'
                clear hE'
                generalize V3.alloc (.cells #[.int .i64 0, .int .i64 0] 25) = V4 at *
                obtain ⟨⟨r0, r1⟩, r2, r3⟩ := P7.two
                refine wpAnyH_ready (rs := [9]) (by kernel_rfl) (by simp) ?_
                refine AllReadyH.cons rfl (fun K hK => ?_) AllReadyH.nil
                go_simp
                have hE' : Ext wr ((V4.setCell ⟨V3.heap.size, 0, none⟩ (.int .i64 p)).setCell ⟨V3.heap.size, 1, none⟩ (.int .i64 r)) := (hE.setNew (by simp; omega) _).setNew (by simp; omega) _
                refine hK.out _ _ hE' (fun hHeld => ?_)
                clear hK K r0 r1 r2 r3
                (try simp only [Act.put, Ord.a, Ord.b, Ord.c])
                replace P7 := P7.set2 (u := .int .i64 p) (v := .int .i64 r)
                replace P8 := P8.away2 (m := V3.heap.size) (i := 0) (j := 1) (u := .int .i64 p) (v := .int .i64 r) (by omega)
                replace hE := hE'
                clear hE'
                generalize (V4.setCell ⟨V3.heap.size, 0, none⟩ (.int .i64 p)).setCell ⟨V3.heap.size, 1, none⟩ (.int .i64 r) = V5 at *
                obtain ⟨⟨r0, r1⟩, r2, r3⟩ := P8.two
                refine wpAnyH_ready (rs := [10]) (by kernel_rfl) (by simp) ?_
                refine AllReadyH.cons rfl (fun K hK => ?_) AllReadyH.nil
                go_simp
                have hE' : Ext wr ((V5.setCell ⟨V0.heap.size, 0, none⟩ (.int .i64 u)).setCell ⟨V0.heap.size, 1, none⟩ (.int .i64 s)) := (hE.setNew (by simp; omega) _).setNew (by simp; omega) _
                refine hK.out _ _ hE' (fun hHeld => ?_)
                clear hK K r0 r1 r2 r3
                (try simp only [Act.put, Ord.a, Ord.b, Ord.c])
                replace P8 := P8.set2 (u := .int .i64 u) (v := .int .i64 s)
                replace P7 := P7.away2 (m := V0.heap.size) (i := 0) (j := 1) (u := .int .i64 u) (v := .int .i64 s) (by omega)
                replace hE := hE'
                clear hE'
                generalize (V5.setCell ⟨V0.heap.size, 0, none⟩ (.int .i64 u)).setCell ⟨V0.heap.size, 1, none⟩ (.int .i64 s) = V6 at *
                refine wpAnyH_done (by kernel_rfl) ?_ _
                go_wp2_with fail
                go_meet
                exact ⟨⟨_, rfl, P7⟩, ⟨_, rfl, P8⟩, hE⟩
            · go_simp
              have hE' : Ext wr (V2.alloc (.cells #[.int .i64 0, .int .i64 0] 25)) := hE.alloc _
              refine hK.out _ _ hE' (fun hHeld => ?_)
              clear hK K
              (try simp only [Act.put, Ord.a, Ord.b, Ord.c])
              replace P8 := P8.alloc (.cells #[.int .i64 0, .int .i64 0] 25)
              have P7 := Box.new2 (w := V2) (x := .int .i64 0) (y := .int .i64 0) (t := 25) rfl
              have zV2 := Ext.size hE
              have yV2 : V2.heap.size < (V2.alloc (.cells #[.int .i64 0, .int .i64 0] 25)).heap.size := by simp
              replace hE := hE'
              clear hE'
              generalize V2.alloc (.cells #[.int .i64 0, .int .i64 0] 25) = V3 at *
              refine wpAnyH_ready (rs := [6]) (by kernel_rfl) (by simp) ?_
              refine (AllReadyH.cons rfl (fun K hK => ?_) AllReadyH.nil)
              · go_simp
                go_at_call 267
                refine (H2.out _ hE).mono ?_
                rintro e V4 ⟨rfl, hy⟩
                go_wp2_with fail
                have zy := Ext.size hy
                have hE' := hE.trans hy
                refine hK.out _ _ hE' (fun hHeld => ?_)
                clear hK K
                (try simp only [Act.put, Ord.a, Ord.b, Ord.c])
                replace P8 := P8.ext hy
                replace P7 := P7.ext hy
                replace hE := hE'
                clear hE' hy
                obtain ⟨⟨r0, r1⟩, r2, r3⟩ := P7.two
                refine wpAnyH_ready (rs := [9]) (by kernel_rfl) (by simp) ?_
                refine AllReadyH.cons rfl (fun K hK => ?_) AllReadyH.nil
                go_simp
                have hE' : Ext wr ((V4.setCell ⟨V2.heap.size, 0, none⟩ (.int .i64 p)).setCell ⟨V2.heap.size, 1, none⟩ (.int .i64 r)) := (hE.setNew (by simp; omega) _).setNew (by simp; omega) _
                refine hK.out _ _ hE' (fun hHeld => ?_)
                clear hK K r0 r1 r2 r3
                (try simp only [Act.put, Ord.a, Ord.b, Ord.c])
                replace P7 := P7.set2 (u := .int .i64 p) (v := .int .i64 r)
                replace P8 := P8.away2 (m := V2.heap.size) (i := 0) (j := 1) (u := .int .i64 p) (v := .int .i64 r) (by omega)
                replace hE := hE'
                clear hE'
                generalize (V4.setCell ⟨V2.heap.size, 0, none⟩ (.int .i64 p)).setCell ⟨V2.heap.size, 1, none⟩ (.int .i64 r) = V5 at *
                obtain ⟨⟨r0, r1⟩, r2, r3⟩ := P8.two
                refine wpAnyH_ready (rs := [10]) (by kernel_rfl) (by simp) ?_
                refine AllReadyH.cons rfl (fun K hK => ?_) AllReadyH.nil
                go_simp
                have hE' : Ext wr ((V5.setCell ⟨V0.heap.size, 0, none⟩ (.int .i64 u)).setCell ⟨V0.heap.size, 1, none⟩ (.int .i64 s)) := (hE.setNew (by simp; omega) _).setNew (by simp; omega) _
                refine hK.out _ _ hE' (fun hHeld => ?_)
                clear hK K r0 r1 r2 r3
                (try simp only [Act.put, Ord.a, Ord.b, Ord.c])
                replace P8 := P8.set2 (u := .int .i64 u) (v := .int .i64 s)
                replace P7 := P7.away2 (m := V0.heap.size) (i := 0) (j := 1) (u := .int .i64 u) (v := .int .i64 s) (by omega)
                replace hE := hE'
                clear hE'
                generalize (V5.setCell ⟨V0.heap.size, 0, none⟩ (.int .i64 u)).setCell ⟨V0.heap.size, 1, none⟩ (.int .i64 s) = V6 at *
                refine wpAnyH_done (by kernel_rfl) ?_ _
                go_wp2_with fail
                go_meet
                exact ⟨⟨_, rfl, P7⟩, ⟨_, rfl, P8⟩, hE⟩
          · go_simp
            have hE' : Ext wr (V1.alloc (.cells #[.int .i64 0, .int .i64 0] 25)) := hE.alloc _
            refine hK.out _ _ hE' (fun hHeld => ?_)
            clear hK K
            (try simp only [Act.put, Ord.a, Ord.b, Ord.c])
            replace P8 := P8.alloc (.cells #[.int .i64 0, .int .i64 0] 25)
            have P7 := Box.new2 (w := V1) (x := .int .i64 0) (y := .int .i64 0) (t := 25) rfl
            have zV1 := Ext.size hE
            have yV1 : V1.heap.size < (V1.alloc (.cells #[.int .i64 0, .int .i64 0] 25)).heap.size := by simp
            replace hE := hE'
            clear hE'
            generalize V1.alloc (.cells #[.int .i64 0, .int .i64 0] 25) = V2 at *
            refine wpAnyH_ready (rs := [3]) (by kernel_rfl) (by simp) ?_
            refine (AllReadyH.cons rfl (fun K hK => ?_) AllReadyH.nil)
            · go_simp
              go_at_call 267
              refine (H1.out _ hE).mono ?_
              rintro e V3 ⟨rfl, hy⟩
              go_wp2_with fail
              have zy := Ext.size hy
              have hE' := hE.trans hy
              refine hK.out _ _ hE' (fun hHeld => ?_)
              clear hK K
              (try simp only [Act.put, Ord.a, Ord.b, Ord.c])
              replace P8 := P8.ext hy
              replace P7 := P7.ext hy
              replace hE := hE'
              clear hE' hy
              refine wpAnyH_ready (rs := [6]) (by kernel_rfl) (by simp) ?_
              refine (AllReadyH.cons rfl (fun K hK => ?_) AllReadyH.nil)
              · go_simp
                go_at_call 267
                refine (H2.out _ hE).mono ?_
                rintro e V4 ⟨rfl, hy⟩
                go_wp2_with fail
                have zy := Ext.size hy
                have hE' := hE.trans hy
                refine hK.out _ _ hE' (fun hHeld => ?_)
                clear hK K
                (try simp only [Act.put, Ord.a, Ord.b, Ord.c])
                replace P8 := P8.ext hy
                replace P7 := P7.ext hy
                replace hE := hE'
                clear hE' hy
                obtain ⟨⟨r0, r1⟩, r2, r3⟩ := P7.two
                refine wpAnyH_ready (rs := [9]) (by kernel_rfl) (by simp) ?_
                refine AllReadyH.cons rfl (fun K hK => ?_) AllReadyH.nil
                go_simp
                have hE' : Ext wr ((V4.setCell ⟨V1.heap.size, 0, none⟩ (.int .i64 p)).setCell ⟨V1.heap.size, 1, none⟩ (.int .i64 r)) := (hE.setNew (by simp; omega) _).setNew (by simp; omega) _
                refine hK.out _ _ hE' (fun hHeld => ?_)
                clear hK K r0 r1 r2 r3
                (try simp only [Act.put, Ord.a, Ord.b, Ord.c])
                replace P7 := P7.set2 (u := .int .i64 p) (v := .int .i64 r)
                replace P8 := P8.away2 (m := V1.heap.size) (i := 0) (j := 1) (u := .int .i64 p) (v := .int .i64 r) (by omega)
                replace hE := hE'
                clear hE'
                generalize (V4.setCell ⟨V1.heap.size, 0, none⟩ (.int .i64 p)).setCell ⟨V1.heap.size, 1, none⟩ (.int .i64 r) = V5 at *
                obtain ⟨⟨r0, r1⟩, r2, r3⟩ := P8.two
                refine wpAnyH_ready (rs := [10]) (by kernel_rfl) (by simp) ?_
                refine AllReadyH.cons rfl (fun K hK => ?_) AllReadyH.nil
                go_simp
                have hE' : Ext wr ((V5.setCell ⟨V0.heap.size, 0, none⟩ (.int .i64 u)).setCell ⟨V0.heap.size, 1, none⟩ (.int .i64 s)) := (hE.setNew (by simp; omega) _).setNew (by simp; omega) _
                refine hK.out _ _ hE' (fun hHeld => ?_)
                clear hK K r0 r1 r2 r3
                (try simp only [Act.put, Ord.a, Ord.b, Ord.c])
                replace P8 := P8.set2 (u := .int .i64 u) (v := .int .i64 s)
                replace P7 := P7.away2 (m := V0.heap.size) (i := 0) (j := 1) (u := .int .i64 u) (v := .int .i64 s) (by omega)
                replace hE := hE'
                clear hE'
                generalize (V5.setCell ⟨V0.heap.size, 0, none⟩ (.int .i64 u)).setCell ⟨V0.heap.size, 1, none⟩ (.int .i64 s) = V6 at *
                refine wpAnyH_done (by kernel_rfl) ?_ _
                go_wp2_with fail
                go_meet
                exact ⟨⟨_, rfl, P7⟩, ⟨_, rfl, P8⟩, hE⟩
      case rest =>
        obtain ⟨⟨B8, rfl, G8⟩, ⟨B9, rfl, G9⟩, hyc⟩ := hcut
        have YC := Lib.hid hyc
        have TA := Lib.hid (fun w' => show Calls Tryz.prog 155 #[Pt x y, Pt p r] w' fun e w'' => e = .returned (.int .i64 tA) ∧ Ext w' w'' by rw [TT1.out]; exact tackS_any x y p r w' AW.out.1 AW.out.2 D1.out.1 D1.out.2)
        have TB := Lib.hid (fun w' => show Calls Tryz.prog 155 #[Pt x y, Pt u s] w' fun e w'' => e = .returned (.int .i64 tB) ∧ Ext w' w'' by rw [TT2.out]; exact tackS_any x y u s w' AW.out.1 AW.out.2 D2.out.1 D2.out.2)
        have p0 : ∀ w', Ext wc w' → w'.cell? ⟨B8, 0, none⟩ = some (.int .i64 p) := fun w' h => h.cellOf G8.two.1.1
        have p1 : ∀ w', Ext wc w' → w'.cell? ⟨B8, 1, none⟩ = some (.int .i64 r) := fun w' h => h.cellOf G8.two.1.2
        have q0 : ∀ w', Ext wc w' → w'.cell? ⟨B9, 0, none⟩ = some (.int .i64 u) := fun w' h => h.cellOf G9.two.1.1
        have q1 : ∀ w', Ext wc w' → w'.cell? ⟨B9, 1, none⟩ = some (.int .i64 s) := fun w' h => h.cellOf G9.two.1.2
        have g0 : ∀ w', Ext wc w' → w'.cell? ⟨w.heap.size, 0, none⟩ = some (.int .i64 x) := fun w' h => (EW.out w' (HX.out.trans (hyc.trans h))).1
        have g1 : ∀ w', Ext wc w' → w'.cell? ⟨w.heap.size, 1, none⟩ = some (.int .i64 y) := fun w' h => (EW.out w' (HX.out.trans (hyc.trans h))).2
        have hr := Ext.refl wc
        have PP := Lib.hid (And.intro p0 (And.intro p1 (And.intro q0 (And.intro q1 (And.intro g0 g1)))))
        clear G8 G9 e2 ct
        go_wp2_with fail
        refine wp_region_held_drew (S := (fun w' => Ext wc w')) (by kernel_rfl) (by (try dsimp only); first | go_keep | exact (Ext.refl _).drew | exact Res.new2.drew | exact Res.new4.drew | exact ResB.drew (by assumption) | exact ResC.drew (by assumption) | assumption | exact Ext.drew (by assumption) | exact Res.drew (by assumption)) (fun hHeld => ?_)
        refine Ord.K 0 26 ?_
        refine Ord.K 1 27 ?_
        refine Ord.K 3 29 ?_
        refine Ord.K 4 30 ?_
        (refine wpAnyH_ready (rs := [2]) (by kernel_rfl) (by simp) ?_; refine AllReadyH.cons rfl (fun K hK => ?_) AllReadyH.nil; go_simp; (first | (go_at_call 155; with_reducible refine (TA.out _).mono ?_; rintro e w3 ⟨rfl, hy⟩) | (go_at_call 155; with_reducible refine (TB.out _).mono ?_; rintro e w3 ⟨rfl, hy⟩)); go_wp2_with fail; (refine hK.out _ _ (by first | assumption | exact Ext.trans (by assumption) hy | exact Res.ext (by assumption) hy | exact ResB.ext (by assumption) hy | exact ResC.ext (by assumption) hy | (go_split_ands; (repeat' apply And.intro) <;> exact Ext.cellOf hy (by assumption))) (fun hHeld => ?_)); clear hK K; (try simp only [Act.put, Ord.a, Ord.b, Ord.c]))
        (refine wpAnyH_ready (rs := [5]) (by kernel_rfl) (by simp) ?_; refine AllReadyH.cons rfl (fun K hK => ?_) AllReadyH.nil; go_simp; (first | (go_at_call 155; with_reducible refine (TA.out _).mono ?_; rintro e w3 ⟨rfl, hy⟩) | (go_at_call 155; with_reducible refine (TB.out _).mono ?_; rintro e w3 ⟨rfl, hy⟩)); go_wp2_with fail; (refine hK.out _ _ (by first | assumption | exact Ext.trans (by assumption) hy | exact Res.ext (by assumption) hy | exact ResB.ext (by assumption) hy | exact ResC.ext (by assumption) hy | (go_split_ands; (repeat' apply And.intro) <;> exact Ext.cellOf hy (by assumption))) (fun hHeld => ?_)); clear hK K; (try simp only [Act.put, Ord.a, Ord.b, Ord.c]))
        refine Ord.K 6 32 ?_
        refine Ord.K 7 33 ?_
        refine wpAnyH_done (by kernel_rfl) ?_ _
        have hH : Ext wc w3 := hHeld
        clear hHeld hy p0 p1 q0 q1 g0 g1 hr
        cases hop : opB tA tB
        · have HE2 := Lib.hid (HN.out hop)
          have hm := OM.out
          rw [hop, Bool.not_false] at hm
          go_wp2
          go_roundw
          case rel => exact ⟨j + 1, by go_num, by omega, by rw [HE2.out]; exact HO.out.ext (YC.out.trans hH), HX.out.trans (YC.out.trans hH)⟩
          case measure => simp [intOf]; omega
        · have HE2 := Lib.hid (HY.out hop)
          obtain ⟨n1, n2⟩ := HE.out hop
          have hm := OM.out
          rw [hop, Bool.not_true] at hm
          have A1 := Lib.hid (fun w' => alongS_any x y p r w' AW.out.1 AW.out.2 D1.out.1 D1.out.2 n1)
          have A2 := Lib.hid (fun w' => alongS_any x y u s w' AW.out.1 AW.out.2 D2.out.1 D2.out.2 n2)
          have l1 := lw_bd AW.out.1 AW.out.2 D1.out.1 D1.out.2 n1
          have l2 := lw_bd AW.out.1 AW.out.2 D2.out.1 D2.out.2 n2
          have hkn : (lwN x y p r + lwN x y u s < 0 ∧ kA = 1) ∨ (¬ lwN x y p r + lwN x y u s < 0 ∧ kA = 2) := by
            rw [TK.out]; unfold knN
            by_cases h : lwN x y p r + lwN x y u s < 0
            · exact .inl ⟨h, if_pos h⟩
            · exact .inr ⟨h, if_neg h⟩
          have TS : IntKind.i64.wrap (lwN x y p r + lwN x y u s) = lwN x y p r + lwN x y u s := IntWalk.i64_in _ (by omega)
          clear l1 l2 n1 n2 TK
          generalize lwN x y p r = LA at *
          generalize lwN x y u s = LB at *
          have p0 : ∀ w', Ext w3 w' → w'.cell? ⟨B8, 0, none⟩ = some (.int .i64 p) := fun w' h => PP.out.1 w' (hH.trans h)
          have p1 : ∀ w', Ext w3 w' → w'.cell? ⟨B8, 1, none⟩ = some (.int .i64 r) := fun w' h => PP.out.2.1 w' (hH.trans h)
          have q0 : ∀ w', Ext w3 w' → w'.cell? ⟨B9, 0, none⟩ = some (.int .i64 u) := fun w' h => PP.out.2.2.1 w' (hH.trans h)
          have q1 : ∀ w', Ext w3 w' → w'.cell? ⟨B9, 1, none⟩ = some (.int .i64 s) := fun w' h => PP.out.2.2.2.1 w' (hH.trans h)
          have g0 : ∀ w', Ext w3 w' → w'.cell? ⟨w.heap.size, 0, none⟩ = some (.int .i64 x) := fun w' h => PP.out.2.2.2.2.1 w' (hH.trans h)
          have g1 : ∀ w', Ext w3 w' → w'.cell? ⟨w.heap.size, 1, none⟩ = some (.int .i64 y) := fun w' h => PP.out.2.2.2.2.2 w' (hH.trans h)
          have hr := Ext.refl w3
          have H3 := Lib.hid (YC.out.trans hH)
          go_wp2_with fail
          refine wp_region_held_drew (S := (fun w' => Ext w3 w')) (by kernel_rfl) (by (try dsimp only); first | go_keep | exact (Ext.refl _).drew | exact Res.new2.drew | exact Res.new4.drew | exact ResB.drew (by assumption) | exact ResC.drew (by assumption) | assumption | exact Ext.drew (by assumption) | exact Res.drew (by assumption)) (fun hHeld => ?_)
          refine Ord.K 0 34 ?_
          refine Ord.K 1 35 ?_
          refine Ord.K 3 37 ?_
          refine Ord.K 4 38 ?_
          (refine wpAnyH_ready (rs := [2]) (by kernel_rfl) (by simp) ?_; refine AllReadyH.cons rfl (fun K hK => ?_) AllReadyH.nil; go_simp; (first | (go_at_call 306; with_reducible refine (A1.out _).mono ?_; rintro e w4 ⟨rfl, hy⟩) | (go_at_call 306; with_reducible refine (A2.out _).mono ?_; rintro e w4 ⟨rfl, hy⟩)); go_wp2_with fail; (refine hK.out _ _ (by first | assumption | exact Ext.trans (by assumption) hy | exact Res.ext (by assumption) hy | exact ResB.ext (by assumption) hy | exact ResC.ext (by assumption) hy | (go_split_ands; (repeat' apply And.intro) <;> exact Ext.cellOf hy (by assumption))) (fun hHeld => ?_)); clear hK K; (try simp only [Act.put, Ord.a, Ord.b, Ord.c]))
          (refine wpAnyH_ready (rs := [5]) (by kernel_rfl) (by simp) ?_; refine AllReadyH.cons rfl (fun K hK => ?_) AllReadyH.nil; go_simp; (first | (go_at_call 306; with_reducible refine (A1.out _).mono ?_; rintro e w4 ⟨rfl, hy⟩) | (go_at_call 306; with_reducible refine (A2.out _).mono ?_; rintro e w4 ⟨rfl, hy⟩)); go_wp2_with fail; (refine hK.out _ _ (by first | assumption | exact Ext.trans (by assumption) hy | exact Res.ext (by assumption) hy | exact ResB.ext (by assumption) hy | exact ResC.ext (by assumption) hy | (go_split_ands; (repeat' apply And.intro) <;> exact Ext.cellOf hy (by assumption))) (fun hHeld => ?_)); clear hK K; (try simp only [Act.put, Ord.a, Ord.b, Ord.c]))
          refine Ord.K 6 40 ?_
          refine Ord.K 7 41 ?_
          refine wpAnyH_done (by kernel_rfl) ?_ _
          have hH4 : Ext w3 w4 := hHeld
          clear hHeld hy p0 p1 q0 q1 g0 g1 hr
          have hlen := mnL_len x y fs j
          have P3 := Lib.hid (show (mnL x y fs j).length + 1 ≤ maxLen by unfold maxLen; omega)
          have P4 := Lib.hid (show ((mnL x y fs j).length + 1) * 16 ≤ 140737488355328 by omega)
          have XA := Lib.hid (HX.out.trans ((H3.out.trans hH4).alloc (.cells #[.int .i64 ((j : Int) + 1), .int .i64 kA] 235)))
          have OA := row_ext HO.out ((H3.out.trans hH4).alloc (.cells #[.int .i64 ((j : Int) + 1), .int .i64 kA] 235))
          have CC := Lib.hid (two_cells (n := w4.heap.size) (w := w4) (u := .int .i64 ((j : Int) + 1)) (v := .int .i64 kA) (t := 235) rfl)
          have P1 := Lib.hid (two_ints ((j : Int) + 1) kA)
          have zA := Lib.hid (Ext.size XA.out)
          rcases hkn with ⟨h, rfl⟩ | ⟨h, rfl⟩
          all_goals
            go_wp2_with (at_builtin; refine wpList_append_own _ rfl _ _ 231 rfl W0.heap.size 235 ti (Pt 0 0) 2 16 Tryz.underlying231 hin hz0 hz1 hz2 rfl (by decide) _ (mnL x y fs j).length _ rfl OA ⟨w4.heap.size, 0, none⟩ 1 1 _ rfl rfl CC.out P1.out P3.out P4.out zA.out ?_; intro v1 w6 hown hgrow hnil; have O6 := Lib.hid (show OwnM w6 W0.heap.size v1 (mnL x y fs (j + 1)) by rw [HE2.out]; exact OwnM.snoc hown); have X6 := Lib.hid (row_grown (w0 := W0) OA hgrow (Nat.le_refl _) XA.out); clear hown hgrow hnil OA)
            go_roundw
            case rel => exact ⟨j + 1, by go_num, by omega, O6.out, X6.out⟩
            case measure => simp [intOf]; omega
    · obtain rfl : j = fs.length - 2 := by omega
      have NJ : (((fs.length - 2 : Nat) : Int)) + 1 + 1 = (fs.length : Int) := by omega
      have NK : IntKind.i64.wrap (((fs.length - 2 : Nat) : Int) + 1 + 1) = (fs.length : Int) := by rw [NJ]; exact IntWalk.i64_in _ (by omega)
      go_wp2
      go_ret
      exact ⟨_, rfl, HO.out.mono (Ext.size HW.out), HW.out.trans HX.out⟩
end Go.Proofs.YtmlojndkpnhalaaGreat.Wnd
